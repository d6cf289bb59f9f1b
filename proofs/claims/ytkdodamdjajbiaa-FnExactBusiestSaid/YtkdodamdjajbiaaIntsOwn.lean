/- Slices of ints that are one's own memory. -/
import Derived.Test.YtkdodamdjajbiaaInts
import Derived.Maps.AppendAt
namespace Go.Proofs.Ytkdodamdjajbiaa
open Go.RowKit

theorem own_ints {w : World} {base : Nat} {v : Value} {zs : List Int} (h : w.ownsRow base 3 1 v zs.length (zs.map (Value.int .i64))) :
    ∃ ao cap, v = .slice ao zs.length cap ∧ IntsAt w ao zs := by
  rcases h.2 with ⟨rfl, h0⟩ | ⟨g, cap, cur, rfl, hrest⟩
  · have : zs = [] := List.eq_nil_of_length_eq_zero h0
    subst this
    exact ⟨none, 0, rfl, .inl rfl⟩
  · exact ⟨_, cap, rfl, ints_of_own h⟩
theorem own_shape {w : World} {base m : Nat} {v : Value} {xs : List Value} (h : w.ownsRow base 3 1 v m xs) : ∃ ao cap, v = .slice ao m cap := by
  rcases h.2 with ⟨rfl, rfl⟩ | ⟨g, cap, cur, rfl, hrest⟩
  · exact ⟨none, 0, rfl⟩
  · exact ⟨_, cap, rfl⟩
theorem ints_own {w : World} {base n cap : Nat} {ao : Option Addr} {zs : List Int} (h : w.ownsRow base 3 1 (.slice ao n cap) n (zs.map (Value.int .i64))) : IntsAt w ao zs := by
  have hl : zs.length = n := by simpa using h.1
  subst hl
  obtain ⟨ao', c, hv, hz⟩ := own_ints h
  obtain ⟨rfl, _⟩ : ao = ao' ∧ cap = c := by simpa using hv
  exact hz
theorem ho_ne {w : World} {base g n : Nat} {v : Value} {xs : List Value} (h : w.ownsRow base 3 1 v n xs) (hg : g < base) : v.ownBlock = none ∨ v.ownBlock ≠ some g := by
  right; intro e; have := (h.lt g e).1; omega

end Go.Proofs.Ytkdodamdjajbiaa
