/- Slices of ints: reading them, copying them, holding them against each other. -/
import Derived.Test.YtopgcfgomappjaaDoorBase
import Derived.OwnWalk
namespace Go.Proofs.YtopgcfgomappjaaDoor
open Go.RowKit

/-- The slice at 'ao' reads as 'zs' in w. -/
def IntsAt (w : World) (ao : Option Addr) (zs : List Int) : Prop :=
  zs = [] ∨ ∃ b off, ao = some ⟨b, off, none⟩ ∧ b < w.heap.size ∧ ∀ i, i < zs.length → w.cell? ⟨b, off + i, none⟩ = some (.int .i64 (zs.getD i 0))

theorem IntsAt.below {w w' : World} {ao : Option Addr} {zs : List Int} (h : IntsAt w ao zs) (hb : Below w.heap.size w w') : IntsAt w' ao zs := by
  rcases h with h | ⟨b, off, h1, h2, h3⟩
  · exact .inl h
  · exact .inr ⟨b, off, h1, Nat.lt_of_lt_of_le h2 hb.size, fun i hi => (hb.cell (p := ⟨b, off + i, none⟩) h2).trans (h3 i hi)⟩

theorem getD_take {zs : List Int} {len i : Nat} (h : i < len) : (zs.take len).getD i 0 = zs.getD i 0 := by
  simp [List.getD_eq_getElem?_getD, h]

theorem ints_of_row {w : World} {a : Option Addr} {len cap : Nat} {zs : List Int} (h : IsRow .i64 w a len cap zs) : (zs.take len).length = len ∧ IntsAt w a (zs.take len) := by
  rcases h with ⟨rfl, rfl, rfl, rfl⟩ | ⟨x, rfl, hl, hm, hz, hcell, hwz⟩
  · exact ⟨rfl, .inl rfl⟩
  · have hlen : (zs.take len).length = len := by rw [List.length_take]; omega
    refine ⟨hlen, ?_⟩
    by_cases h0 : len = 0
    · subst h0; exact .inl (by simp)
    · obtain ⟨b, off, spot⟩ := x
      have hc := hcell 0 (by omega)
      have hspot : spot = none := by simpa [Addr.add] using World.cell?_spot hc
      subst hspot
      refine .inr ⟨b, off, rfl, ?_, fun i hi => ?_⟩
      · exact World.block_lt_of_cell? w _ hc
      · rw [hlen] at hi
        rw [getD_take hi]
        have := hcell i (by omega)
        by_cases e : i = 0
        · subst e; simpa [Addr.add] using this
        · simpa [Addr.add, e] using this

theorem ints_of_own {w : World} {base g n cap : Nat} {zs : List Int} (h : w.ownsRow base 3 1 (.slice (some ⟨g, 0, none⟩) n cap) n (zs.map (Value.int .i64))) : IntsAt w (some ⟨g, 0, none⟩) zs := by
  by_cases h0 : zs = []
  · exact .inl h0
  · have hl : zs.length = n := by simpa using h.1
    have hp : 0 < zs.length := List.length_pos_iff.2 h0
    have hc : ∀ i, i < zs.length → w.cell? ⟨g, 0 + i, none⟩ = some (.int .i64 (zs.getD i 0)) := by
      intro i hi
      rw [Nat.zero_add, h.cellAt i (by omega)]
      simp [List.getD_eq_getElem?_getD, hi]
    exact .inr ⟨g, 0, rfl, World.block_lt_of_cell? w _ (hc 0 hp), hc⟩

theorem info3 : (Tryd.prog.info? 3).map (fun i => (i.zero, i.size, i.bytes)) = some (some (.int .i64 0), 1, 8) := by kernel_rfl

/-- what toIntS has copied behind k rounds -/
def half (zs : List Int) (k : Nat) : List Value := (zs.take k).map (Value.int .i64) ++ List.replicate (zs.length - k) (.int .i64 0)
theorem half_zero (zs : List Int) : half zs 0 = List.replicate zs.length (.int .i64 0) := by simp [half]
theorem half_all (zs : List Int) : half zs zs.length = zs.map (Value.int .i64) := by simp [half]
theorem half_succ (zs : List Int) (k : Nat) (h : k < zs.length) : half zs (k + 1) = (half zs k).set k (.int .i64 (zs.getD k 0)) := by
  apply List.ext_getElem?
  intro j
  simp only [half, List.getElem?_set, List.getElem?_append, List.length_map, List.length_take, List.getElem?_map, List.getElem?_take, List.getElem?_replicate, List.getD_eq_getElem?_getD, List.length_append, List.length_replicate]
  by_cases h1 : j < k
  · have : j < zs.length := by omega
    have : ¬ k = j := by omega
    simp [*, Nat.min_eq_left (Nat.le_of_lt h), Nat.min_eq_left (show k + 1 ≤ zs.length by omega), show j < k + 1 by omega]
  · by_cases h2 : j = k
    · subst h2
      have : j < j + (zs.length - j) := by omega
      simp [*, Nat.min_eq_left (Nat.le_of_lt h), Nat.min_eq_left (show j + 1 ≤ zs.length by omega)]
    · have : ¬ k = j := by omega
      have a1 : ¬ j < k + 1 := by omega
      simp [*, Nat.min_eq_left (Nat.le_of_lt h), Nat.min_eq_left (show k + 1 ≤ zs.length by omega)]
      by_cases h3 : j < zs.length
      · rw [if_pos (by omega), if_pos (by omega)]
      · rw [if_neg (by omega), if_neg (by omega)]
theorem half_len (zs : List Int) (k : Nat) (h : k ≤ zs.length) : (half zs k).length = zs.length := by simp [half]; omega
theorem half_at (zs : List Int) (k : Nat) (h : k < zs.length) : (half zs k)[k]? = some (.int .i64 0) := by
  simp [half, List.getElem?_append, Nat.min_eq_left (Nat.le_of_lt h), List.getElem?_replicate]
  omega


end Go.Proofs.YtopgcfgomappjaaDoor
