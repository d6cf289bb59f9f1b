/- append onto a row of one's own, of whatever list of authorizations, one that is nil too. -/
import Derived.Test.YtpjfigjgamlcdaaAuOwn
import Derived.Lib.AppendZeros
import Derived.Maps.AppendAt
import Derived.Deep.AppendLies
namespace Go.Proofs.Ytpjfigjgamlcdaa
open Go.RowKit

theorem auths_news {w : World} {b off : Nat} {xs : List Au} (h : AuthsAt w (some ⟨b, off, none⟩) xs) : ∀ j u, (acells xs)[j]? = some u → w.cell? ((⟨b, off, none⟩ : Addr).add j) = some u := by
  intro j u hj
  have hlt : j < xs.length * 6 := by
    rw [← acells_len]
    exact (List.getElem?_eq_some_iff.1 hj).1
  rcases h with rfl | ⟨b', off', hq, hb, hc⟩
  · simp at hlt
  · obtain ⟨rfl, rfl⟩ : b = b' ∧ off = off' := by simpa using hq
    have e : ((⟨b, off, none⟩ : Addr).add j) = ⟨b, off + j, none⟩ := by unfold Addr.add; split <;> simp_all
    obtain ⟨k0, k1, k2, k3, k4, k5⟩ := hc (j / 6) (by omega)
    obtain ⟨f0, f1, f2, f3, f4, f5⟩ := acells_at xs (j / 6) (by omega)
    rw [e]
    rcases (show j % 6 = 0 ∨ j % 6 = 1 ∨ j % 6 = 2 ∨ j % 6 = 3 ∨ j % 6 = 4 ∨ j % 6 = 5 by omega) with e | e | e | e | e | e
    · rw [show j = j / 6 * 6 by omega, f0] at hj
      rw [show off + j = off + j / 6 * 6 by omega, k0]
      exact hj
    · rw [show j = j / 6 * 6 + 1 by omega, f1] at hj
      rw [show off + j = off + j / 6 * 6 + 1 by omega, k1]
      exact hj
    · rw [show j = j / 6 * 6 + 2 by omega, f2] at hj
      rw [show off + j = off + j / 6 * 6 + 2 by omega, k2]
      exact hj
    · rw [show j = j / 6 * 6 + 3 by omega, f3] at hj
      rw [show off + j = off + j / 6 * 6 + 3 by omega, k3]
      exact hj
    · rw [show j = j / 6 * 6 + 4 by omega, f4] at hj
      rw [show off + j = off + j / 6 * 6 + 4 by omega, k4]
      exact hj
    · rw [show j = j / 6 * 6 + 5 by omega, f5] at hj
      rw [show off + j = off + j / 6 * 6 + 5 by omega, k5]
      exact hj

theorem run_append_auths (w : World) (base : Nat) (ty : TypeId) (v : Value) (n : Nat) (xs : List Value) (hown : w.ownsRow base 30 6 v n xs) (ao : Option Addr) (c : Nat) (az : List Au) (hz : AuthsAt w ao az)
    (hn : n + az.length ≤ 5000000) (hbase : base ≤ w.heap.size) :
    ∃ v' w', (Builtin.append_ #[24, 24] ty #[v, .slice ao az.length c]).run Try.prog w = .ok v' w' ∧ w'.ownsRow base 30 6 v' (n + az.length) (xs ++ acells az) ∧ w.grownBy w' v.ownBlock ∧
      (v ≠ .slice none 0 0 → v' ≠ .slice none 0 0) := by
  obtain ⟨i0, hi, hz0, hz1, hz2⟩ := info_parts infoA
  cases ao with
  | none =>
    have hf : az = [] := by
      rcases hz with h | ⟨b, off, h, _⟩
      · exact h
      · cases h
    subst hf
    refine ⟨v, w, ?_, by simpa [acells] using hown, ⟨rfl, rfl, rfl, Nat.le_refl _, fun _ _ _ => rfl⟩, id⟩
    have hu := Try.underlying24
    rcases hown.2 with ⟨rfl, rfl⟩ | ⟨g, cap, cur, rfl, hbg, hg, hnc, hcm, hcs, htake⟩
    · simp [Builtin.append_, run_underlying hu, sizeOf, typeInfo, hi, Builtin.lenOf, Builtin.firstCells]
    · simp [Builtin.append_, run_underlying hu, sizeOf, typeInfo, hi, Builtin.lenOf, Builtin.firstCells, loadCells, hnc, storeCells]
  | some a =>
    have hnews : ∀ j u, (acells az)[j]? = some u → w.cell? (a.add j) = some u := by
      rcases hz with rfl | ⟨b, off, hq, hb, hc⟩
      · intro j u hj; simp [acells] at hj
      · obtain rfl : a = ⟨b, off, none⟩ := by simpa using hq
        exact auths_news (.inr ⟨b, off, rfl, hb, hc⟩)
    obtain ⟨v', w', h1, h2, h3, h4, _⟩ := run_append_own_at (P := Try.prog) w base 24 ty 30 i0 _ 6 56 Try.underlying24 hi hz0 hz1 hz2 rfl (by decide) v n xs hown a az.length c (acells az) (acells_len az) hnews (acells_one az) (by unfold maxLen; omega) (by omega) hbase
    exact ⟨v', w', h1, h2, h3, fun hne h => hne (h4.1 h).1⟩

theorem wpList_append_auths {ops : Array Oper} {rest : List Oper} {o : Oper} {a : Act} {Q : Exit → Act → World → Prop} (w : World) (hgd : o.guard = none) (s x : Operand)
    (ho : o.op = .call { callee := .builtin .append, args := #[s, x], argTypes := #[24, 24] }) (base : Nat) (v : Value) (n : Nat) (xs : List Value) (hs : a.eval s = v) (hown : w.ownsRow base 30 6 v n xs)
    (ao : Option Addr) (c : Nat) (az : List Au) (hx : a.eval x = .slice ao az.length c) (hz : AuthsAt w ao az) (hn : n + az.length ≤ 5000000) (hbase : base ≤ w.heap.size)
    (h : ∀ v' w', w'.ownsRow base 30 6 v' (n + az.length) (xs ++ acells az) → w.grownBy w' v.ownBlock → (v ≠ .slice none 0 0 → v' ≠ .slice none 0 0) → wpList Try.prog ops Q rest (a.put o.dst v') w') : wpList Try.prog ops Q (o :: rest) a w := by
  obtain ⟨v', w', hr, h1, h2, h3⟩ := run_append_auths w base o.type v n xs hown ao c az hz hn hbase
  exact Lib.wpList_append_run w hgd s x _ _ ho _ _ hs hx v' w' hr (h v' w' h1 h2 h3)

theorem auLit (w : World) : (w.alloc (.cells #[] 30)).ownsRow w.heap.size 30 6 (.slice (some ⟨w.heap.size, 0, none⟩) 0 0) 0 [] := World.ownsRow_lit w #[] 0 (Nat.le_refl _) (by unfold maxLen; omega) rfl
theorem auShape {w : World} {base n : Nat} {v : Value} {xs : List Value} (h : w.ownsRow base 30 6 v n xs) : ∃ ao cap, v = .slice ao n cap := by
  rcases h.2 with ⟨rfl, rfl⟩ | ⟨g, c, cur, rfl, _⟩
  · exact ⟨none, 0, rfl⟩
  · exact ⟨_, c, rfl⟩
theorem au_notnil {w : World} {base n : Nat} {v : Value} {xs : List Value} (h : w.ownsRow base 30 6 v n xs) (hv : v ≠ .slice none 0 0) : ∃ g c, v = .slice (some ⟨g, 0, none⟩) n c := by
  rcases h.2 with ⟨h, _⟩ | ⟨g, c, cur, h, _⟩
  · exact absurd h hv
  · exact ⟨g, c, h⟩
/-- what a function leaves that answers a list of its own, and a flag -/
def AuR2 (u : World) (L : List Au) (q : Bool) (e : Ending) (u' : World) : Prop :=
  ∃ ao cap, e = .returned (.tuple #[.slice ao L.length cap, .bool q]) ∧ u'.ownsRow u.heap.size 30 6 (.slice ao L.length cap) L.length (acells L) ∧ Below u.heap.size u u'
def AuR1 (u : World) (L : List Au) (e : Ending) (u' : World) : Prop :=
  ∃ ao cap, e = .returned (.slice ao L.length cap) ∧ u'.ownsRow u.heap.size 30 6 (.slice ao L.length cap) L.length (acells L) ∧ Below u.heap.size u u'

end Go.Proofs.Ytpjfigjgamlcdaa
