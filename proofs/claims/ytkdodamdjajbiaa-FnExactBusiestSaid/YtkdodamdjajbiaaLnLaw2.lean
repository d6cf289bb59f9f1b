/- The laws' own functions over ledgers and entries: a ledger's copy, whether two are the same, marks in one's own lines; an entry's copy. -/
import Derived.Test.YtkdodamdjajbiaaLnLaw
namespace Go.Proofs.Ytkdodamdjajbiaa
open Go.RowKit
set_option maxRecDepth 100000

set_option maxHeartbeats 800000 in
theorem toLedger_any (ao : Option Addr) (cap : Nat) (ls : List Ln) (w : World) (hz : LinesAt w ao ls) (hn : ls.length ≤ 1048576) :
    Calls Try.prog 34 #[.agg #[.slice ao ls.length cap]] w fun e w' => ∃ g, e = .returned (.agg #[.slice (some ⟨g, 0, none⟩) ls.length ls.length]) ∧
      w'.ownsRow w.heap.size 100 3 (.slice (some ⟨g, 0, none⟩) ls.length ls.length) ls.length (lcells ls) ∧ Below w.heap.size w w' := by
  go_enter Try.func34, Try.ntmps34
  go_wp2_with fail
  refine (toLineS_any _ _ _ _ (hz.below (by go_grown)) hn).mono ?_
  rintro e w1 ⟨rfl, ho, b1⟩
  generalize hW : (((w.alloc (.cells #[.slice ao ls.length cap] 27)).alloc (.cells #[.slice none 0 0] 37)).alloc (.cells #[.slice none 0 0] 37)) = W at ho b1 ⊢
  have hs : W.heap.size = w.heap.size + 3 := by rw [← hW]; simp
  have bW : Below w.heap.size w W := by rw [← hW]; go_grown
  have c1 : w1.cell? ⟨w.heap.size + 1, 0, none⟩ = some (.slice none 0 0) := (b1.cell (p := ⟨w.heap.size + 1, 0, none⟩) (by rw [hs]; simp)).trans (by rw [← hW]; simp [go_sem])
  have c3 : w1.cell? ⟨w.heap.size + 1 + 1, 0, none⟩ = some (.slice none 0 0) := (b1.cell (p := ⟨w.heap.size + 1 + 1, 0, none⟩) (by rw [hs]; simp)).trans (by rw [← hW]; simp [go_sem])
  have z1 : w1.frozen? ⟨w.heap.size + 1, 0, none⟩ = false := (b1.frozen (p := ⟨w.heap.size + 1, 0, none⟩) (by rw [hs]; simp)).trans (by rw [← hW]; simp [go_sem])
  have z3 : w1.frozen? ⟨w.heap.size + 1 + 1, 0, none⟩ = false := (b1.frozen (p := ⟨w.heap.size + 1 + 1, 0, none⟩) (by rw [hs]; simp)).trans (by rw [← hW]; simp [go_sem])
  have HB : Hid (Below w.heap.size w w1) := bW.trans (b1.mono (by rw [hs]; omega))
  have HO : Hid (w1.ownsRow W.heap.size 100 3 (.slice (some ⟨W.heap.size, 0, none⟩) ls.length ls.length) ls.length (lcells ls)) := ho
  have HS : Hid _ := hs
  clear b1 bW hW ho hs hz
  go_wp2
  refine bodyPost_ret (by simp [results, Try.results34, go_sem, c1]; try rfl) rfl ?_
  refine ⟨W.heap.size, rfl, ?_, (HB.out.setCell (by show w.heap.size ≤ w.heap.size + 1 + 1; omega) _).setCell (by show w.heap.size ≤ w.heap.size + 1; omega) _⟩
  have hs := HS.out
  have hne : ∀ (c : Nat) (g : Nat), c ≤ 2 → (Value.slice (some ⟨W.heap.size, 0, none⟩) ls.length ls.length).ownBlock = some g → g ≠ w.heap.size + c := by
    intro c g hc h
    simp [Value.ownBlock] at h
    omega
  exact lowerL (keepSetL (keepSetL HO.out _ _ (fun g h => hne 2 g (by omega) h)) _ _ (fun g h => hne 1 g (by omega) h)) (by omega)

set_option maxHeartbeats 800000 in
theorem eqLedger_same (ao bo : Option Addr) (c1 c2 : Nat) (ls : List Ln) (w : World) (hx : LinesAt w ao ls) (hy : LinesAt w bo ls) (h1 : ls.length ≤ 1099511627776) :
    Calls Try.prog 42 #[.agg #[.slice ao ls.length c1], .agg #[.slice bo ls.length c2]] w fun e w' => e = .returned (.bool true) ∧ Below w.heap.size w w' := by
  have bel : Below w.heap.size w ((w.alloc (.cells #[.slice ao ls.length c1] 37)).alloc (.cells #[.slice bo ls.length c2] 37)) := by go_grown
  have hx1 := hx.below bel
  have hy1 := hy.below bel
  have HB : Hid _ := bel
  clear bel hx hy
  go_enter Try.func42, Try.ntmps42
  go_wp2_with fail
  refine (eqLineS_same _ _ _ _ _ _ hx1 hy1 h1).mono ?_
  rintro e w1 ⟨rfl, b1⟩
  have bb := HB.out.trans (b1.mono HB.out.size)
  clear b1 hx1 hy1
  go_wp2
  go_ret
  exact ⟨rfl, bb⟩

/-- the marks of n lines, from k on -/
def mkL (k n : Nat) : List Ln := (List.range n).map fun i => (((k + 3 * i : Nat) : Int), ((k + 3 * i + 1 : Nat) : Int), ((k + 3 * i + 2 : Nat) : Int))
theorem mkL_len (k n : Nat) : (mkL k n).length = n := by simp [mkL]
theorem mkL_at (k n i : Nat) (h : i < n) : lnAt (mkL k n) i = (((k + 3 * i : Nat) : Int), ((k + 3 * i + 1 : Nat) : Int), ((k + 3 * i + 2 : Nat) : Int)) := by simp [lnAt, mkL, List.getD_eq_getElem?_getD, h]
def fillL (ls : List Ln) (k j : Nat) : List Ln := mkL k j ++ ls.drop j
theorem fillL_len (ls : List Ln) (k j : Nat) (h : j ≤ ls.length) : (fillL ls k j).length = ls.length := by simp [fillL, mkL_len]; omega
theorem fillL_zero (ls : List Ln) (k : Nat) : fillL ls k 0 = ls := by simp [fillL, mkL]
theorem fillL_all (ls : List Ln) (k : Nat) : fillL ls k ls.length = mkL k ls.length := by simp [fillL]
theorem fillL_succ (ls : List Ln) (k j : Nat) (h : j < ls.length) : (fillL ls k j).set j (((k + 3 * j : Nat) : Int), ((k + 3 * j + 1 : Nat) : Int), ((k + 3 * j + 2 : Nat) : Int)) = fillL ls k (j + 1) := by
  unfold fillL
  rw [List.set_append, if_neg (by rw [mkL_len]; omega), mkL_len, Nat.sub_self, List.drop_eq_getElem_cons h, List.set_cons_zero]
  simp [mkL, List.range_succ]






end Go.Proofs.Ytkdodamdjajbiaa
