/- The contracts of the function that UnpackMessage defers: in a frame that panics with a fault, and in one that returns. -/
import Derived.Test.YtbncdhfmhokgeaaGreatDoorJFnBatch6a
import Derived.Defers
import Derived.Recover
namespace Go.Proofs.YtbncdhfmhokgeaaGreatDoor
open Go.RowKit

set_option maxRecDepth 100000 in
set_option maxHeartbeats 1600000 in
theorem catch_idle (p q r : Addr) (w : World) :
    CallsD Tryz.prog 46 #[.pointer (some p), .pointer (some q), .pointer (some r)] .returning w fun e u' w' => e = .returned (.tuple #[]) ∧ u' = .returning ∧ w' = w := by
  refine callsD_of_wpS Tryz.func46 rfl fun c₀ cs hu => ?_
  apply wpS_seq
  apply wpS_region
  simp [wpOpsS, go_sem, recoverD, hu, Tryz.ntmps46, Exit.thenS]
  apply wpS_seq
  apply wpS_region
  simp [wpOpsS, go_sem, recoverD, hu, Exit.thenS]
  refine wpS_cond (t := false) (by simp [Act.eval, Array.replicate]) ?_
  simp only [Bool.false_eq_true, if_false]
  refine wpS_of_wp (wp_skip ?_)
  cases c₀
  simp_all [bodyPostS, results, Tryz.results46]

set_option maxRecDepth 100000 in
set_option maxHeartbeats 1600000 in
theorem catch_fault (B : Nat) (c a : Int) (older : List PanicEntry) (x0 x1 x2 x3 : Value) (w : World) (hg : ErrTy w)
    (h0 : w.cell? ⟨B, 0, none⟩ = some x0) (h1 : w.cell? ⟨B, 1, none⟩ = some x1) (h2 : w.cell? ⟨B + 1, 0, none⟩ = some x2) (h3 : w.cell? ⟨B + 1 + 1, 0, none⟩ = some x3)
    (f0 : w.frozen? ⟨B, 0, none⟩ = false) (f1 : w.frozen? ⟨B, 1, none⟩ = false) (f2 : w.frozen? ⟨B + 1, 0, none⟩ = false) (f3 : w.frozen? ⟨B + 1 + 1, 0, none⟩ = false) :
    CallsD Tryz.prog 46 #[.pointer (some ⟨B, 0, none⟩), .pointer (some ⟨B + 1, 0, none⟩), .pointer (some ⟨B + 1 + 1, 0, none⟩)] (.panicking ({ v := faultV c a, recovered := false } :: older)) w fun e u' w' =>
      e = .returned (.tuple #[]) ∧ u' = .panicking ({ v := faultV c a, recovered := true } :: older) ∧ Below B w w' ∧
        w'.cell? ⟨B, 0, none⟩ = some (.int .i64 0) ∧ w'.cell? ⟨B, 1, none⟩ = some (.slice none 0 0) ∧ w'.cell? ⟨B + 1, 0, none⟩ = some (.int .i64 c) ∧ w'.cell? ⟨B + 1 + 1, 0, none⟩ = some (.int .i64 a) := by
  refine callsD_of_wpS Tryz.func46 rfl fun c₀ cs hu => ?_
  apply wpS_seq
  apply wpS_region
  simp [wpOpsS, go_sem, recoverD, hu, Tryz.ntmps46, Exit.thenS, faultV, Array.replicate, List.replicate]
  refine wpS_of_wp ?_
  go_wp2_with fail
  refine (faultOf_any c a _ hg).mono ?_
  rintro e w1 ⟨rfl, b1⟩
  have hlt : B + 1 + 1 < w.heap.size := World.block_lt_of_cell? w _ h3
  have y0 : w1.cell? ⟨B, 0, none⟩ = some x0 := (b1.cell (p := ⟨B, 0, none⟩) (by show B < w.heap.size; omega)).trans h0
  have y1 : w1.cell? ⟨B, 1, none⟩ = some x1 := (b1.cell (p := ⟨B, 1, none⟩) (by show B < w.heap.size; omega)).trans h1
  have y2 : w1.cell? ⟨B + 1, 0, none⟩ = some x2 := (b1.cell (p := ⟨B + 1, 0, none⟩) (by show B + 1 < w.heap.size; omega)).trans h2
  have y3 : w1.cell? ⟨B + 1 + 1, 0, none⟩ = some x3 := (b1.cell (p := ⟨B + 1 + 1, 0, none⟩) hlt).trans h3
  have g0 : w1.frozen? ⟨B, 0, none⟩ = false := (b1.frozen (p := ⟨B, 0, none⟩) (by show B < w.heap.size; omega)).trans f0
  have g1 : w1.frozen? ⟨B, 1, none⟩ = false := (b1.frozen (p := ⟨B, 1, none⟩) (by show B < w.heap.size; omega)).trans f1
  have g2 : w1.frozen? ⟨B + 1, 0, none⟩ = false := (b1.frozen (p := ⟨B + 1, 0, none⟩) (by show B + 1 < w.heap.size; omega)).trans f2
  have g3 : w1.frozen? ⟨B + 1 + 1, 0, none⟩ = false := (b1.frozen (p := ⟨B + 1 + 1, 0, none⟩) hlt).trans f3
  have hs := b1.size
  have n0 : ¬ w1.heap.size = B := by omega
  have n1 : ¬ w1.heap.size = B + 1 := by omega
  have n2 : ¬ w1.heap.size = B + 1 + 1 := by omega
  have m0 : ¬ B = w1.heap.size := by omega
  have m1 : ¬ B + 1 = w1.heap.size := by omega
  have m2 : ¬ B + 1 + 1 = w1.heap.size := by omega
  have HB : Hid (Below B w w1) := b1.mono (by omega)
  clear h0 h1 h2 h3 f0 f1 f2 f3 b1
  go_wp2
  obtain ⟨W, hW⟩ : ∃ W, w1.alloc (.cells #[.int .i64 c, .int .i64 a] 70) = W := ⟨_, rfl⟩
  rw [hW]
  have u0 : W.cell? ⟨B, 0, none⟩ = some x0 := by rw [← hW]; exact (World.cell?_alloc_lt _ _ ⟨B, 0, none⟩ (by show B < w1.heap.size; omega)).trans y0
  have u1 : W.cell? ⟨B, 1, none⟩ = some x1 := by rw [← hW]; exact (World.cell?_alloc_lt _ _ ⟨B, 1, none⟩ (by show B < w1.heap.size; omega)).trans y1
  have u2 : W.cell? ⟨B + 1, 0, none⟩ = some x2 := by rw [← hW]; exact (World.cell?_alloc_lt _ _ ⟨B + 1, 0, none⟩ (by show B + 1 < w1.heap.size; omega)).trans y2
  have u3 : W.cell? ⟨B + 1 + 1, 0, none⟩ = some x3 := by rw [← hW]; exact (World.cell?_alloc_lt _ _ ⟨B + 1 + 1, 0, none⟩ (by show B + 1 + 1 < w1.heap.size; omega)).trans y3
  have v0 : W.frozen? ⟨B, 0, none⟩ = false := by rw [← hW]; exact (World.frozen?_alloc_old _ _ ⟨B, 0, none⟩ (by show B ≠ w1.heap.size; omega)).trans g0
  have v1 : W.frozen? ⟨B, 1, none⟩ = false := by rw [← hW]; exact (World.frozen?_alloc_old _ _ ⟨B, 1, none⟩ (by show B ≠ w1.heap.size; omega)).trans g1
  have v2 : W.frozen? ⟨B + 1, 0, none⟩ = false := by rw [← hW]; exact (World.frozen?_alloc_old _ _ ⟨B + 1, 0, none⟩ (by show B + 1 ≠ w1.heap.size; omega)).trans g2
  have v3 : W.frozen? ⟨B + 1 + 1, 0, none⟩ = false := by rw [← hW]; exact (World.frozen?_alloc_old _ _ ⟨B + 1 + 1, 0, none⟩ (by show B + 1 + 1 ≠ w1.heap.size; omega)).trans g3
  have k0 : W.cell? ⟨w1.heap.size, 0, none⟩ = some (.int .i64 c) := by rw [← hW]; simp [go_sem]
  have k1 : W.cell? ⟨w1.heap.size, 1, none⟩ = some (.int .i64 a) := by rw [← hW]; simp [go_sem]
  have HBW : Hid (Below B w W) := by rw [Hid, ← hW]; exact HB.out.alloc (by omega) _
  clear y0 y1 y2 y3 g0 g1 g2 g3 hW
  go_region
  all_goals go_wp2
  all_goals
    refine ⟨rfl, _, rfl, .tuple #[], by simp [results, Tryz.results46], rfl, rfl, ?_, ?_, ?_, ?_, ?_⟩
    · exact ((((HBW.out.drew).setCell (Nat.le_refl _) _).setCell (Nat.le_refl _) _).setCell (Nat.le_succ _) _).setCell (by show B ≤ B + 1 + 1; omega) _
    · simp [go_sem, *]
    · simp [go_sem, *]
    · simp [go_sem, *]
    · simp [go_sem, *]

end Go.Proofs.YtbncdhfmhokgeaaGreatDoor
