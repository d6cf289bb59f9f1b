/- The contract of the program's compareLines. -/
import Derived.Test.YtnimlgdackgcoaaGreatDoorFLed2
import Derived.Sort.Grow
namespace Go.Proofs.YtnimlgdackgcoaaGreatDoor
open Go.RowKit
set_option maxRecDepth 100000

set_option maxHeartbeats 1600000 in
theorem cmpLines_any (a b c x y z : Int) (w : World) :
    Calls Tryz.prog 46 #[.agg #[.int .i64 a, .int .i64 b, .int .i64 c], .agg #[.int .i64 x, .int .i64 y, .int .i64 z]] w fun e w' => e = .returned (.int .i64 (cmpL (a, b, c) (x, y, z))) ∧ ∃ q os, w' = Go.Sort.grow (w.drewN q) os := by
  obtain ⟨p, hp⟩ : ∃ p, cmpI a x = p := ⟨_, rfl⟩
  obtain ⟨r, hr⟩ : ∃ r, cmpI b y = r := ⟨_, rfl⟩
  have HE : Hid (cmpL (a, b, c) (x, y, z) = orI p r) := by rw [Hid, ← hp, ← hr]; rfl
  have HP : Hid (∀ w, Calls Tryz.prog 63 #[.int .i64 a, .int .i64 x] w fun e w' => e = .returned (.int .i64 p) ∧ w' = w) := fun w => by rw [← hp]; exact compare_any _ _ _
  have HR : Hid (∀ w, Calls Tryz.prog 63 #[.int .i64 b, .int .i64 y] w fun e w' => e = .returned (.int .i64 r) ∧ w' = w) := fun w => by rw [← hr]; exact compare_any _ _ _
  clear hp hr
  obtain ⟨W, hW⟩ : ∃ W, W = (w.alloc (.cells #[.int .i64 a, .int .i64 b, .int .i64 c] 49)).alloc (.cells #[.int .i64 x, .int .i64 y, .int .i64 z] 49) := ⟨_, rfl⟩
  have k0 : W.cell? ⟨w.heap.size, 0, none⟩ = some (.int .i64 a) := by rw [hW]; simp [go_sem]
  have k1 : W.cell? ⟨w.heap.size, 1, none⟩ = some (.int .i64 b) := by rw [hW]; simp [go_sem]
  have k2 : W.cell? ⟨w.heap.size + 1, 0, none⟩ = some (.int .i64 x) := by rw [hW]; simp [go_sem]
  have k3 : W.cell? ⟨w.heap.size + 1, 1, none⟩ = some (.int .i64 y) := by rw [hW]; simp [go_sem]
  have HWE : Hid _ := hW
  go_enter Tryz.func46, Tryz.ntmps46
  go_wp2
  rw [← hW]
  clear hW
  go_region_held3 (fun w' => w'.cell? ⟨w.heap.size, 0, none⟩ = some (.int .i64 a) ∧ w'.cell? ⟨w.heap.size, 1, none⟩ = some (.int .i64 b) ∧ w'.cell? ⟨w.heap.size + 1, 0, none⟩ = some (.int .i64 x) ∧ w'.cell? ⟨w.heap.size + 1, 1, none⟩ = some (.int .i64 y)) (first | exact ⟨k0, k1, k2, k3⟩ | (simp [go_sem, World.cell?_alloc_some, k0, k1, k2, k3]; done)) ((first
    | (go_at_call_of 63 (Value.int .i64 x); refine (HP.out _).mono ?_; rintro e w' ⟨rfl, rfl⟩)
    | (go_at_call_of 63 (Value.int .i64 y); refine (HR.out _).mono ?_; rintro e w' ⟨rfl, rfl⟩)
    | (go_at_call 62; refine (or_any _ p r _ ?_ ?_).mono ?_; simp [go_sem]; simp [go_sem]; rintro e w' ⟨rfl, rfl⟩)))
  all_goals
    go_wp2
    go_ret
    refine ⟨one_int HE.out.symm, 1, #[.cells #[.int .i64 a, .int .i64 b, .int .i64 c] 49, .cells #[.int .i64 x, .int .i64 y, .int .i64 z] 49, .cells #[.int .i64 p, .int .i64 r] 3], ?_⟩
    rw [HWE.out]
    rfl

end Go.Proofs.YtnimlgdackgcoaaGreatDoor
