/- Chapter 8, the days of the steps: the program's table, the specification's list. -/
import Derived.Test.YtlmbddifogmlbaaDoorAid
import Derived.Test.YtlmbddifogmlbaaDoorBase
import Derived.Lib.LaidTab
import Derived.Lib.AppendIntMem
import Derived.Test.YtlmbddifogmlbaaDoorDLeaf
namespace Go.Proofs.YtlmbddifogmlbaaDoor
open Go.RowKit

def stepL : List Int := [30, 30, 15, 60, 20]
/-- the days of a step, -1 for another -/
def stepV (x : Int) : Int := if 0 ≤ x ∧ x ≤ 4 then stepL.getD x.toNat 0 else -1
theorem stepV_no {x : Int} (h : x < 0 ∨ 4 < x) : stepV x = -1 := if_neg (by omega)
theorem stepV_yes {k : Nat} (h : k < 5) : stepV (k : Int) = stepL.getD k 0 := by rw [stepV, if_pos (by omega)]; rfl
theorem step_cases (x : Int) : (x < 0 ∨ 4 < x) ∨ ∃ k : Nat, k < 5 ∧ x = (k : Int) := by
  by_cases h : x < 0 ∨ 4 < x
  · exact .inl h
  · exact .inr ⟨x.toNat, by omega, by omega⟩

/-- the table of the steps' days holds them -/
def StepTab (w : World) : Prop := Lib.TabIs Tryd.prog w "loop.example/g00126/impl.stepDays" .i64 stepL
theorem StepTab.below {w w' : World} (h : StepTab w) (hb : Below w.heap.size w w') : StepTab w' := Lib.tabBelow_of_tabIs h w' hb
theorem StepTab.cell {w : World} (h : StepTab w) (i : Nat) (hi : i < 5) : w.cell? ⟨0, i, none⟩ = some (.int .i64 (stepL.getD i 0)) :=
  Lib.TabIs.cell h (by kernel_rfl) i hi

set_option maxHeartbeats 400000 in
theorem iStep_any (x : Int) (w : World) (ht : StepTab w) :
    Calls Tryd.prog 5 #[.int .i64 x] w fun e w' => e = .returned (.int .i64 (stepV x)) ∧ w' = w := by
  rcases step_cases x with h | ⟨k, hk, rfl⟩
  · have HV : Hid _ := stepV_no h
    clear ht
    rcases h with h | h
    · go_enter Tryd.func5, Tryd.ntmps5
      go_wp2
      go_ret
      exact ⟨one_int HV.out.symm, rfl⟩
    · go_enter Tryd.func5, Tryd.ntmps5
      go_wp2
      go_ret
      exact ⟨one_int HV.out.symm, rfl⟩
  · have hc := ht.cell k hk
    have HL : Hid _ := stepV_yes hk
    obtain ⟨v, hv⟩ : ∃ v, stepL.getD k 0 = v := ⟨_, rfl⟩
    rw [hv] at hc
    have HV : Hid _ := hv
    clear ht hv
    go_enter Tryd.func5, Tryd.ntmps5
    go_wp2
    go_ret
    exact ⟨one_int (by rw [HL.out, HV.out]), rfl⟩

set_option maxHeartbeats 400000 in
theorem sStep_any (x : Int) (w : World) :
    Calls Tryd.prog 4 #[.int .i64 x] w fun e w' => e = .returned (.int .i64 (stepV x)) ∧ Below w.heap.size w w' := by
  rcases step_cases x with h | ⟨k, hk, rfl⟩
  · have HV : Hid _ := stepV_no h
    have hi : inB x 0 4 = false := inB_neg h
    go_enter Tryd.func4, Tryd.ntmps4
    go_wp2_with (go_at_call 6; refine (in_any _ _ _ _).mono ?_; rintro e w' ⟨rfl, rfl⟩)
    go_ret
    exact ⟨one_int HV.out.symm, Below.refl _ _⟩
  · have hi : inB (k : Int) 0 4 = true := inB_pos (by omega) (by omega)
    have HB : Hid (Below w.heap.size w (w.alloc (.cells #[.int .i64 30, .int .i64 30, .int .i64 15, .int .i64 60, .int .i64 20] 3))) := (Below.refl _ _).alloc (Nat.le_refl _) _
    have hc : (w.alloc (.cells #[.int .i64 30, .int .i64 30, .int .i64 15, .int .i64 60, .int .i64 20] 3)).cell? ⟨w.heap.size, k, none⟩ = some (.int .i64 (stepL.getD k 0)) := by
      rcases (show k = 0 ∨ k = 1 ∨ k = 2 ∨ k = 3 ∨ k = 4 by omega) with rfl | rfl | rfl | rfl | rfl <;> simp [stepL]
    have HL : Hid _ := stepV_yes hk
    obtain ⟨v, hv⟩ : ∃ v, stepL.getD k 0 = v := ⟨_, rfl⟩
    rw [hv] at hc
    have HV : Hid _ := hv
    clear hv
    go_enter Tryd.func4, Tryd.ntmps4
    go_wp2_with (go_at_call 6; refine (in_any _ _ _ _).mono ?_; rintro e w' ⟨rfl, rfl⟩)
    go_ret
    exact ⟨one_int (by rw [HL.out, HV.out]), HB.out⟩

end Go.Proofs.YtlmbddifogmlbaaDoor
