/- Chapter 8: Deadline, the program's and the specification's. -/
import Derived.Test.YtlmbddifogmlbaaSAdd
import Derived.Test.YtlmbddifogmlbaaIAdd
namespace Go.Proofs.Ytlmbddifogmlbaa
open Go.RowKit

/-- AddWork; -1 where there is none -/
def dueV (d n : Int) (zs : List Int) : Int := (addV d n zs).getD (-1)
theorem dueV_no {d n : Int} {zs : List Int} (h : addV d n zs = none) : dueV d n zs = -1 := by rw [dueV, h]; rfl
theorem dueV_yes {d n y : Int} {zs : List Int} (h : addV d n zs = some y) : dueV d n zs = y := by rw [dueV, h]; rfl

set_option maxHeartbeats 400000 in
theorem iDue_any (d n : Int) (ao : Option Addr) (c : Nat) (zs : List Int) (w : World) (hx : IntsAt w ao zs) (h1 : zs.length ≤ 1099511627776) :
    Calls Try.prog 7 #[.int .i64 d, .int .i64 n, .slice ao zs.length c] w fun e w' => e = .returned (.int .i64 (dueV d n zs)) ∧ Below w.heap.size w w' := by
  cases h : addV d n zs with
  | none =>
    have HV : Hid _ := dueV_no h
    have HC : Hid (Calls Try.prog 12 #[.int .i64 d, .int .i64 n, .slice ao zs.length c] w fun e w' => e = .returned (.tuple #[.int .i64 0, .bool false]) ∧ Below w.heap.size w w') := by
      have g := iAdd_any d n ao c zs w hx h1
      rw [h] at g
      exact g
    clear hx
    go_enter Try.func7, Try.ntmps7
    go_wp2_with fail
    refine Calls.mono HC.out ?_
    rintro e w1 ⟨rfl, b1⟩
    go_wp2
    go_ret
    exact ⟨one_int HV.out.symm, b1⟩
  | some y =>
    have HV : Hid _ := dueV_yes h
    have HC : Hid (Calls Try.prog 12 #[.int .i64 d, .int .i64 n, .slice ao zs.length c] w fun e w' => e = .returned (.tuple #[.int .i64 y, .bool true]) ∧ Below w.heap.size w w') := by
      have g := iAdd_any d n ao c zs w hx h1
      rw [h] at g
      exact g
    clear hx
    go_enter Try.func7, Try.ntmps7
    go_wp2_with fail
    refine Calls.mono HC.out ?_
    rintro e w1 ⟨rfl, b1⟩
    go_wp2
    go_ret
    exact ⟨one_int HV.out.symm, b1⟩

set_option maxHeartbeats 400000 in
theorem sDue_any (d n : Int) (ao : Option Addr) (c : Nat) (zs : List Int) (w : World) (hx : IntsAt w ao zs) (h1 : zs.length ≤ 1099511627776) :
    Calls Try.prog 5 #[.int .i64 d, .int .i64 n, .slice ao zs.length c] w fun e w' => e = .returned (.int .i64 (dueV d n zs)) ∧ Below w.heap.size w w' := by
  cases h : addV d n zs with
  | none =>
    have HV : Hid _ := dueV_no h
    have HC : Hid (Calls Try.prog 11 #[.int .i64 d, .int .i64 n, .slice ao zs.length c] w fun e w' => e = .returned (.tuple #[.int .i64 0, .bool false]) ∧ Below w.heap.size w w') := by
      have g := sAdd_any d n ao c zs w hx h1
      rw [h] at g
      exact g
    clear hx
    go_enter Try.func5, Try.ntmps5
    go_wp2_with fail
    refine Calls.mono HC.out ?_
    rintro e w1 ⟨rfl, b1⟩
    go_wp2
    go_ret
    exact ⟨one_int HV.out.symm, b1⟩
  | some y =>
    have HV : Hid _ := dueV_yes h
    have HC : Hid (Calls Try.prog 11 #[.int .i64 d, .int .i64 n, .slice ao zs.length c] w fun e w' => e = .returned (.tuple #[.int .i64 y, .bool true]) ∧ Below w.heap.size w w') := by
      have g := sAdd_any d n ao c zs w hx h1
      rw [h] at g
      exact g
    clear hx
    go_enter Try.func5, Try.ntmps5
    go_wp2_with fail
    refine Calls.mono HC.out ?_
    rintro e w1 ⟨rfl, b1⟩
    go_wp2
    go_ret
    exact ⟨one_int HV.out.symm, b1⟩

end Go.Proofs.Ytlmbddifogmlbaa
