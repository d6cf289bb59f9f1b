/- The contracts of the functions that tell a field's form, the program's and the specification's, and of the forms' own tests. -/
import Derived.Test.YtpenkpiffdbdmaaGreatDoorJS1a
namespace Go.Proofs.YtpenkpiffdbdmaaGreatDoor
open Go.RowKit

def knB (n : Int) : Bool := knowns.contains n
theorem knB_yes {n : Int} (h : n ∈ knowns) : knB n = true := by simpa [knB] using h
theorem knB_no {n : Int} (h : n ∉ knowns) : knB n = false := by simpa [knB] using h
def formV (n : Int) : Value :=
  if fK n = 1 then .iface 105 (.agg #[.int .i64 (fS n)])
  else if fK n = 2 then .iface 103 (.agg #[.int .i64 (fS n)])
  else if fK n = 3 then .iface 108 (.agg #[.int .i64 (fS n)])
  else if fK n = 4 then .iface 107 (.agg #[.int .i64 (fS n), .int .i64 2])
  else if fK n = 5 then .iface 107 (.agg #[.int .i64 (fS n), .int .i64 3])
  else .nilIface

theorem form_two {a b : Value} {x y : Bool} (h : a = b) (g : x = y) : Ending.returned (.tuple #[a, .bool x]) = .returned (.tuple #[b, .bool y]) := by rw [h, g]

set_option maxHeartbeats 4000000 in
theorem l04Form_any (n : Int) (w : World) :
    Calls Tryz.prog 52 #[.int .i64 n] w fun e w' => e = .returned (.tuple #[.int .i64 (fK n), .int .i64 (fS n)]) ∧ w' = w := by
  by_cases h : n ∈ knowns
  · rcases known_in h with rfl | rfl | rfl | rfl | rfl | rfl | rfl | rfl | rfl | rfl | rfl | rfl | rfl | rfl | rfl <;>
    · clear h
      go_enter Tryz.func52, Tryz.ntmps52
      go_wp2
      go_ret2
      exact ⟨rfl, rfl⟩
  · have H1 : Hid _ := fK_no h
    have H2 : Hid _ := fS_no h
    obtain ⟨h1, h2, h3, h4, h5, h6, h7, h8, h9, h10, h11, h12, h13, h14, h15⟩ := not_known h
    clear h
    go_enter Tryz.func52, Tryz.ntmps52
    go_wp2
    go_ret2
    exact ⟨two_ints H1.out.symm H2.out.symm, rfl⟩

set_option maxHeartbeats 4000000 in
theorem formOf_any (n : Int) (w : World) :
    Calls Tryz.prog 65 #[.int .i64 n] w fun e w' => e = .returned (.tuple #[formV n, .bool (knB n)]) ∧ w' = w := by
  by_cases h : n ∈ knowns
  · rcases known_in h with rfl | rfl | rfl | rfl | rfl | rfl | rfl | rfl | rfl | rfl | rfl | rfl | rfl | rfl | rfl <;>
    · clear h
      go_enter Tryz.func65, Tryz.ntmps65
      go_wp2
      go_ret2
      exact ⟨rfl, rfl⟩
  · have H1 : Hid (formV n = .nilIface) := by rw [Hid, formV, fK_no h]; rfl
    have H2 : Hid _ := knB_no h
    obtain ⟨h1, h2, h3, h4, h5, h6, h7, h8, h9, h10, h11, h12, h13, h14, h15⟩ := not_known h
    clear h
    go_enter Tryz.func65, Tryz.ntmps65
    go_wp2
    go_ret2
    exact ⟨form_two H1.out.symm H2.out.symm, rfl⟩

end Go.Proofs.YtpenkpiffdbdmaaGreatDoor
