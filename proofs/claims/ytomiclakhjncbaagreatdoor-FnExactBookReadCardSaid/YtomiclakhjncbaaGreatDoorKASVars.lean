import Derived.Test.YtomiclakhjncbaaGreatDoorCards
import Derived.Test.YtomiclakhjncbaaGreatDoorTie
import Derived.Test.YtomiclakhjncbaaGreatDoorKABase
import Derived.Test.YtomiclakhjncbaaGreatDoorJA1a
import Derived.LaidMore
import Derived.Deep.DeepHandedRow
import Derived.JoinedCond
import Derived.Lay
import Derived.SevenTiedAt
import Derived.Stop.Joined
import Derived.Stop.LaidErr
import Derived.Lib.LaidTab
import Derived.ChangeVars
namespace Go.Proofs.YtomiclakhjncbaaGreatDoor
open Go.ChangeShapes Go.WideShapes Go.ChangeAt Go.RowKit
set_option maxRecDepth 100000
set_option maxHeartbeats 12800000
theorem stepEq:(Rows.laid_loop_example_g00126_impl_stepDays:DataW Unit)=Lib.tabData .i64 stepL:=by kernel_rfl
theorem step_g : Tryz.prog.globalNamed "loop.example/g00126/impl.stepDays" = some 16 := by kernel_rfl
theorem step_t:(Tryz.prog.globals[16]?).map (·.type)=some 352:=by kernel_rfl
theorem step_head {rest : List (String × DataW Unit)} {w : World} (h : laidMet Tryz.prog (("loop.example/g00126/impl.stepDays", Rows.laid_loop_example_g00126_impl_stepDays) :: rest) w) : StepTab w := by
 rw [stepEq] at h
 exact Lib.tabIs_of_head step_g step_t Tryz.underlying352 Tryz.underlying3 (by kernel_rfl) (by kernel_rfl) h
theorem var_keep {w w':World} {n:String} {cs:Array Value} (h:w.var? Tryz.prog n=some cs) (hb:Below w.heap.size w w'):w'.var? Tryz.prog n=some cs:=by
 unfold World.var? at *
 cases hg:Tryz.prog.globalNamed n with
 | none=>simp [hg] at h
 | some g =>
  simp only [hg,Option.bind_some] at h ⊢
  have hlt:g<w.heap.size:=by
   rcases Nat.lt_or_ge g w.heap.size with h' | h'
   ·exact h'
   ·rw [Array.getElem?_eq_none h'] at h;simp at h
  rw [hb.block g hlt]
  exact h
end Go.Proofs.YtomiclakhjncbaaGreatDoor
