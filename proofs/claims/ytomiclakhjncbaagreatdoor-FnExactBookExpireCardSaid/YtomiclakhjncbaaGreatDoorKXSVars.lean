import Derived.Test.YtomiclakhjncbaaGreatDoorJX0a
import Derived.Test.YtomiclakhjncbaaGreatDoorRows
import Derived.Test.YtomiclakhjncbaaGreatDoorCards
import Derived.Test.YtomiclakhjncbaaGreatDoorTie
import Derived.Test.YtomiclakhjncbaaGreatDoorKXBase
import Derived.Test.YtomiclakhjncbaaGreatDoorJX1a
import Derived.LaidMore
import Derived.Deep.DeepHandedRow
import Derived.JoinedCond
import Derived.Lay
import Derived.SevenTiedAt
import Derived.Stop.Joined
import Derived.Stop.LaidErr
import Derived.Lib.LaidTab
import Derived.ChangeVars
namespace Go.Proofs.YtomiclakhjncbaaGreatDoor
open Go.ChangeShapes Go.WideShapes Go.ChangeAt Go.RowKit Go.Proofs.Tryz
set_option maxRecDepth 100000
set_option maxHeartbeats 12800000
theorem rI:(Rows.laid_loop_example_g00126_impl_stepDays:DataW Unit)=Lib.tabData .i64 Mt:=by kernel_rfl
theorem rU : prog.globalNamed "loop.example/g00126/impl.stepDays" = some 16 := by kernel_rfl
theorem qY:(prog.globals[16]?).map (·.type)=some 352:=by kernel_rfl
theorem gF {rest : List (String × DataW Unit)} {w : World} (h : laidMet prog (("loop.example/g00126/impl.stepDays", Rows.laid_loop_example_g00126_impl_stepDays) :: rest) w) : Di w := by
 rw [rI] at h
 exact Lib.tabIs_of_head rU qY underlying352 underlying3 (by kernel_rfl) (by kernel_rfl) h
theorem iJ {w w':World} {n:String} {cs:Array Value} (h:w.var? prog n=some cs) (hb:BW w w'):w'.var? prog n=some cs:=by
 unfold World.var? at *
 cases hg:prog.globalNamed n with
 | none=>simp [hg] at h
 | some g =>
  simp only [hg,Option.bind_some] at h ⊢
  have hlt:g<w.heap.size:=by
   rcases Nat.lt_or_ge g w.heap.size with h' | h'
   ·exact h'
   ·rw [Array.getElem?_eq_none h'] at h;simp at h
  rw [hb.block g hlt];exact h
end Go.Proofs.YtomiclakhjncbaaGreatDoor
