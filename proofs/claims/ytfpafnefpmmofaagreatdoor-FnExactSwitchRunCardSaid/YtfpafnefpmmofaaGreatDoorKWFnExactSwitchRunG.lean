import Derived.Test.YtfpafnefpmmofaaGreatDoorJW0a
import Derived.Test.YtfpafnefpmmofaaGreatDoorRows
import Derived.SevenTiedAt
namespace Go.Proofs.YtfpafnefpmmofaaGreatDoor.fnExactSwitchRun
open Go Go.Proofs.Tryz
set_option maxRecDepth 100000
set_option maxHeartbeats 12800000
theorem Ai5:prog.funcs.any Func.goes=false:=by kernel_rfl
theorem Ai7 {P:Program} (h:P.funcs.any Func.goes=false) (func:String):P.goesAt .entering func=false:=by
 have a:∀ g:Nat,(P.funcs[g]?).any Func.goes=false:=λg=>by
  cases e:P.funcs[g]? with
  | none=>rfl
  | some fn =>
   have hm:fn ∈ P.funcs:=Array.mem_of_getElem? e
   have:=Array.any_eq_false.1 h
   obtain ⟨i,hi,rfl⟩:=Array.mem_iff_getElem.1 hm
   simpa using this i hi
 have b:∀ f:Nat,P.goes f=false:=λf=>by
  unfold Program.goes;rw [h,Bool.and_false,Bool.or_false]
  simp [a]
 unfold Program.goesAt Program.goesFrom
 cases P.funcNamed func with
 | none=>rfl
 | some f=>simp [b]
theorem goes:false=Rows.fnExactSwitchRunRow.goesBy YtfpafnefpmmofaaGreatDoor.Tryz.pinned.checked.prog:=(Ai7 Ai5 _).s
end Go.Proofs.YtfpafnefpmmofaaGreatDoor.fnExactSwitchRun
