import Derived.Test.YtfpafnefpmmofaaGreatDoorJW0a
import Derived.ShutString
namespace Go.Proofs.YtfpafnefpmmofaaGreatDoor
open Go.ChangeShapes Go.WideShapes Go.ChangeAt Go.RowKit Go.Proofs.Tryz
set_option maxRecDepth 100000
set_option maxHeartbeats 12800000
theorem Aa {p:Prop} (h:p):qj p:=h
theorem Ae {α:Sort _} (a:α):∃ x,a=x:=⟨a,rfl⟩
theorem A0 {α:Sort _} (a:α):∃ x,x=a:=⟨a,rfl⟩
theorem own:ownKnob prog.godebug=none:=by kernel_rfl
theorem Sc:laidOutB prog=true:=by kernel_rfl
def Afq (k:IntKind) (w:ql) (a:qm) (len cap:Nat) (zs:List Int):Prop :=
 (a=none/\len=0/\cap=0/\zs=[]) \/
 ∃ x,a=some x/\len<=cap/\cap<=maxLen/\zs.length=cap/\(∀ i,i<zs.length->w.cell? (x.add i)=some (.int k (zs.getD i 0)))/\∀ n ∈ zs,(Lit.int k n).wf=true
end Go.Proofs.YtfpafnefpmmofaaGreatDoor
