import Derived.Test.YtomiclakhjncbaaGreatDoorJA1a
import Derived.Test.YtomiclakhjncbaaGreatDoorJA2a
namespace Go.Proofs.YtomiclakhjncbaaGreatDoor
open Go.ChangeShapes Go.WideShapes Go.ChangeAt Go.RowKit
set_option maxRecDepth 100000
set_option maxHeartbeats 12800000
def csBd (c:Cs):Prop:=wf64 c.iss∧wf64 c.acq∧wf64 c.cur∧wf64 c.am∧wf64 c.st∧wf64 c.rsn∧wf64 c.cl∧wf64 c.bk∧wf64 c.fee∧wf64 c.sta∧wf64 c.due
def av (a:Ac):Value:=.agg #[.int .i64 a.kind,.int .i64 a.am,.int .i64 a.rsn]
section
variable {P:Program} {H:Type} {enc:TypeId×Value→H} {W:World}
end
theorem toCase_any (c:Cs) (w:World):Calls Tryz.prog 125 #[cv c] w fun e w'=>e=.returned (cv c)∧Below w.heap.size w w':=by
 obtain ⟨iss,acq,cur,am,st,rsn,cl,bk,fee,cop,sta,due⟩:=c
 unfold cv
 go_enter Tryz.func125,Tryz.ntmps125
 go_wp2
 go_returns
 exact ⟨rfl,by go_grown⟩
theorem eqCase_same (c:Cs) (w:World):Calls Tryz.prog 116 #[cv c,cv c] w fun e w'=>e=.returned (.bool true)∧Below w.heap.size w w':=by
 obtain ⟨iss,acq,cur,am,st,rsn,cl,bk,fee,cop,sta,due⟩:=c
 unfold cv
 go_enter Tryz.func116,Tryz.ntmps116
 go_wp2
 go_ret
 exact ⟨rfl,by go_grown⟩
end Go.Proofs.YtomiclakhjncbaaGreatDoor
