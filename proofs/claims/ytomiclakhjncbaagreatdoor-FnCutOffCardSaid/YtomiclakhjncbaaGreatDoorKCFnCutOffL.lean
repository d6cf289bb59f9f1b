import Derived.Test.YtomiclakhjncbaaGreatDoorKCKbLawC
namespace Go.Proofs.YtomiclakhjncbaaGreatDoor.fnCutOff
open Go.ChangeShapes Go.WideShapes Go.ChangeAt Go.RowKit Go.Proofs.YtomiclakhjncbaaGreatDoor.Kb Go.Proofs.Tryz
set_option maxRecDepth 100000
set_option maxHeartbeats 12800000
theorem walk (a:Option Addr) (len cap:Nat) (zs:List Int) (w:World) (hr:pZ .u8 w a len cap zs) (hL:laidMetH prog Rows.fnCutOffRow.laid w) (hsh:w.ShapedOpen prog) :
  Calls prog 8 #[.slice a len cap] w fun e w'=>e=.returned (.bool true)∧BW w w' :=
 have h:=yU hL hsh
 Acy a len cap zs w hr h.1 h.2
theorem lifted (os:Os) (started:os.Started) (H:Type) (enc:TypeId×Value→H) (F:Stop.Interp) :
  ReturnsInHanded {} Tryz.checked os 8 .any ((OpenSpec.ofChange Rows.fnCutOffSpec).preRow enc prog Tryz.f8 Rows.fnCutOffRow.domain false Rows.fnCutOffRow.laid)
   (((OpenSpec.ofChange Rows.fnCutOffSpec).at F).post enc prog Tryz.f8 false true false false):=by
 refine returnsInHanded_of_row (C:=Tryz.checked) (s:=OpenSpec.ofChange Rows.fnCutOffSpec) own started (by kernel_rfl) func8
  (ChangeSpec.witness_shaped (enc:=enc) (C:=Tryz.checked) (os:=os) (X:=fun w _=>laidMetH prog Rows.fnCutOffRow.laid w) false (World.layVars prog ({ World.holding prog os ⟨#[],#[],[]⟩ with heap:=(World.holding prog os ⟨#[],#[],[]⟩).heap.modify 2 fun | .cells _ t frozen=>.cells #[.iface 247 (.agg #[.pointer (some ⟨17,104,none⟩)])] t frozen | o=>o } : World) (Rows.fnCutOffRow.laid.filter fun x=>x.2.handleName?.isNone)) #[.slice none 0 0] 8 ((World.layVars_os _ _ _).trans rfl)
   (World.shaped_of_ZipB (by kernel_rfl) (by kernel_rfl)) (by kernel_rfl) (by kernel_rfl) (by kernel_rfl)
   (laidMetH_of_parts (uV _ (by kernel_rfl) (by kernel_rfl)) (by kernel_rfl))) ?_
 intro W base args ds gs before hval0 hW _ _ _ hL hsh _;have hval:∀ (j:Nat) t v,Tryz.f8.params[j]?=some t→args[j]?=some v→Value.okWide prog W .any base t v:=hval0;have hW':=hW;obtain ⟨p,q,hA0,hV0,rfl,_,_⟩:=hW
 have hV : DataW.TrodVars enc prog W (fun _ => true) ["loop.example/g00126/impl.errLogFull", "loop.example/g00126/impl.errLine", "loop.example/g00126/impl.errDay", "loop.example/g00126/impl.errAuth", "loop.example/g00126/impl.errCasesFull", "loop.example/g00126/impl.errCase", "loop.example/g00126/impl.errMoney", "loop.example/g00126/impl.errAct", "loop.example/g00126/impl.actWords", "loop.example/g00126/impl.stepDays"] gs q := hV0
 have hA:DataW.TrodAll enc prog W 0 (fun _=>true) true Tryz.f8.params.toList args.toList ds p:=hA0
 rw [params8] at hA hval;obtain ⟨v0,vs0,d0,ds0,p0,q0,hargs,rfl,rfl,h0,r0⟩:=trodAll_cons hA;obtain ⟨rfl,rfl,rfl⟩:=trodAll_nil r0
 obtain rfl:args=#[v0]:=by cases args;simp_all
 obtain ⟨y1,y2,y3,y4,y5,y6,y7,y8,y9,y10,rfl⟩:=T6 hV;obtain ⟨a0,len0,cap0,rfl⟩:=okWide_slice underlying55 (hval 0 55 v0 rfl rfl);have k0:=h0
 have lt0:∀ x ∈ p0,x.block<W.heap.size:=by obtain ⟨m,hm⟩:=k0;exact DataW.trod_lt m _ _ _ hm
 obtain ⟨z0,w0⟩:∃ zs,pZ .u8 W a0 len0 cap0 zs:=Aaq underlying55 underlying5 (by kernel_rfl) h0
 clear hA0 hval0
 refine (walk a0 len0 cap0 z0 W w0 hL hsh).mono fun e W' ⟨he,bel⟩=>?_
 subst he
 exact ⟨_,rfl,_,_,_,[],_,_,hW',trodAll_mk1 (shut_bool underlying4 _),(trodAll_cons_mk (Below.trod Uc (by kernel_rfl) (of_decide_eq_true (by kernel_rfl)) k0 bel lt0) trodAll_mk0),Sl bel _ _ _ (by kernel_rfl) hV,bel.frame _,fun h=>by cases h⟩
end Go.Proofs.YtomiclakhjncbaaGreatDoor.fnCutOff
