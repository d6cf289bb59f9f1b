import Derived.Test.YtomiclakhjncbaaGreatDoorJT7ar
namespace Go.Proofs.YtomiclakhjncbaaGreatDoor.fnTop
open Go.ChangeShapes Go.WideShapes Go.ChangeAt Go.RowKit Go.Proofs.YtomiclakhjncbaaGreatDoor.Kb Go.Proofs.Tryz
set_option maxRecDepth 100000
set_option maxHeartbeats 12800000
theorem walk (a:Option Addr) (len cap:Nat) (zs:List Int) (w:World) (L:pZ .u8 w a len cap zs) (hL:laidMetH prog Rows.fnTopRow.laid w) (hsh:w.ShapedOpen prog) :
  Calls prog 9 #[.slice a len cap] w fun e w'=>e=.returned (.bool true)/\BW w w' :=
 have h:=Abl hL hsh
 Aef a len cap zs w L h.1 h.2
theorem lifted (os:Os) (started:os.Started) (H:Type) (enc:TypeId×Value->H) (F:Stop.Interp) :
  ReturnsInHanded {} Tryz.checked os 9 .any ((OpenSpec.ofChange Rows.fnTopSpec).preRow enc prog Tryz.f9 Rows.fnTopRow.domain false Rows.fnTopRow.laid)
   (((OpenSpec.ofChange Rows.fnTopSpec).at F).post enc prog Tryz.f9 false true false false):=by
 refine returnsInHanded_of_row (C:=Tryz.checked) (s:=OpenSpec.ofChange Rows.fnTopSpec) own started (by kernel_rfl) func9
  (ChangeSpec.witness_shaped (enc:=enc) (C:=Tryz.checked) (os:=os) (X:=fun w _=>laidMetH prog Rows.fnTopRow.laid w) false (World.layVars prog ({ World.holding prog os ⟨#[],#[],[]⟩ with heap:=(World.holding prog os ⟨#[],#[],[]⟩).heap.modify 2 fun | .cells _ t frozen=>.cells #[.iface 247 (.agg #[.pointer (some (qzA 17 104))])] t frozen | o=>o } : World) (Rows.fnTopRow.laid.filter fun x=>x.2.handleName?.isNone)) #[.slice none 0 0] 8 ((World.layVars_os _ _ _).trans rfl)
   (World.shaped_of_ZipB (by kernel_rfl) (by kernel_rfl)) (by kernel_rfl) (by kernel_rfl) (by kernel_rfl)
   (laidMetH_of_parts (wX _ (by kernel_rfl) (by kernel_rfl)) (by kernel_rfl))) ?_
 intro W base args D I before b z _ _ _ hL hsh _;have d:∀ (j:Nat) t v,Tryz.f9.params[j]?=some t->args[j]?=some v->Value.okWide prog W .any base t v:=b;have k:=z;obtain ⟨p,q,g,i,rfl,_,_⟩:=z
 have y : DataW.TrodVars enc prog W (fun _ => true) ["loop.example/g00126/impl.errLogFull", "loop.example/g00126/impl.errLine", "loop.example/g00126/impl.errDay", "loop.example/g00126/impl.errAuth", "loop.example/g00126/impl.errCasesFull", "loop.example/g00126/impl.errCase", "loop.example/g00126/impl.errMoney", "loop.example/g00126/impl.errAct", "loop.example/g00126/impl.actWords", "loop.example/g00126/impl.stepDays"] I q := i
 have u:DataW.TrodAll enc prog W 0 (fun _=>true) true Tryz.f9.params.toList args.toList D p:=g
 rw [params9] at u d;obtain ⟨B,N,R,G,M,S,l,rfl,rfl,r,r0⟩:=trodAll_cons u;obtain ⟨rfl,rfl,rfl⟩:=trodAll_nil r0
 obtain rfl:args=#[B]:=by cases args;simp_all
 obtain ⟨y1,y2,T,U,V,Y,Z,y8,y9,O,rfl⟩:=T6 y;obtain ⟨a0,f,c,rfl⟩:=okWide_slice underlying55 (d 0 55 B rfl rfl);have A:=r
 have n:∀ x ∈ M,x.block<W.heap.size:=by obtain ⟨m,J⟩:=A;exact DataW.trod_lt m _ _ _ J
 obtain ⟨z0,w0⟩:∃ zs,pZ .u8 W a0 f c zs:=Aei underlying55 underlying5 (by kernel_rfl) r
 clear g b
 refine (walk a0 f c z0 W w0 hL hsh).mono fun e W' ⟨he,bel⟩=>?_
 subst he
 exact ⟨_,rfl,_,_,_,[],_,_,k,trodAll_mk1 (shut_bool underlying4 _),(trodAll_cons_mk (Below.trod Uc (by kernel_rfl) (of_decide_eq_true (by kernel_rfl)) A bel n) trodAll_mk0),Sl bel _ _ _ (by kernel_rfl) y,bel.frame _,fun h=>by cases h⟩
end Go.Proofs.YtomiclakhjncbaaGreatDoor.fnTop
