import Derived.Test.YtfpafnefpmmofaaGreatDoorKWKbLawW
namespace Go.Proofs.YtfpafnefpmmofaaGreatDoor.fnExactSwitchRun
open Go.ChangeShapes Go.WideShapes Go.ChangeAt Go.RowKit Go.Proofs.YtfpafnefpmmofaaGreatDoor.Kb Go.Proofs.Tryz
set_option maxRecDepth 100000
set_option maxHeartbeats 12800000
theorem walk (b:Bk) (p:Bp) (a:qm) (cap:Nat) (i:List MV) (w:ql) (w0:Az w b p/\Aaf b) (z:(Dq w a i/\cS i)/\∀ x ∈ i,(Lit.int .i64 x.kd).wf=true) (hL:laidMetH prog Rows.fnExactSwitchRunRow.laid w) (hsh:w.ShapedOpen prog) :
  qi 3 #[Fx b p,qf a i.length cap] w λe w'=>e=.returned (.bool true)/\BW w w' :=
 have h:=zO hL hsh
 Agn b p a cap i w w0 z h.1 h.2
theorem lifted (os:Os) (started:os.Started) (H:Type) (enc:TypeId×Value->H) (F:Stop.Interp) :
  ReturnsInHanded {} Tryz.checked os 3 .any ((OpenSpec.ofChange Rows.fnExactSwitchRunSpec).preRow enc prog Tryz.f3 Rows.fnExactSwitchRunRow.domain false Rows.fnExactSwitchRunRow.laid)
   (((OpenSpec.ofChange Rows.fnExactSwitchRunSpec).at F).post enc prog Tryz.f3 false true false false):=by
 refine returnsInHanded_of_row (C:=Tryz.checked) (s:=OpenSpec.ofChange Rows.fnExactSwitchRunSpec) own started (by kernel_rfl) func3
  (ChangeSpec.witness_shaped (enc:=enc) (C:=Tryz.checked) (os:=os) (X:=λw _=>laidMetH prog Rows.fnExactSwitchRunRow.laid w) false (World.layVars prog ({ World.holding prog os ⟨#[],#[],[]⟩ with heap:=(World.holding prog os ⟨#[],#[],[]⟩).heap.modify 2 fun|.cells _ t frozen=>.cells #[.iface 279 (.agg #[.pointer (some (qzA 17 160))])] t frozen|o=>o } : ql) (Rows.fnExactSwitchRunRow.laid.filter λx=>x.2.handleName?.isNone)) #[.agg qzB,qe] 8 ((World.layVars_os _ _ _).t rfl)
   (World.shaped_of_ZipB (by kernel_rfl) (by kernel_rfl)) (by kernel_rfl) (by kernel_rfl) (by kernel_rfl)
   (laidMetH_of_parts (cD _ (by kernel_rfl) (by kernel_rfl)) (by kernel_rfl))) ?_
 intro W base args S gs before d J _ _ _ hL hsh _;have c:∀ (j:Nat) t v,Tryz.f3.params[j]?=some t->args[j]?=some v->Value.okWide prog W .any base t v:=d;have n:=J;obtain ⟨p,q,g,l,rfl,_,_⟩:=J
 have I : DataW.TrodVars enc prog W (λ_ => true) ["loop.example/g00126/impl.actWords", "loop.example/g00126/impl.errLogFull", "loop.example/g00126/impl.errLine", "loop.example/g00126/impl.errDay", "loop.example/g00126/impl.errAuth", "loop.example/g00126/impl.errCasesFull", "loop.example/g00126/impl.errCase", "loop.example/g00126/impl.errMoney", "loop.example/g00126/impl.errAct", "loop.example/g00126/impl.stepDays"] gs q := l
 have G:DataW.TrodAll enc prog W 0 (λ_=>true) true Tryz.f3.params.toList args.toList S p:=g
 rw [params3] at G c;obtain ⟨N,a3,d0,T,V,q0,r,rfl,rfl,B,r0⟩:=trodAll_cons G;obtain ⟨O,a4,d1,U,Y,q1,rfl,rfl,rfl,D,Z⟩:=trodAll_cons r0;obtain ⟨rfl,rfl,rfl⟩:=trodAll_nil Z
 obtain rfl:args=#[N,O]:=by cases args;simp_all
 obtain ⟨y1,y2,y3,y4,y5,y6,y7,y8,y9,a5,rfl⟩:=bS I;have L:=B
 have u:∀ x ∈ V,x.block<W.heap.size:=by obtain ⟨m,hm⟩:=L;exact DataW.trod_lt m _ _ _ hm
 obtain ⟨c0,k,rfl,w0⟩:=Adm underlying30 (by kernel_rfl) rfl rfl rfl rfl rfl rfl (by kernel_rfl) (by kernel_rfl) (by kernel_rfl) (by kernel_rfl) (by kernel_rfl) (by kernel_rfl) underlying3 (λ_ _ _ h=>uM underlying22 underlying3 (by kernel_rfl) h) (λ_ _ _ h=>pA underlying23 underlying96 (by kernel_rfl) rfl rfl rfl rfl rfl rfl (by kernel_rfl) (by kernel_rfl) (by kernel_rfl) (by kernel_rfl) (by kernel_rfl) (by kernel_rfl) underlying9 underlying3 underlying3 underlying3 underlying3 underlying4 h) (λ_ _ _ h=>kM underlying24 underlying113 (by kernel_rfl) rfl rfl rfl rfl rfl rfl rfl rfl rfl rfl rfl rfl (by kernel_rfl) (by kernel_rfl) (by kernel_rfl) (by kernel_rfl) (by kernel_rfl) (by kernel_rfl) (by kernel_rfl) (by kernel_rfl) (by kernel_rfl) (by kernel_rfl) (by kernel_rfl) (by kernel_rfl) underlying3 underlying3 underlying3 underlying3 underlying3 underlying3 underlying3 underlying3 underlying3 underlying4 underlying3 underlying3 h) (λ_ _ _ h=>iA underlying27 rfl (by kernel_rfl) underlying25 underlying153 (by kernel_rfl) rfl rfl rfl (by kernel_rfl) (by kernel_rfl) (by kernel_rfl) underlying3 underlying3 underlying3 h) (λ_ _ _ h=>uJ underlying28 underlying9 (by kernel_rfl) h) (c 0 30 N rfl rfl) B
 have M:=D
 have y:∀ x ∈ Y,x.block<W.heap.size:=by obtain ⟨m,hm⟩:=M;exact DataW.trod_lt m _ _ _ hm
 obtain ⟨R,f,A,rfl,z⟩:=Abw underlying31 underlying62 (by kernel_rfl) rfl rfl (by kernel_rfl) (by kernel_rfl) underlying3 underlying60 underlying138 (by kernel_rfl) rfl rfl (by kernel_rfl) (by kernel_rfl) underlying3 underlying9 (c 1 31 O rfl rfl) D
 clear g d
 refine (walk c0 k R f A W w0 z hL hsh).m λe W' ⟨he,bel⟩=>?_
 subst he
 exact ⟨_,rfl,_,_,_,[],_,_,n,trodAll_mk1 (shut_bool underlying4 _),(trodAll_cons_mk (Below.trod Sc (by kernel_rfl) (of_decide_eq_true (by kernel_rfl)) L bel u) (trodAll_cons_mk (Below.trod Sc (by kernel_rfl) (of_decide_eq_true (by kernel_rfl)) M bel y) trodAll_mk0)),bD bel _ _ _ (by kernel_rfl) I,bel.frame _,λh=>by cases h⟩
end Go.Proofs.YtfpafnefpmmofaaGreatDoor.fnExactSwitchRun
