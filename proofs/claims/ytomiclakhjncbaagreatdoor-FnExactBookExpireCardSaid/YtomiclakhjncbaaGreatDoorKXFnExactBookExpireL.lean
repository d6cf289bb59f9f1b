import Derived.Test.YtomiclakhjncbaaGreatDoorJX0a
import Derived.Test.YtomiclakhjncbaaGreatDoorRows
import Derived.Test.YtomiclakhjncbaaGreatDoorKXKbLawX
import Derived.Test.YtomiclakhjncbaaGreatDoorKXKbEnv1
namespace Go.Proofs.YtomiclakhjncbaaGreatDoor.fnExactBookExpire
open Go.ChangeShapes Go.WideShapes Go.ChangeAt Go.RowKit Go.Proofs.YtomiclakhjncbaaGreatDoor.Kb Go.Proofs.Tryz
set_option maxRecDepth 100000
set_option maxHeartbeats 12800000
theorem walk (b:Bk) (p:Bp) (w:World) (w0:Aq w b p∧fM b) (hL:laidMet prog Rows.fnExactBookExpireRow.laid w) (hsh:w.ShapedOpen prog) :
  Calls prog 5 #[C5 b p] w fun e w'=>e=.returned (.bool true)∧BW w w':=by
 obtain ⟨A,hE⟩:=jL hL.tail.tail hL.tail.tail.tail.tail hsh;exact qR b p w w0 hE
theorem lifted (os:Os) (started:os.Started) (H:Type) (enc:TypeId×Value→H) (F:Stop.Interp) :
  ReturnsInHanded {} Tryz.checked os 5 .any ((OpenSpec.ofChange Rows.fnExactBookExpireSpec).preRow enc prog Tryz.f5 Rows.fnExactBookExpireRow.domain false Rows.fnExactBookExpireRow.laid)
   (((OpenSpec.ofChange Rows.fnExactBookExpireSpec).at F).post enc prog Tryz.f5 false true false false):=by
 refine returnsInHanded_of_row (C:=Tryz.checked) (s:=OpenSpec.ofChange Rows.fnExactBookExpireSpec) own started (by kernel_rfl) func5
  (ChangeSpec.witness_shaped (enc:=enc) (C:=Tryz.checked) (os:=os) (X:=fun w _=>laidMetH prog Rows.fnExactBookExpireRow.laid w) false (World.laidAll prog os Rows.fnExactBookExpireRow.laid) #[.agg #[.int .i64 0,.slice none 0 0,.slice none 0 0,.slice none 0 0,.slice none 0 0,.slice none 0 0]] 8 (World.laidAll_os _ _ _)
   (World.shaped_of_ZipB (by kernel_rfl) (by kernel_rfl)) (by kernel_rfl) (by kernel_rfl) (by kernel_rfl)
   (by rw [MakeChecks.laidMetH_plain _ _ _ (by kernel_rfl)];exact laidMet_laidAll _ (by kernel_rfl) (by kernel_rfl))) ?_
 intro W base args ds gs before hval0 hW _ _ _ hL hsh _;have hval:∀ (j:Nat) t v,Tryz.f5.params[j]?=some t→args[j]?=some v→Value.okWide prog W .any base t v:=hval0;have hW':=hW;obtain ⟨p,q,hA0,hV0,rfl,_,_⟩:=hW
 have hV : DataW.TrodVars enc prog W (fun _ => true) ["loop.example/g00126/impl.actWords", "loop.example/g00126/impl.errLogFull", "loop.example/g00126/impl.errLine", "loop.example/g00126/impl.errDay", "loop.example/g00126/impl.errAuth", "loop.example/g00126/impl.errCasesFull", "loop.example/g00126/impl.errCase", "loop.example/g00126/impl.errMoney", "loop.example/g00126/impl.errAct", "loop.example/g00126/impl.stepDays"] gs q := hV0
 have hA:DataW.TrodAll enc prog W 0 (fun _=>true) true Tryz.f5.params.toList args.toList ds p:=hA0
 rw [params5] at hA hval;obtain ⟨v0,vs0,d0,ds0,p0,q0,hargs,rfl,rfl,h0,r0⟩:=trodAll_cons hA;obtain ⟨rfl,rfl,rfl⟩:=trodAll_nil r0
 obtain rfl:args=#[v0]:=by cases args;simp_all
 obtain ⟨y1,y2,y3,y4,y5,y6,y7,y8,y9,y10,rfl⟩:=T6 hV;have k0:=h0
 have lt0:∀ x ∈ p0,x.block<W.heap.size:=by obtain ⟨m,hm⟩:=k0;exact DataW.trod_lt m _ _ _ hm
 obtain ⟨c0,bp0,rfl,w0⟩:=oZ underlying50 (by kernel_rfl) rfl rfl rfl rfl rfl rfl (by kernel_rfl) (by kernel_rfl) (by kernel_rfl) (by kernel_rfl) (by kernel_rfl) (by kernel_rfl) underlying3 (fun _ _ _ h=>gX underlying22 underlying3 (by kernel_rfl) h) (fun _ _ _ h=>aX underlying44 underlying150 (by kernel_rfl) rfl rfl rfl rfl rfl rfl (by kernel_rfl) (by kernel_rfl) (by kernel_rfl) (by kernel_rfl) (by kernel_rfl) (by kernel_rfl) underlying9 underlying3 underlying3 underlying3 underlying3 underlying4 h) (fun _ _ _ h=>aA underlying45 underlying154 (by kernel_rfl) rfl rfl rfl rfl rfl rfl rfl rfl rfl rfl rfl rfl (by kernel_rfl) (by kernel_rfl) (by kernel_rfl) (by kernel_rfl) (by kernel_rfl) (by kernel_rfl) (by kernel_rfl) (by kernel_rfl) (by kernel_rfl) (by kernel_rfl) (by kernel_rfl) (by kernel_rfl) underlying3 underlying3 underlying3 underlying3 underlying3 underlying3 underlying3 underlying3 underlying3 underlying4 underlying3 underlying3 h) (fun _ _ _ h=>Wk underlying48 rfl (by kernel_rfl) underlying46 underlying197 (by kernel_rfl) rfl rfl rfl (by kernel_rfl) (by kernel_rfl) (by kernel_rfl) underlying3 underlying3 underlying3 h) (fun _ _ _ h=>eY underlying23 underlying9 (by kernel_rfl) h) (hval 0 50 v0 rfl rfl) h0
 clear hA0 hval0
 rw [MakeChecks.laidMetH_plain _ _ _ (by kernel_rfl)] at hL
 refine (walk c0 bp0 W w0 hL hsh).mono fun e W' ⟨he,bel⟩=>?_
 subst he
 exact ⟨_,rfl,_,_,_,[],_,_,hW',trodAll_mk1 (shut_bool underlying4 _),(trodAll_cons_mk (Below.trod Uc (by kernel_rfl) (of_decide_eq_true (by kernel_rfl)) k0 bel lt0) trodAll_mk0),Sl bel _ _ _ (by kernel_rfl) hV,bel.frame _,fun h=>by cases h⟩
end Go.Proofs.YtomiclakhjncbaaGreatDoor.fnExactBookExpire
