import Derived.Test.YtomiclakhjncbaaGreatDoorKEKbLawE
import Derived.Test.YtomiclakhjncbaaGreatDoorKEKbEnv1
namespace Go.Proofs.YtomiclakhjncbaaGreatDoor.fnExpire
open Go.ChangeShapes Go.WideShapes Go.ChangeAt Go.RowKit Go.Proofs.YtomiclakhjncbaaGreatDoor.Kb Go.Proofs.Tryz
set_option maxRecDepth 100000
set_option maxHeartbeats 12800000
theorem walk (a:Option Addr) (len cap:Nat) (zs:List Int) (w:World) (hr:pZ .u8 w a len cap zs) (hL:laidMet prog Rows.fnExpireRow.laid w) (hsh:w.ShapedOpen prog) :
  Calls prog 7 #[.slice a len cap] w fun e w'=>e=.returned (.bool true)∧BW w w':=by
 obtain ⟨A,hE⟩:=jL hL.tail.tail hL.tail.tail.tail.tail hsh;exact Ac7 a len cap zs w hr hE
theorem lifted (os:Os) (started:os.Started) (H:Type) (enc:TypeId×Value→H) (F:Stop.Interp) :
  ReturnsInHanded {} Tryz.checked os 7 .any ((OpenSpec.ofChange Rows.fnExpireSpec).preRow enc prog Tryz.f7 Rows.fnExpireRow.domain false Rows.fnExpireRow.laid)
   (((OpenSpec.ofChange Rows.fnExpireSpec).at F).post enc prog Tryz.f7 false true false false):=by
 refine returnsInHanded_of_row (C:=Tryz.checked) (s:=OpenSpec.ofChange Rows.fnExpireSpec) own started (by kernel_rfl) func7
  (ChangeSpec.witness_shaped (enc:=enc) (C:=Tryz.checked) (os:=os) (X:=fun w _=>laidMetH prog Rows.fnExpireRow.laid w) false (World.laidAll prog os Rows.fnExpireRow.laid) #[.slice none 0 0] 8 (World.laidAll_os _ _ _)
   (World.shaped_of_ZipB (by kernel_rfl) (by kernel_rfl)) (by kernel_rfl) (by kernel_rfl) (by kernel_rfl)
   (by rw [MakeChecks.laidMetH_plain _ _ _ (by kernel_rfl)];exact laidMet_laidAll _ (by kernel_rfl) (by kernel_rfl))) ?_
 intro W base args ds gs before hval0 hW _ _ _ hL hsh _;have hval:∀ (j:Nat) t v,Tryz.f7.params[j]?=some t→args[j]?=some v→Value.okWide prog W .any base t v:=hval0;have hW':=hW;obtain ⟨p,q,hA0,hV0,rfl,_,_⟩:=hW
 have hV : DataW.TrodVars enc prog W (fun _ => true) ["loop.example/g00126/impl.actWords", "loop.example/g00126/impl.errLogFull", "loop.example/g00126/impl.errLine", "loop.example/g00126/impl.errDay", "loop.example/g00126/impl.errAuth", "loop.example/g00126/impl.errCasesFull", "loop.example/g00126/impl.errCase", "loop.example/g00126/impl.errMoney", "loop.example/g00126/impl.errAct", "loop.example/g00126/impl.stepDays"] gs q := hV0
 have hA:DataW.TrodAll enc prog W 0 (fun _=>true) true Tryz.f7.params.toList args.toList ds p:=hA0
 rw [params7] at hA hval;obtain ⟨v0,vs0,d0,ds0,p0,q0,hargs,rfl,rfl,h0,r0⟩:=trodAll_cons hA;obtain ⟨rfl,rfl,rfl⟩:=trodAll_nil r0
 obtain rfl:args=#[v0]:=by cases args;simp_all
 obtain ⟨y1,y2,y3,y4,y5,y6,y7,y8,y9,y10,rfl⟩:=T6 hV;obtain ⟨a0,len0,cap0,rfl⟩:=okWide_slice underlying55 (hval 0 55 v0 rfl rfl);have k0:=h0
 have lt0:∀ x ∈ p0,x.block<W.heap.size:=by obtain ⟨m,hm⟩:=k0;exact DataW.trod_lt m _ _ _ hm
 obtain ⟨z0,w0⟩:∃ zs,pZ .u8 W a0 len0 cap0 zs:=Aaq underlying55 underlying5 (by kernel_rfl) h0
 clear hA0 hval0
 rw [MakeChecks.laidMetH_plain _ _ _ (by kernel_rfl)] at hL
 refine (walk a0 len0 cap0 z0 W w0 hL hsh).mono fun e W' ⟨he,bel⟩=>?_
 subst he
 exact ⟨_,rfl,_,_,_,[],_,_,hW',trodAll_mk1 (shut_bool underlying4 _),(trodAll_cons_mk (Below.trod Uc (by kernel_rfl) (of_decide_eq_true (by kernel_rfl)) k0 bel lt0) trodAll_mk0),Sl bel _ _ _ (by kernel_rfl) hV,bel.frame _,fun h=>by cases h⟩
end Go.Proofs.YtomiclakhjncbaaGreatDoor.fnExpire
