import Derived.Test.YtomiclakhjncbaaGreatDoorRows
import Derived.Test.YtomiclakhjncbaaGreatDoorJR3
import Derived.Test.YtomiclakhjncbaaGreatDoorKRSVars
import Derived.ChangeMaps5
namespace Go.Proofs.YtomiclakhjncbaaGreatDoor.fnExactBookRead
open Go.ChangeShapes Go.WideShapes Go.ChangeAt Go.RowKit Go.Proofs.YtomiclakhjncbaaGreatDoor.Kb Go.Proofs.Tryz
open Go.ChangeMaps (open_string shut_string)
set_option maxRecDepth 100000
set_option maxHeartbeats 12800000
theorem walk (t:Int) (a1:Option Addr) (len1 cap1:Nat) (z1:List Int) (a2:ByteArray) (w:World) (_wt:(Lit.int .i64 t).wf=true) (w1:IsRow .i64 w a1 len1 cap1 z1) (_w2:a2.size≤maxLen) (hL:laidMet prog Rows.fnExactBookReadRow.laid w) (hsh:w.ShapedOpen prog) :
  Calls prog 4 #[.int .i64 t,.slice a1 len1 cap1,.string a2] w fun e w'=>e=.returned (.bool true)∧BW w w':=by
 obtain ⟨l,rfl⟩:∃ l:List UInt8,a2=⟨l.toArray⟩:=⟨_,ba_list a2⟩;exact Dm t a1 len1 cap1 z1 l w w1 (Df hL.tail.tail hL.tail.tail.tail.tail hsh)
theorem lifted (os:Os) (started:os.Started) (H:Type) (enc:TypeId×Value→H) (F:Stop.Interp) :
  ReturnsInHanded {} Tryz.checked os 4 .any ((OpenSpec.ofChange Rows.fnExactBookReadSpec).preRow enc prog Tryz.f4 Rows.fnExactBookReadRow.domain false Rows.fnExactBookReadRow.laid)
   (((OpenSpec.ofChange Rows.fnExactBookReadSpec).at F).post enc prog Tryz.f4 false true false false):=by
 refine returnsInHanded_of_row (C:=Tryz.checked) (s:=OpenSpec.ofChange Rows.fnExactBookReadSpec) own started (by kernel_rfl) func4
  (ChangeSpec.witness_shaped (enc:=enc) (C:=Tryz.checked) (os:=os) (X:=fun w _=>laidMetH prog Rows.fnExactBookReadRow.laid w) false (World.laidAll prog os Rows.fnExactBookReadRow.laid) #[.int .i64 0,.slice none 0 0,.string ByteArray.empty] 8 (World.laidAll_os _ _ _)
   (World.shaped_of_ZipB (by kernel_rfl) (by kernel_rfl)) (by kernel_rfl) (by kernel_rfl) (by kernel_rfl)
   (by rw [MakeChecks.laidMetH_plain _ _ _ (by kernel_rfl)];exact laidMet_laidAll _ (by kernel_rfl) (by kernel_rfl))) ?_
 intro W base args ds gs before hval0 hW _ _ _ hL hsh _;have hval:∀ (j:Nat) t v,Tryz.f4.params[j]?=some t→args[j]?=some v→Value.okWide prog W .any base t v:=hval0;have hW':=hW;obtain ⟨p,q,hA0,hV0,rfl,_,_⟩:=hW
 have hV : DataW.TrodVars enc prog W (fun _ => true) ["loop.example/g00126/impl.errLogFull", "loop.example/g00126/impl.errLine", "loop.example/g00126/impl.errDay", "loop.example/g00126/impl.errAuth", "loop.example/g00126/impl.errCasesFull", "loop.example/g00126/impl.errCase", "loop.example/g00126/impl.errMoney", "loop.example/g00126/impl.errAct", "loop.example/g00126/impl.actWords", "loop.example/g00126/impl.stepDays"] gs q := hV0
 have hA:DataW.TrodAll enc prog W 0 (fun _=>true) true Tryz.f4.params.toList args.toList ds p:=hA0
 rw [params4] at hA hval;obtain ⟨v0,vs0,d0,ds0,p0,q0,hargs,rfl,rfl,h0,r0⟩:=trodAll_cons hA;obtain ⟨v1,vs1,d1,ds1,p1,q1,rfl,rfl,rfl,h1,r1⟩:=trodAll_cons r0;obtain ⟨v2,vs2,d2,ds2,p2,q2,rfl,rfl,rfl,h2,r2⟩:=trodAll_cons r1;obtain ⟨rfl,rfl,rfl⟩:=trodAll_nil r2
 obtain rfl:args=#[v0,v1,v2]:=by cases args;simp_all
 obtain ⟨y1,y2,y3,y4,y5,y6,y7,y8,y9,y10,rfl⟩:=Bj hV;obtain ⟨a0,rfl,rfl,rfl,w0⟩:=open_int underlying3 (hval 0 3 v0 rfl rfl) h0;obtain ⟨a1,len1,cap1,rfl⟩:=okWide_slice underlying22 (hval 1 22 v1 rfl rfl);have k1:=h1
 have lt1:∀ x ∈ p1,x.block<W.heap.size:=by obtain ⟨m,hm⟩:=k1;exact DataW.trod_lt m _ _ _ hm
 obtain ⟨z1,w1⟩:∃ zs,IsRow .i64 W a1 len1 cap1 zs:=is_row underlying22 underlying3 (by kernel_rfl) h1
 obtain ⟨a2,rfl,rfl,rfl,w2⟩:=open_string underlying9 (hval 2 9 v2 rfl rfl) h2;clear hA0 hval0
 rw [MakeChecks.laidMetH_plain _ _ _ (by kernel_rfl)] at hL
 refine (walk a0 a1 len1 cap1 z1 a2 W w0 w1 w2 hL hsh).mono fun e W' ⟨he,bel⟩=>?_
 subst he
 exact ⟨_,rfl,_,_,_,[],_,_,hW',trodAll_mk1 (shut_bool underlying4 _),(trodAll_cons_mk (shut_int underlying3 w0) (trodAll_cons_mk (Below.trod laidOut (by kernel_rfl) (of_decide_eq_true (by kernel_rfl)) k1 bel lt1) (trodAll_cons_mk (shut_string underlying9 w2) trodAll_mk0))),Bc bel _ _ _ (by kernel_rfl) hV,bel.frame _,fun h=>by cases h⟩
end Go.Proofs.YtomiclakhjncbaaGreatDoor.fnExactBookRead
