import Derived.Test.YtomiclakhjncbaaGreatDoorJC2a
import Derived.Test.YtomiclakhjncbaaGreatDoorJC1b
import Derived.Lib.Join
set_option maxRecDepth 100000
set_option maxHeartbeats 12800000
namespace Go.Proofs.YtomiclakhjncbaaGreatDoor
open Go.RowKit Go.Maps Go.Proofs.Tryz
theorem Ql {ops:Array Oper} {rest:List Oper} {o:Oper} {a:Act} {Q:Exit→Act→World→Prop} (w:World) (hg:o.guard=none) (it:Operand) (hop:o.op=Op.next it false)
  (b r n:Nat) (D:DataW Unit) (left:Lit→Bool) (Mw:Nat) (hit:a.eval it=.pointer (some ⟨r,0,none⟩)) (h:w.ranges prog 128 (plainElem (H:=Unit) prog 3) b r n D left Mw)
  (hDone:Mw=0→(∀ kl,left kl=false)→wpList prog ops Q rest (a.put o.dst (.tuple #[.bool false])) w)
  (hMore:∀ (x c v:Int) (w':World) (cnt':Nat),Bf x→Bf c→left (Dp x c)=true→(∀ zd,D.atKey (Dp x c) zd=.lit (.int .i64 v))→w'.ranges prog 128 (plainElem (H:=Unit) prog 3) b r n D (fun z=>left z && !z.sameKey (Dp x c)) cnt'→cnt' < Mw →
   w.grownBy w' (some r)→w'.heap.size=w.heap.size→(Instr.entry (.pointer (some ⟨r,0,none⟩))).run prog w'=.ok (.tuple #[.agg #[.int .i64 x,.int .i64 c],.int .i64 v]) w'→wpList prog ops Q rest (a.put o.dst (.tuple #[.bool true,.agg #[.int .i64 x,.int .i64 c],.int .i64 v])) w') :
  wpList prog ops Q (o::rest) a w :=
 wpList_next_ranges (α:=Int×Int) (β:=Int) w hg it hop 128 Tx (plainElem (H:=Unit) prog 3) (fun p=>.agg #[.int .i64 p.1,.int .i64 p.2]) (Value.int .i64)
  (fun key kl hkey=>by obtain ⟨x,c,rfl,_⟩:=Sg hkey;exact ⟨(x,c),rfl⟩) (fun v y hv=>by obtain ⟨c,rfl,_⟩:=plainElem_int_inv underlying3 hv;exact ⟨c,rfl⟩)
  b r n D left Mw hit h hDone (fun ⟨x,c⟩ v kl y w' cnt' hkey hlk hv hat hrg hlt hgr hsz hen=>by
   obtain ⟨x',c',ex,rfl,hx,hc⟩:=Sg hkey
   obtain ⟨rfl,rfl⟩:x=x'∧c=c':=by simpa using ex
   obtain ⟨v',ev,rfl,hwv⟩:=plainElem_int_inv underlying3 hv
   cases ev
   exact hMore x c v w' cnt' hx hc hlk hat hrg hlt hgr hsz hen)
structure pR (f:Int→Int→Option Int) (left:Lit→Bool) (acc:List Ln):Prop where
 apart:cV acc
 from_:∀ x ∈ acc,f x.1 x.2.1=some x.2.2∧left (Dp x.1 x.2.1)=false∧Bf x.1∧Bf x.2.1
 into:∀ a c v,f a c=some v→left (Dp a c)=false→(a,c,v) ∈ acc
theorem pR.step {f:Int→Int→Option Int} {left:Lit→Bool} {acc:List Ln} (h:pR f left acc) (hwf:∀ a c,f a c≠none→Bf a∧Bf c) {x c v:Int} (hx:Bf x) (hc:Bf c) (hl:left (Dp x c)=true) (hf:f x c=some v) :
  pR f (fun z=>left z && !z.sameKey (Dp x c)) (acc++[(x,c,v)]):=by
 have hsame:(Dp x c).sameKey (Dp x c)=true:=WideAt.sameKey_self (Nh _ _);refine ⟨?_,?_,?_⟩
 ·refine List.pairwise_append.2 ⟨h.apart,List.pairwise_singleton _ _,fun y hy z hz he=>?_⟩
  simp only [List.mem_singleton] at hz
  subst hz
  have:=(h.from_ y hy).2.1
  simp only at he
  rw [he.1,he.2,hl] at this
  cases this
 ·intro y hy
  rcases List.mem_append.1 hy with hy | hy
  ·obtain ⟨a1,a2,a3,a4⟩:=h.from_ y hy
   exact ⟨a1,by rw [a2];rfl,a3,a4⟩
  ·simp only [List.mem_singleton] at hy
   subst hy
   exact ⟨hf,by simp only [hsame];simp,hx,hc⟩
 ·intro a' c' v' hf' hl'
  by_cases he:a'=x∧c'=c
  ·obtain ⟨rfl,rfl⟩:=he
   rw [hf] at hf'
   injection hf' with hf'
   subst hf';exact List.mem_append.2 (.inr (List.mem_singleton.2 rfl))
  ·obtain ⟨w1,w2⟩:=hwf a' c' (by rw [hf'];simp)
   have hne:(Dp a' c').sameKey (Dp x c)=false:=Maps.sameKey_ne fun e=>he (Rh w1 w2 hx hc e)
   rw [hne] at hl'
   exact List.mem_append.2 (.inl (h.into a' c' v' hf' (by simpa using hl')))
theorem pR.all {f:Int→Int→Option Int} {left:Lit→Bool} {acc ds:List Ln} (h:pR f left acc) (hl:∀ k,left k=false) (hp:ds.Perm acc) (hs:ds.Pairwise (fun x y=>E3 y x=false)):Va ds∧Cf ds=f:=by
 have hap:cV ds:=(hp.symm.pairwise_iff (R:=fun x y:Ln=>¬ (x.1=y.1∧x.2.1=y.2.1)) (fun hxy he=>hxy ⟨he.1.symm,he.2.symm⟩)).1 h.apart
 have hmem:∀ a c v,(a,c,v) ∈ ds ↔ f a c=some v:=fun a c v=>by
  rw [hp.mem_iff]
  exact ⟨fun hm=>(h.from_ _ hm).1,fun hf=>h.into a c v hf (hl _)⟩
 constructor
 ·refine (hs.and hap).imp fun {x y} ⟨h1,h2⟩=>?_
  rw [Ev]
  simp [E3] at h1
  omega
 ·funext a c
  cases hf:f a c with
  | some v=>exact (Q3 hap).1 ((hmem a c v).2 hf)
  | none =>
   cases hk:Cf ds a c with
   | none=>rfl
   | some v =>
    have:=(hmem a c v).1 (Mr hk)
    rw [hf] at this;cases this
theorem Y1 (b n:Nat) (f:Int→Int→Option Int) (w:World) (hM:F5 w b n f) (hn:n≤1000) :
  Calls prog 316 #[.map (some b)] w fun e w'=>∃ ao cap L,e=.returned (.agg #[.slice ao (List.length L) cap])∧Va L∧Cf L=f∧L.length≤n∧w'.ownsRow w.heap.size 113 3 (.slice ao L.length cap) L.length (Ag L)∧BW w w':=by
 obtain ⟨i0,hi,hz0,hz1,hz2⟩:=info_parts bY;have hbl:=hM.lt;obtain ⟨W,hW⟩:∃ W,W=w.alloc (.cells #[.slice none 0 0] 29):=⟨_,rfl⟩
 have bW:BW w W:=by rw [hW];go_grown
 have hWs:W.heap.size=w.heap.size+1:=by rw [hW];simp
 have r0:W.cell? ⟨w.heap.size,0,none⟩=some (.slice none 0 0):=by rw [hW];simp
 have rf:W.frozen? ⟨w.heap.size,0,none⟩=false:=by rw [hW];simp [go_sem]
 obtain ⟨D,hown,hview,hwf⟩:=hM.below bW;have HO:Hid (W.ownsMap prog 128 (plainElem (H:=Unit) prog 3) b n D):=hown;have HVW:Hid _:=hview;have HWF:Hid (∀ a c,f a c≠none→Bf a∧Bf c):=hwf;have HBW:Hid (BW w W):=bW;have HR0:Hid _:=r0;have HRF:Hid _:=rf;have HWS:Hid (W.heap.size=w.heap.size+1):=hWs;clear hM hown hview hwf bW r0 rf hWs
 go_enter func316,ntmps316
 go_wp2_with (first
  | (at_range;rw [← hW];clear hW;refine wpList_range_own _ rfl _ 338 rfl 128 3 Tx underlying338 _ b n D rfl HO.o ?_;intro w0 hrg0 hg0 hs0)
  | go_in)
 try go_frame
 have HRG0:Hid (w0.ranges prog 128 (plainElem (H:=Unit) prog 3) b W.heap.size n D (Maps.has D) (Maps.size D)):=hrg0
 have q0:BW w w0:=HBW.o.grown hg0 HBW.o.size (fun j hj=>by cases hj)
 have HC0:Hid (w0.cell? ⟨w.heap.size,0,none⟩=some (.slice none 0 0)∧w0.frozen? ⟨w.heap.size,0,none⟩=false):=⟨(hg0.cell_far ⟨w.heap.size,0,none⟩ (by have:=HWS.o;show w.heap.size<W.heap.size;omega) (by simp)).trans HR0.o,(hg0.frozen_far ⟨w.heap.size,0,none⟩ (by have:=HWS.o;show w.heap.size<W.heap.size;omega) (by simp)).trans HRF.o⟩
 have hszD:=HO.o.size_le;clear hrg0 hg0
 go_loopw [3] (fun v3 wr=>∃ (left:Lit→Bool) (Mw:Nat) (acc:List Ln),wr.ranges prog 128 (plainElem (H:=Unit) prog 3) b W.heap.size n D left Mw∧acc.length+Mw≤n∧pR f left acc ∧
   wr.ownsRow (w.heap.size+2) 113 3 v3 acc.length (Ag acc)∧(wr.cell? ⟨w.heap.size,0,none⟩=some (.slice none 0 0)∧wr.frozen? ⟨w.heap.size,0,none⟩=false)∧BW w wr∧w.heap.size+2≤wr.heap.size) (fun _ wr=>wr.rangeLeft b W.heap.size)
 case atStart =>
  refine ⟨_,_,[],HRG0.o,by simpa using hszD,⟨List.Pairwise.nil,(fun x hx=>by cases hx),fun a c v hf hl=>?_⟩,World.ownsRow_nil _ _ _ _,HC0.o,q0,by have:=HWS.o;omega⟩
  have hwx:=HWF.o a c (by rw [hf];simp)
  rw [(HVW.o a c hwx.1 hwx.2).1,hf] at hl
  cases hl
 case round =>
  obtain ⟨left,Mw,acc,hrg,hcnt,hmet,hacc,hcell,hbr,hs2⟩:=hrel;have HRG:Hid (wr.ranges prog 128 (plainElem (H:=Unit) prog 3) b W.heap.size n D left Mw):=hrg;have HMET:Hid (pR f left acc):=hmet;have HACC:Hid (wr.ownsRow (w.heap.size+2) 113 3 u3 acc.length (Ag acc)):=hacc;have HCELL:Hid _:=hcell;clear hrg hmet hacc hcell HRG0 q0 HC0 hszD hs0
  go_wp2_with (first
   | (at_next;refine Ql _ rfl _ rfl b W.heap.size n D left Mw rfl HRG.o ?_ ?_)
   | go_in)
  ·intro _ hl0
   obtain ⟨ao,cap,hv3,-,-⟩:=Ef HACC.o;subst hv3;have HL0:Hid (∀ kl,left kl=false):=hl0;clear hl0;go_wp2_with fail
   refine (iN ao acc.length cap (w.heap.size+2) acc wr HACC.o (by omega) hs2).mono ?_
   rintro e w2 ⟨rfl,ds,hp,hs,o2,b2⟩
   have d0:=(b2.cell (p:=⟨w.heap.size,0,none⟩) (by show w.heap.size<w.heap.size+2;omega)).trans HCELL.o.1
   have d1:=(b2.frozen (p:=⟨w.heap.size,0,none⟩) (by show w.heap.size<w.heap.size+2;omega)).trans HCELL.o.2
   have hlen:ds.length=acc.length:=hp.length_eq;have HALL:Hid (Va ds∧Cf ds=f):=HMET.o.all HL0.o hp hs;have HO2:Hid (w2.ownsRow (w.heap.size+2) 113 3 (.slice ao acc.length cap) acc.length (Ag ds)):=o2
   have HQ2:Hid (BW w w2):=hbr.trans (b2.mono (by omega))
   have HLEN:Hid _:=hlen;clear hp hs o2 b2 hlen HCELL;go_wp2
   refine bodyPost_ret (by simp [results,results316,go_sem,d0];try rfl) rfl ?_
   have hlen:=HLEN.o
   refine ⟨ao,cap,ds,by rw [hlen],HALL.o.1,HALL.o.2,by omega,?_,HQ2.o.setCell nL _⟩
   have h:=Bi (A5 HO2.o ⟨w.heap.size,0,none⟩ (.slice ao acc.length cap) (fun g hg=>by have:=(HO2.o.lt g hg).1;simp only;omega)) (base':=w.heap.size) (by omega)
   rw [hlen];exact h
  ·intro x c v w1 cnt1 hwx hwc hlx hat hrg1 hlt hg1 hs1 hen
   have hfx:f x c=some v:=by
    have h1:=HVW.o x c hwx hwc;have h2:=Maps.has_true_of_atKey hat;rw [h1.1] at h2;have h3:=(hat (.lit (.int .i64 0))).symm.trans h1.2
    cases hf:f x c with
    | none=>rw [hf] at h2;cases h2
    | some v' =>
     rw [hf] at h3
     injection h3 with e1;injection e1 with _ e2
     simp at e2
     rw [e2]
   have HMET2:Hid (pR f (fun z=>left z && !z.sameKey (Dp x c)) (acc++[(x,c,v)])):=HMET.o.step HWF.o hwx hwc hlx hfx
   have hown3:∀ g,u3.ownBlock=some g→w.heap.size+2≤g:=fun g hg=>(HACC.o.lt g hg).1
   have HACC1:Hid (w1.ownsRow (w.heap.size+2) 113 3 u3 acc.length (Ag acc)):=sH HACC.o hg1 (fun g hg e=>by have:=hown3 g hg;have:=HWS.o;cases e;omega)
   have q1:BW w w1:=hbr.grown hg1 hbr.size (fun j hj=>by have:=HWS.o;cases hj;omega)
   have HRG1:Hid (w1.ranges prog 128 (plainElem (H:=Unit) prog 3) b W.heap.size n D (fun z=>left z && !z.sameKey (Dp x c)) cnt1):=hrg1
   have HC1:Hid (w1.cell? ⟨w.heap.size,0,none⟩=some (.slice none 0 0)∧w1.frozen? ⟨w.heap.size,0,none⟩=false):=⟨(hg1.cell_far ⟨w.heap.size,0,none⟩ (by show w.heap.size<wr.heap.size;omega) (by have:=HWS.o;simp;omega)).trans HCELL.o.1,(hg1.frozen_far ⟨w.heap.size,0,none⟩ (by show w.heap.size<wr.heap.size;omega) (by have:=HWS.o;simp;omega)).trans HCELL.o.2⟩
   obtain ⟨V,hV⟩:∃ V,V=w1.alloc (.cells #[.int .i64 x,.int .i64 c] 128):=⟨_,rfl⟩
   have hVs:V.heap.size=w1.heap.size+1:=by rw [hV];simp
   have v0:V.cell? ⟨w1.heap.size,0,none⟩=some (.int .i64 x):=by rw [hV];simp
   have v1:V.cell? ⟨w1.heap.size,1,none⟩=some (.int .i64 c):=by rw [hV];simp
   have HAV:Hid (V.ownsRow (w.heap.size+2) 113 3 u3 acc.length (Ag acc)):=by rw [Hid,hV];exact HACC1.o.alloc _
   have HRV:Hid (V.ranges prog 128 (plainElem (H:=Unit) prog 3) b W.heap.size n D (fun z=>left z && !z.sameKey (Dp x c)) cnt1):=by rw [Hid,hV];exact HRG1.o.alloc _
   have HCV:Hid (V.cell? ⟨w.heap.size,0,none⟩=some (.slice none 0 0)∧V.frozen? ⟨w.heap.size,0,none⟩=false):=by
    have g:=World.grownBy_alloc w1 (.cells #[.int .i64 x,.int .i64 c] 128) none;rw [Hid,hV]
    exact ⟨(g.cell_far ⟨w.heap.size,0,none⟩ (by show w.heap.size<w1.heap.size;omega) (by simp)).trans HC1.o.1,(g.frozen_far ⟨w.heap.size,0,none⟩ (by show w.heap.size<w1.heap.size;omega) (by simp)).trans HC1.o.2⟩
   have qV:BW w V:=by rw [hV];exact q1.alloc q1.size _
   have HOWN3:Hid _:=hown3;have HLT:Hid _:=hlt
   have HVS:Hid (V.heap.size=wr.heap.size+1):=by rw [Hid,hVs,hs1]
   clear hVs hs1 hat hrg1 hlt hg1 hfx hwx hwc hlx HMET HACC HACC1 HRG1 HC1 HCELL q1 hown3 hbr;go_upto_region 5 with fail
   rw [← hV];clear hV hen
   go_wp2_with (at_builtin;refine wpList_append_own _ rfl (.tmp 13) (.tmp 20) 27 rfl (w.heap.size+2) 113 i0 _ 3 24 underlying27 hi hz0 hz1 hz2 rfl (by decide) _ _ _ rfl (HAV.o.alloc _) ⟨V.heap.size,0,none⟩ 1 1 [.int .i64 x,.int .i64 c,.int .i64 v] rfl rfl (World.news_of_block (heap_alloc_new V _)) (Ve x c v) (by unfold maxLen;omega) (by omega) (by have:=HVS.o;simp;omega) ?_;intro v5 w5 o5 g5 _)
   have gA:=World.grownBy_alloc V (.cells #[.int .i64 x,.int .i64 c,.int .i64 v] 113) none
   have HR5:Hid (w5.ownsRow (w.heap.size+2) 113 3 v5 (acc++[(x,c,v)]).length (Ag (acc++[(x,c,v)]))):=by rw [Hid,List.length_append];exact aD o5
   have hb5:some b≠u3.ownBlock:=fun e=>by have:=HOWN3.o b e.symm;omega
   have hr5:some W.heap.size≠u3.ownBlock:=fun e=>by have:=HOWN3.o _ e.symm;have:=HWS.o;omega
   have hx5:some w.heap.size≠u3.ownBlock:=fun e=>by have:=HOWN3.o _ e.symm;omega
   have HRG5:Hid (w5.ranges prog 128 (plainElem (H:=Unit) prog 3) b W.heap.size n D (fun z=>left z && !z.sameKey (Dp x c)) cnt1):=(HRV.o.alloc _).kept g5 hb5 hr5
   have HC5:Hid (w5.cell? ⟨w.heap.size,0,none⟩=some (.slice none 0 0)∧w5.frozen? ⟨w.heap.size,0,none⟩=false):=⟨(g5.cell_far ⟨w.heap.size,0,none⟩ (by have:=HVS.o;simp;omega) hx5).trans ((gA.cell_far ⟨w.heap.size,0,none⟩ (by have:=HVS.o;show w.heap.size<V.heap.size;omega) (by simp)).trans HCV.o.1),(g5.frozen_far ⟨w.heap.size,0,none⟩ (by have:=HVS.o;simp;omega) hx5).trans ((gA.frozen_far ⟨w.heap.size,0,none⟩ (by have:=HVS.o;show w.heap.size<V.heap.size;omega) (by simp)).trans HCV.o.2)⟩
   have q5:BW w w5:=(qV.alloc qV.size _).grown g5 (by have:=HVS.o;simp;omega) (fun j hj=>by have:=HOWN3.o j hj;omega)
   have hs5:w.heap.size+2≤w5.heap.size:=by have:=g5.size;have:=HVS.o;simp at *;omega
   clear o5 g5 gA HAV HRV HCV qV;go_wp2
   go_roundw
   case rel=>exact ⟨_,cnt1,_,HRG5.o,by have:=HLT.o;simp;omega,HMET2.o,HR5.o,HC5.o,q5,hs5⟩
   case measure=>rw [HRG5.o.left_eq,HRG.o.left_eq];exact HLT.o
def mW (ls:List Ln):Bool:=ls.all fun x=>decide (Ec x.2.1 ls=0)
def P9 (D:DataW Unit) (ls:List Ln):Prop :=
 (∀ c,Maps.has D (.int .i64 c)=ls.any fun x=>decide (x.2.1=c))∧∀ c,D.atKey (.int .i64 c) (.lit (.int .i64 0))=.lit (.int .i64 (Ec c ls))
theorem Xx:P9 (.map []) []:=⟨fun _=>rfl,fun _=>rfl⟩
theorem eA (c:Int) (ls:List Ln) (x:Ln):Ec c (ls++[x])=Ec c ls+if x.2.1=c then x.2.2 else 0:=by simp [Ec]
theorem Vl {D:DataW Unit} {ls:List Ln} (h:P9 D ls) (hm:IsMap D) (x y z:Int):P9 (D.put (.int .i64 y) (.lit (.int .i64 (Ec y ls+z)))) (ls++[(x,y,z)]):=by
 constructor
 ·intro c
  rw [List.any_append]
  by_cases hc:c=y
  ·subst hc
   rw [Maps.has_put_same (k:=.int .i64 c) hm trivial];simp
  ·rw [Maps.has_put_other (Ht hc),h.1 c]
   simp [Ne.symm hc]
 ·intro c
  rw [eA]
  by_cases hc:c=y
  ·subst hc
   rw [Maps.atKey_put_same (k:=.int .i64 c) hm trivial];simp
  ·rw [Maps.atKey_put_other (Ht hc),h.2 c]
   simp [Ne.symm hc]
theorem lV {ls:List Ln} (h:∀ x ∈ ls,-1000000000000≤x.2.2∧x.2.2≤1000000000000) (c:Int) (k:Nat):-1000000000000 * (k:Int)≤Ec c (ls.take k)∧Ec c (ls.take k)≤1000000000000 * (k:Int):=by
 induction k with
 | zero=>simp [Ec]
 | succ k ih =>
  by_cases hk:k<ls.length
  ·rw [N5 c ls k hk]
   have:=h _ (Ex hk)
   split <;> omega
  ·rw [List.take_of_length_le (by omega)]
   rw [List.take_of_length_le (by omega)] at ih
   omega
theorem iW (ao:Option Addr) (cap:Nat) (ls:List Ln) (w:World) (hz:Ai w ao ls) (hn:ls.length≤400) (hbd:∀ x ∈ ls,-1000000000000≤x.2.2∧x.2.2≤1000000000000) (hwf:∀ x ∈ ls,Bf x.2.1) :
  Calls prog 95 #[.slice ao ls.length cap] w fun e w'=>e=.returned (.bool (mW ls))∧BW w w':=by
 have hmm:=@run_makeMap prog;have HZ:Hid (Ai w ao ls):=hz;have HBD:Hid (∀ x ∈ ls,-1000000000000≤x.2.2∧x.2.2≤1000000000000):=hbd;have HWF:Hid (∀ x ∈ ls,Bf x.2.1):=hwf;clear hz hbd hwf;have hown0:=World.ownsMap_made w prog 3 (plainElem (H:=Unit) prog 3);have hb0:=(Below.refl w.heap.size w).alloc nL (.map #[] 0)
 go_enter func95,ntmps95
 go_wp2
 go_loopw [11] (fun i wr=>∃ (k:Nat) (D:DataW Unit),k≤ls.length∧i=.int .i64 k∧wr.ownsMap prog 3 (plainElem (H:=Unit) prog 3) w.heap.size k D∧P9 D (ls.take k)∧BW w wr) (fun i _=>ls.length - (intOf i).toNat)
 case atStart=>exact ⟨0,.map [],Nat.zero_le _,rfl,hown0,Xx,hb0⟩
 case round =>
  obtain ⟨k,D,hk,rfl,hown,hsum,hbr⟩:=hrel;have hbs:=hbr.size;have HSUM:Hid (P9 D (ls.take k)):=hsum;have HOWN:Hid (wr.ownsMap prog 3 (plainElem (H:=Unit) prog 3) w.heap.size k D):=hown;clear hown0 hb0 hsum hown
  by_cases hlt:k<ls.length
  ·have hki:(k:Int)<(ls.length:Int):=by omega
   obtain ⟨b,off,rfl,hb2,c1,c2,c3⟩:=(HZ.o.below hbr).at hlt;have hbk:=HBD.o _ (Ex hlt);have hwk:=HWF.o _ (Ex hlt);have HTK:Hid _:=Kl ls k hlt;obtain ⟨⟨x,y,z⟩,hx⟩:∃ x,Cg ls k=x:=⟨_,rfl⟩;rw [hx] at c1 c2 c3 hbk hwk HTK
   simp only at c1 c2 c3 hbk hwk
   have hab:=lV HBD.o y k;have HWK:Hid (Bf y):=hwk
   have hy:∀ c:Int,D.atKey (.int .i64 y) (.lit (.int .i64 0))=.lit (.int .i64 c)→c=Ec y (ls.take k)∧IntKind.i64.wrap (c+z)=c+z∧(Lit.int .i64 (c+z)).wf=true:=fun c h=>by
    have e:=h.symm.trans (HSUM.o.2 y)
    have hc:c=Ec y (ls.take k):=by injection e with e1;injection e1
    have hk4:(k:Int)≤400:=by omega
    refine ⟨hc,?_,?_⟩
    ·rw [hc];simp [IntKind.wrap,IntKind.bits,IntKind.signed];omega
    ·exact WalkArith.wf_i64 (by rw [hc];omega)
   have HY:Hid _:=hy
   have HKM:Hid (k<maxLen):=by unfold maxLen;rw [Hid];omega
   have HBX:Hid (∀ o,Below w.heap.size w (wr.alloc o)):=fun o=>hbr.alloc hbs o
   clear hx hwk hab hy hbk
   go_wp2_with (first
    | (at_lookup;refine wpList_lookup_own_int _ rfl _ _ 186 rfl 3 3 .i64 Fp underlying186 underlying3 (Ox _) w.heap.size k D rfl (HOWN.o.alloc _) _ _ rfl (keyOf_int_mk underlying3 HWK.o) ?_;intro c hat hwc;have HC:Hid (c=Ec y (ls.take k)):=(HY.o c hat).1;have hwr:=(HY.o c hat).2.1;have HWC:Hid ((Lit.int .i64 (c+z)).wf=true):=(HY.o c hat).2.2;clear hat hwc)
    | (at_mapUpdate;refine wpList_mapUpdate_own _ rfl _ _ _ 186 rfl 3 3 Fp underlying186 _ w.heap.size k D rfl (HOWN.o.alloc _) HKM.o _ _ _ rfl rfl (keyOf_int_mk underlying3 HWK.o) _ [] (plainElem_int underlying3 HWC.o) ?_;intro w1 hown1 hgrow1)
    | go_in)
   have HO1:Hid (w1.ownsMap prog 3 (plainElem (H:=Unit) prog 3) w.heap.size (k+1) (D.put (.int .i64 y) (.lit (.int .i64 (c+z))))):=hown1
   have q1:BW w w1:=(HBX.o _).grown hgrow1 (HBX.o _).size (fun j hj=>by cases hj;exact nL)
   clear hown1 hgrow1;go_wp2
   go_roundw
   case rel=>exact ⟨k+1,_,by omega,by go_num,HO1.o,by rw [HTK.o,HC.o];exact Vl HSUM.o HOWN.o.isMap x y z,q1⟩
   case measure=>simp [intOf];omega
  ·have hke:k=ls.length:=by omega
   subst hke
   have hki:¬ (ls.length:Int)<(ls.length:Int):=by omega
   rw [List.take_length] at HSUM;obtain ⟨W,hW⟩:∃ W,W=wr:=⟨_,rfl⟩;subst hW
   go_wp2_with (first
    | (at_range;refine wpList_range_own _ rfl _ 186 rfl 3 3 Fp underlying186 _ w.heap.size ls.length _ rfl HOWN.o ?_;intro w0 hrg0 hg0 hs0)
    | go_in)
   try go_frame
   have qb0:BW w w0:=hbr.grown hg0 hbs (fun j hj=>by cases hj)
   go_loopw [7] (fun _ wr=>∃ (left:Lit→Bool) (Mw:Nat),wr.ranges prog 3 (plainElem (H:=Unit) prog 3) w.heap.size W.heap.size ls.length D left Mw∧(∀ c,left (.int .i64 c)=true→Maps.has D (.int .i64 c)=true)∧(∀ c,Maps.has D (.int .i64 c)=true→left (.int .i64 c)=false→Ec c ls=0)∧BW w wr)
    (fun _ wr=>wr.rangeLeft w.heap.size W.heap.size)
   case atStart=>exact ⟨_,_,hrg0,fun _ h=>h,(fun c h1 h2=>by rw [h1] at h2;cases h2),qb0⟩
   case round =>
    obtain ⟨left,Mw,hrg,hle,hzero,hbw⟩:=hrel;clear hrg0 hg0 hs0 qb0;have HLE:Hid (∀ c,left (.int .i64 c)=true→Maps.has D (.int .i64 c)=true):=hle;have HZR:Hid (∀ c,Maps.has D (.int .i64 c)=true→left (.int .i64 c)=false→Ec c ls=0):=hzero;have HRG:Hid (wr.ranges prog 3 (plainElem (H:=Unit) prog 3) w.heap.size W.heap.size ls.length D left Mw):=hrg;clear hle hzero hrg
    go_wp2_with (first
     | (at_next;refine wpList_next_ranges_ii _ rfl _ rfl 3 3 .i64 .i64 Fp underlying3 underlying3 w.heap.size W.heap.size ls.length _ _ _ rfl HRG.o ?_ ?_)
     | go_in)
    ·intro _ hl0
     have HV:Hid (mW ls=true):=by
      rw [Hid,mW,List.all_eq_true];intro x hx
      have hh:Maps.has D (.int .i64 x.2.1)=true:=by
       rw [HSUM.o.1,List.any_eq_true];exact ⟨x,hx,by simp⟩
      simpa using HZR.o _ hh (hl0 _)
     clear hl0;go_wp2;go_ret;exact ⟨Aa HV.o.symm,hbw⟩
    ·intro x c w1 cnt1 hwx hwc hlx hat hrg1 hlt hg1 hs1 hen
     have hcs:c=Ec x ls:=by
      have e:=(hat (.lit (.int .i64 0))).symm.trans (HSUM.o.2 x)
      injection e with e1;injection e1
     have q1:BW w w1:=hbw.grown hg1 hbw.size (fun j hj=>by cases hj;exact hbs)
     have HRG1:Hid (w1.ranges prog 3 (plainElem (H:=Unit) prog 3) w.heap.size W.heap.size ls.length D (fun z=>left z && !z.sameKey (.int .i64 x)) cnt1):=hrg1
     have HLT:Hid _:=hlt;have HHX:Hid _:=HLE.o _ hlx;clear hat hrg1 hlt hg1 hwx hwc
     by_cases hc0:c=0
     ·have hc0':(c != 0)=false:=by simpa using hc0
      have HS0:Hid (Ec x ls=0):=by rw [Hid,← hcs,hc0]
      clear hcs hc0;go_wp2
      go_roundw
      case rel =>
       refine ⟨_,cnt1,HRG1.o,(fun c' h=>HLE.o c' (Bool.and_eq_true _ _ ▸ h).1),fun c' h1 h2=>?_,q1⟩
       by_cases hx:c'=x
       ·rw [hx];exact HS0.o
       ·refine HZR.o c' h1 ?_
        have:=Maps.sameKey_ne (Ht hx)
        simp [this] at h2
        exact h2
      case measure=>rw [HRG1.o.left_eq,HRG.o.left_eq];exact HLT.o
     ·have hc0':(c != 0)=true:=by simpa using hc0
      have HV:Hid (mW ls=false):=by
       rw [Hid,mW];have hh:=HHX.o;rw [HSUM.o.1,List.any_eq_true] at hh;obtain ⟨y,hy,he⟩:=hh
       simp at he
       rw [List.all_eq_false]
       exact ⟨y,hy,by rw [he,← hcs];simpa using hc0⟩
      clear hcs hc0;go_wp2;go_ret;exact ⟨Aa HV.o.symm,q1⟩
end Go.Proofs.YtomiclakhjncbaaGreatDoor
namespace Go.Proofs.YtomiclakhjncbaaGreatDoor
open Go.RowKit Go.Proofs.Tryz
theorem Zm (w:World) (q:Nat) (os:Array Obj):Below w.heap.size w (Go.Sort.grow (w.drewN q) os) :=
 ⟨rfl,rfl,rfl,by simp [Go.Sort.grow,World.drewN],fun k hk=>by simp [Go.Sort.grow,World.drewN,Array.getElem?_append,hk]⟩
theorem Kt {a c m:Int} {v:Bool} (h:G7 (a,c,m)=v) (hc:(Lit.int .i64 c).wf=true) (w:World) :
  Calls prog 93 #[.agg #[.int .i64 a,.int .i64 c,.int .i64 m]] w fun e w'=>e=.returned (.bool v)∧BW w w':=by rw [← h];exact aY a c m w hc
theorem Pb {a b c x y z v:Int} (h:Qh (a,b,c) (x,y,z)=v) (w:World) :
  Calls prog 94 #[.agg #[.int .i64 a,.int .i64 b,.int .i64 c],.agg #[.int .i64 x,.int .i64 y,.int .i64 z]] w fun e w'=>e=.returned (.int .i64 v)∧BW w w' :=
 (Nr a b c x y z w).mono fun e w' ⟨he,q,os,hw⟩=>⟨by rw [he,h],by rw [hw];exact Zm w q os⟩
theorem nU {ls:List Ln} (h:Az none ls=true) (hl:ls.length≤400):At ls=mW ls:=by
 have he:Wo ls=mW ls:=by
  rw [Bool.eq_iff_iff,hH fun x hx=>(Ig (Dv h x hx)).2.1,mW,List.all_eq_true]
  simp
 simp [At,h,hl,he]
theorem Ij (ao:Option Addr) (cap:Nat) (ls:List Ln) (w:World) (hz:Ai w ao ls) (hn:ls.length≤1099511627776) (hwf:∀ x ∈ ls,Hw x) :
  Calls prog 39 #[.agg #[.slice ao ls.length cap]] w fun e w'=>e=.returned (.bool (At ls))∧BW w w':=by
 obtain ⟨W,hW⟩:∃ W,W=w.alloc (.cells #[.slice ao ls.length cap] 29):=⟨_,rfl⟩
 have bW:BW w W:=by rw [hW];go_grown
 have hWs:w.heap.size<W.heap.size:=by rw [hW];simp
 have k0:W.cell? ⟨w.heap.size,0,none⟩=some (.slice ao ls.length cap):=by rw [hW];simp
 have HK:Hid (W.cell? ⟨w.heap.size,0,none⟩=some (.slice ao ls.length cap)):=k0;have HZ:Hid (Ai W ao ls):=hz.below bW;have HWF:Hid (∀ x ∈ ls,Hw x):=hwf;clear hz hwf
 by_cases h4:(400:Int)<(ls.length:Int)
 ·have HE:Hid (At ls=false):=by
    have:¬ ls.length≤400:=by omega
    simp [Hid,At,this]
  go_enter func39,ntmps39
  go_wp2;go_ret;rw [← hW];exact ⟨Aa HE.o.symm,bW⟩
 have hl4:ls.length≤400:=by omega
 go_enter func39,ntmps39
 go_wp2;rw [← hW];clear hW
 go_loopw [12] (fun i wr=>∃ k:Nat,k≤ls.length∧i=.int .i64 k∧Az none ls=Az (Fc ls k) (ls.drop k)∧BW W wr) (fun i _=>ls.length - (intOf i).toNat)
 case atStart=>exact ⟨0,Nat.zero_le _,rfl,rfl,bR⟩
 case round =>
  obtain ⟨k,hk,rfl,hok,hbr⟩:=hrel;have HOK:Hid _:=hok;have hbs:=hbr.size;have hws:w.heap.size<wr.heap.size:=Nat.lt_of_lt_of_le hWs hbs;clear hok k0
  by_cases hlt:k<ls.length
  ·have hki:(k:Int)<(ls.length:Int):=by omega
   obtain ⟨b,off,rfl,hb2,c1,c2,c3⟩:=(HZ.o.below hbr).at hlt;have hst:=Mq ls k hlt;have hwk:=HWF.o _ (Ex hlt);obtain ⟨p,hp⟩:∃ p,Fc ls k=p:=⟨_,rfl⟩;have HP:Hid _:=hp;rw [hp] at hst HOK;obtain ⟨⟨x,y,z⟩,hx⟩:∃ x,Cg ls k=x:=⟨_,rfl⟩;rw [hx] at c1 c2 c3 hst hwk
   simp only at c1 c2 c3
   have HWK:Hid ((Lit.int .i64 y).wf=true):=hwk.2.1;have HST:Hid _:=HOK.o.trans hst;obtain ⟨V,hV⟩:∃ V,V=wr.alloc (.cells #[.int .i64 x,.int .i64 y,.int .i64 z] 113):=⟨_,rfl⟩
   have bV:BW W V:=by rw [hV];exact hbr.alloc hbs _
   have hVs:V.heap.size=wr.heap.size+1:=by rw [hV];simp
   have v0:V.cell? ⟨wr.heap.size,0,none⟩=some (.int .i64 x):=by rw [hV];simp
   have v1:V.cell? ⟨wr.heap.size,1,none⟩=some (.int .i64 y):=by rw [hV];simp
   have v2:V.cell? ⟨wr.heap.size,2,none⟩=some (.int .i64 z):=by rw [hV];simp
   have l0:=(bV.cell (p:=⟨w.heap.size,0,none⟩) hWs).trans HK.o;have HBV:Hid (BW W V):=bV;have HBW:Hid (BW w W):=bW;have hVw:W.heap.size≤V.heap.size:=bV.size;have hne:=K0 V;have g0:=As v0;have g1:=As v1;have g2:=As v2;have g3:=As l0;have HLV:Hid (Ai V (some ⟨b,off,none⟩) ls):=HZ.o.below bV;go_upto_region 6 with fail
   rw [← hV];clear hV hst hx hp HOK hwk bV bW hbr c1 c2 c3
   cases h1:G7 (x,y,z)
   ·have HE:Hid (At ls=false):=by
      unfold At
      rw [Hid,HST.o,h1];rfl
    have H1:Hid _:=h1;clear h1 HST
    refine B6 (by kernel_rfl) (by kernel_rfl) ?_
    repeat (go_big_quiet_step (exact F8 (Kt H1.o HWK.o _)))
    refine wpQuiet_nil ?_;rintro _ ⟨⟨u1,q1⟩,hu1⟩;subst hu1;go_wp2;go_ret;exact ⟨Aa HE.o.symm,HBW.o.trans ((HBV.o.trans (q1.mono hVw)).mono HBW.o.size)⟩
   have H1:Hid _:=h1
   have HST2:Hid (Az none ls=(Ni p (x,y,z) && Az (Fc ls (k+1)) (ls.drop (k+1)))):=by rw [Hid,HST.o,h1];rfl
   clear h1 HST
   cases k with
   | zero =>
    have HN:Hid (Az none ls=Az (Fc ls (0+1)) (ls.drop (0+1))):=by
     have hp0:p=none:=by rw [← HP.o];rfl
     rw [Hid,HST2.o,hp0];rfl
    clear HST2 HP
    refine B6 (by kernel_rfl) (by kernel_rfl) ?_
    repeat (go_big_quiet_step (exact F8 (Kt H1.o HWK.o _)))
    refine wpQuiet_nil ?_;rintro _ ⟨⟨u1,q1⟩,hu1⟩;subst hu1;go_wp2
    go_roundw
    case rel=>exact ⟨1,by omega,by go_num,HN.o,HBV.o.trans (q1.mono hVw)⟩
    case measure=>simp [intOf];omega
   | succ k =>
    have hpe:p=some (Cg ls k):=by rw [← HP.o];simp [Fc]
    obtain ⟨b',off',hao,hb',e1,e2,e3⟩:=HLV.o.at (k:=k) (by omega)
    obtain ⟨rfl,rfl⟩:b=b'∧off=off':=by simpa using hao
    obtain ⟨⟨x',y',z'⟩,hx'⟩:∃ x,Cg ls k=x:=⟨_,rfl⟩;rw [hx'] at e1 e2 e3 hpe
    simp only at e1 e2 e3
    subst hpe;have HLT:Hid (Az none ls=(E3 (x',y',z') (x,y,z) && Az (Fc ls (k+1+1)) (ls.drop (k+1+1)))):=HST2.o
    have hk1:((k+1:Nat):Int) - 1=(k:Int):=by omega
    have hk2:(0:Int)<((k+1:Nat):Int):=by omega
    have hkl:(k:Int)<(ls.length:Int):=by omega
    have g4:=As e1;have g5:=As e2;have g6:=As e3
    have hkz:decide (0<k+1)=true:=by simp
    obtain ⟨v,hv⟩:∃ v,Qh (x',y',z') (x,y,z)=v:=⟨_,rfl⟩;have hiff:=cY (x',y',z') (x,y,z);rw [hv] at hiff;have HV:Hid _:=hv;have HIF:Hid _:=hiff;clear HST2 HP hx' hao HLV hv hiff
    by_cases h2:0≤v
    ·have hdn:decide (0≤v)=true:=by simpa using h2
     have HE:Hid (At ls=false):=by
      have:E3 (x',y',z') (x,y,z)=false:=by
       cases h:E3 (x',y',z') (x,y,z)
       ·rfl
       ·have:=HIF.o.2 h;omega
      unfold At
      rw [Hid,HLT.o,this];rfl
     clear HLT HIF
     refine B6 (by kernel_rfl) (by kernel_rfl) ?_
     repeat (go_big_quiet_step (first | exact F8 (Kt H1.o HWK.o _) | exact F8 (Pb HV.o _)))
     refine wpQuiet_nil ?_;rintro _ ⟨⟨u1,q1⟩,hu1⟩;subst hu1;go_wp2;go_ret;exact ⟨Aa HE.o.symm,HBW.o.trans ((HBV.o.trans (q1.mono hVw)).mono HBW.o.size)⟩
    ·have hdn:decide (0≤v)=false:=by simpa using h2
     have HN:Hid (Az none ls=Az (Fc ls (k+1+1)) (ls.drop (k+1+1))):=by
      rw [Hid,HLT.o,HIF.o.1 (by omega)];rfl
     clear HLT HIF
     refine B6 (by kernel_rfl) (by kernel_rfl) ?_
     repeat (go_big_quiet_step (first | exact F8 (Kt H1.o HWK.o _) | exact F8 (Pb HV.o _)))
     refine wpQuiet_nil ?_;rintro _ ⟨⟨u1,q1⟩,hu1⟩;subst hu1;go_wp2
     go_roundw
     case rel=>exact ⟨k+1+1,by omega,by go_num,HN.o,HBV.o.trans (q1.mono hVw)⟩
     case measure=>simp [intOf];omega
  ·have hke:k=ls.length:=by omega
   subst hke
   have hki:¬ (ls.length:Int)<(ls.length:Int):=by omega
   have hall:Az none ls=true:=by rw [HOK.o,Pf]
   have HE:Hid (At ls=mW ls):=nU hall hl4
   have HBD:Hid (∀ x ∈ ls,-1000000000000≤x.2.2∧x.2.2≤1000000000000):=fun x hx=>(Ig (Dv hall x hx)).2.2.1
   have l0:=(hbr.cell (p:=⟨w.heap.size,0,none⟩) hWs).trans HK.o;have q0:=next bW hbr;have HZR:Hid (Ai wr ao ls):=HZ.o.below hbr;clear HOK hall hbr bW;go_wp2_with fail
   refine (iW _ _ _ _ HZR.o hl4 HBD.o (fun x hx=>(HWF.o x hx).2.1)).mono ?_
   rintro e u1 ⟨rfl,b1⟩;have q1:=next q0 b1;obtain ⟨V,hV⟩:∃ V,mW ls=V:=⟨_,rfl⟩;rw [hV] at HE ⊢;clear b1 q0 hV;go_wp2;go_ret;exact ⟨Aa HE.o.symm,q1⟩
theorem PB.grown {s:Nat} {ao:Option Addr} {cap n:Nat} {a b c m:Int} {u u':World} {g:Nat} (h:PB s ao cap n a b c m u) (hg:u.grownBy u' (some g)) (hne:s+1+1<g):PB s ao cap n a b c m u':=by
 have h1:=h.sz
 exact ⟨(hg.cell_far ⟨s,0,none⟩ (by show s<u.heap.size;omega) (by simp;omega)).trans h.l0,(hg.cell_far ⟨s+1,0,none⟩ (by show s+1<u.heap.size;omega) (by simp;omega)).trans h.e0,(hg.cell_far ⟨s+1,1,none⟩ (by show s+1<u.heap.size;omega) (by simp;omega)).trans h.e1,
  (hg.cell_far ⟨s+1,2,none⟩ (by show s+1<u.heap.size;omega) (by simp;omega)).trans h.e2,(hg.cell_far ⟨s+1,3,none⟩ (by show s+1<u.heap.size;omega) (by simp;omega)).trans h.e3,(hg.cell_far ⟨s+1+1,0,none⟩ h1 (by simp;omega)).trans h.r0,(hg.frozen_far ⟨s+1+1,0,none⟩ h1 (by simp;omega)).trans h.rf,Nat.lt_of_lt_of_le h1 hg.size⟩
theorem jW {ls:List Ln} (h:∀ x ∈ ls,-4000000000000≤x.2.2∧x.2.2≤4000000000000) (a c:Int):-4000000000000≤(Cf ls a c).getD 0∧(Cf ls a c).getD 0≤4000000000000:=by
 cases hl:Cf ls a c with
 | none=>simp
 | some v=>have:=h _ (Mr hl);simpa using this
theorem cR {ls:List Ln} {a c m:Int} (h:∀ x ∈ ls,Hw x) (hb:∀ x ∈ ls,-4000000000000≤x.2.2∧x.2.2≤4000000000000) (ha:Bf a) (hc:Bf c) (hm:-1000000000000≤m∧m≤1000000000000):∀ x ∈ Cr ls a c m,Hw x:=by
 intro x hx
 have hk:Bf x.1∧Bf x.2.1:=by
  rcases Wf hx with h1 | ⟨h1,h2⟩
  ·exact ⟨(h x h1).1,(h x h1).2.1⟩
  ·rw [h1,h2];exact ⟨ha,hc⟩
 refine ⟨hk.1,hk.2,WalkArith.wf_i64 ?_⟩
 rcases P0 x hx with h1 | h1 | ⟨y,hy,h1⟩
 ·have:=hb x h1;omega
 ·omega
 ·have:=hb y hy;omega
theorem K9 (ao:Option Addr) (cap:Nat) (ls:List Ln) (a b c m:Int) (w:World) (hz:Ai w ao ls) (hn:ls.length≤1048576) (hlb:∀ x ∈ ls,Hw x) (heb:Ma (a,b,c,m)) :
  Calls prog 287 #[.agg #[.slice ao ls.length cap],.agg #[.int .i64 a,.int .i64 b,.int .i64 c,.int .i64 m]] w (Jl w (Gg ls (a,b,c,m)) (Cj ls (a,b,c,m))):=by
 obtain ⟨W,hW⟩:∃ W,W=((w.alloc (.cells #[.slice ao ls.length cap] 29)).alloc (.cells #[.int .i64 a,.int .i64 b,.int .i64 c,.int .i64 m] 269)).alloc (.cells #[.slice none 0 0] 29):=⟨_,rfl⟩
 have bW:BW w W:=by rw [hW];go_grown
 have PW:PB w.heap.size ao cap ls.length a b c m W:=by
  rw [hW];exact ⟨by simp [go_sem],by simp [go_sem],by simp [go_sem],by simp [go_sem],by simp [go_sem],by simp [go_sem],by simp [go_sem],by simp⟩
 have HZ0:Hid (Ai w ao ls):=hz;have HZ:Hid (Ai W ao ls):=hz.below bW;have HW:Hid _:=hW;have l0:=PW.l0;have HPW:Hid (PB w.heap.size ao cap ls.length a b c m W):=PW;have HLB:Hid (∀ x ∈ ls,Hw x):=hlb;have HEB:Hid (Ma (a,b,c,m)):=heb;clear hz hW PW hlb heb
 cases hL:At ls
 ·have hno:Cj ls (a,b,c,m)=false:=by simp [Cj,hL]
  have HNL:Hid _:=Hs hno;rw [hno]
  have HC:Hid (Calls prog 39 #[.agg #[.slice ao ls.length cap]] W fun e w'=>e=.returned (.bool false)∧BW W w'):=by
   have h:=Ij ao cap ls W HZ.o (by omega) HLB.o
   rw [hL] at h;exact h
  clear hno hL
  go_enter func287,ntmps287
  go_upto_region 1 with fail
  rw [← HW.o];go_wp2_with fail
  refine HC.o.mono ?_;rintro e w1 ⟨rfl,b1⟩;have P1:=HPW.o.below b1;have q1:=next bW b1;have HZ1:Hid (Ai w1 ao ls):=HZ.o.below b1;have j0:=P1.l0;have HP1:Hid (PB w.heap.size ao cap ls.length a b c m w1):=P1;clear HC b1 P1 l0;go_wp2_with fail
  refine (Hg ao cap ls w1 HZ1.o (by omega)).mono ?_
  rintro e w2 ⟨g2,c2,rfl,o2,b2⟩;have P2:=HP1.o.below b2;have r0:=P2.r0;have rf:=P2.rf;have HE:Hid _:=Gd (w:=w) (ok:=false) HNL.o o2 HP1.o.sz (next q1 b2);clear o2 b2 P2 j0;go_wp2
  refine bodyPost_ret (by simp [results,results287,go_sem,r0];try rfl) rfl ?_
  exact HE.o
 have HCL:Hid (Calls prog 39 #[.agg #[.slice ao ls.length cap]] W fun e w'=>e=.returned (.bool true)∧BW W w'):=by
  have h:=Ij ao cap ls W HZ.o (by omega) HLB.o
  rw [hL] at h;exact h
 cases hE:Bt (a,b,c,m)
 ·have hno:Cj ls (a,b,c,m)=false:=by simp [Cj,hE]
  have HNL:Hid _:=Hs hno;rw [hno];have HEO:Hid _:=hE;clear hno hL hE
  go_enter func287,ntmps287
  go_upto_region 1 with fail
  rw [← HW.o];go_wp2_with fail
  refine HCL.o.mono ?_;rintro e w1 ⟨rfl,b1⟩;have P1:=HPW.o.below b1;have q1:=next bW b1;have HZ1:Hid (Ai w1 ao ls):=HZ.o.below b1;have k0:=P1.e0;have k1:=P1.e1;have k2:=P1.e2;have k3:=P1.e3
  have HCE:Hid (Calls prog 313 #[.agg #[.int .i64 a,.int .i64 b,.int .i64 c,.int .i64 m]] w1 fun e w'=>e=.returned (.bool false)∧BW w1 w'):=by
   have h:=Nm a b c m w1 HEB.o.2.2.1;rw [HEO.o] at h;exact h
  have HP1:Hid (PB w.heap.size ao cap ls.length a b c m w1):=P1;clear HCL b1 P1 l0;go_wp2_with fail
  refine HCE.o.mono ?_;rintro e w2 ⟨rfl,b2⟩;have P2:=HP1.o.below b2;have q2:=next q1 b2;have HZ2:Hid (Ai w2 ao ls):=HZ1.o.below b2;have j0:=P2.l0;have HP2:Hid (PB w.heap.size ao cap ls.length a b c m w2):=P2;clear HCE b2 P2 k0 k1 k2 k3;go_wp2_with fail
  refine (Hg ao cap ls w2 HZ2.o (by omega)).mono ?_
  rintro e w3 ⟨g3,c3,rfl,o3,b3⟩;have P3:=HP2.o.below b3;have r0:=P3.r0;have rf:=P3.rf;have HE:Hid _:=Gd (w:=w) (ok:=false) HNL.o o3 HP2.o.sz (next q2 b3);clear o3 b3 P3 j0;go_wp2
  refine bodyPost_ret (by simp [results,results287,go_sem,r0];try rfl) rfl ?_
  exact HE.o
 ·obtain ⟨hl1,hl2,_⟩:=Dq hL
  obtain ⟨_,_,_,_,hm1,hm2⟩:=Lq hE
  simp only at hm1 hm2
  have hsrt:=Qn hl1;have hnz:=Rz hl1
  have hbd:∀ x ∈ ls,-1000000000000≤x.2.2∧x.2.2≤1000000000000:=fun x hx=>(Ig (Dv hl1 x hx)).2.2.1
  have HB1:Hid (∀ x ∈ ls,-4000000000000≤x.2.2∧x.2.2≤4000000000000):=fun x hx=>by have:=hbd x hx;omega
  have HB2:Hid (∀ x ∈ Cr ls a c (-m),-4000000000000≤x.2.2∧x.2.2≤4000000000000):=fun x hx=>by
   rcases P0 x hx with h | h | ⟨y,hy,h⟩
   ·have:=hbd x h;omega
   ·omega
   ·have:=hbd y hy;omega
  have hla:=Mp ls a c (-m);have hlb:=Mp (Cr ls a c (-m)) b c m;have HPT:Hid (G5 ls (a,b,c,m)=Cr (Cr ls a c (-m)) b c m):=rfl
  have HPO:Hid (Cj ls (a,b,c,m)=At (Cr (Cr ls a c (-m)) b c m)):=by rw [Hid,Cj,hL,hE];rfl
  have HLA1:Hid _:=Tb hsrt a c (show -m≠0 by omega)
  have HLA2:Hid _:=Tb (Rn hsrt a c (-m)) b c (show m≠0 by omega)
  have HSA:Hid (Va (Cr (Cr ls a c (-m)) b c m)):=Rn (Rn hsrt a c (-m)) b c m
  have HBA:Hid (∀ x ∈ Cr (Cr ls a c (-m)) b c m,Hw x):=cR (cR HLB.o HB1.o HEB.o.1 HEB.o.2.2.1 ⟨by omega,by omega⟩) HB2.o HEB.o.2.1 HEB.o.2.2.1 ⟨by omega,by omega⟩
  obtain ⟨A1,hA1⟩:∃ A1,Cr ls a c (-m)=A1:=⟨_,rfl⟩;rw [hA1] at HB2 hla hlb HPT HPO HLA1 HLA2 HSA HBA;obtain ⟨A,hA⟩:∃ A,Cr A1 b c m=A:=⟨_,rfl⟩;rw [hA] at hlb HPT HPO HLA2 HSA HBA;have HEO:Hid _:=hE;have HS:Hid (Va ls):=hsrt;have HNZ:Hid (NZ ls):=hnz;have HBD:Hid (∀ x ∈ ls,-1000000000000≤x.2.2∧x.2.2≤1000000000000):=hbd
  have hAb:A.length≤402:=by omega
  clear hL hE hl1 hbd hla hlb hA1 hA hsrt hnz
  have hwn:IntKind.i64.wrap (-m) = -m:=by simp [IntKind.wrap,IntKind.bits,IntKind.signed];omega
  go_enter func287,ntmps287
  go_upto_region 1 with fail
  rw [← HW.o];go_wp2_with fail
  refine HCL.o.mono ?_;rintro e w1 ⟨rfl,b1⟩;have P1:=HPW.o.below b1;have q1:=next bW b1;have k0:=P1.e0;have k1:=P1.e1;have k2:=P1.e2;have k3:=P1.e3
  have HCE:Hid (Calls prog 313 #[.agg #[.int .i64 a,.int .i64 b,.int .i64 c,.int .i64 m]] w1 fun e w'=>e=.returned (.bool true)∧BW w1 w'):=by
   have h:=Nm a b c m w1 HEB.o.2.2.1;rw [HEO.o] at h;exact h
  have HP1:Hid (PB w.heap.size ao cap ls.length a b c m w1):=P1;clear HCL b1 P1 l0;go_wp2_with fail
  refine HCE.o.mono ?_;rintro e w2 ⟨rfl,b2⟩;have P2:=HP1.o.below b2;have q2:=next q1 b2;have HZ2:Hid (Ai w2 ao ls):=HZ0.o.below q2;have j0:=P2.l0;have HP2:Hid (PB w.heap.size ao cap ls.length a b c m w2):=P2;clear HCE b2 P2 k0 k1 k2 k3;go_wp2_with fail
  refine (Ut ao cap ls w2 HZ2.o hl2 HS.o HNZ.o HBD.o HLB.o).mono ?_;rintro e w3 ⟨g,rfl,hg,m3,b3⟩;have P3:=HP2.o.below b3;have q3:=next q2 b3;have hgs:w.heap.size+1+1<g:=Nat.lt_of_lt_of_le HP2.o.sz hg;have HM3:Hid (F5 w3 g ls.length (Cf ls)):=m3;have i0:=P3.e0;have i2:=P3.e2;have i3:=P3.e3;have HP3:Hid (PB w.heap.size ao cap ls.length a b c m w3):=P3;have HV1:Hid _:=tP HBD.o a c;clear m3 b3 P3 j0 hg;go_wp2_with fail
  refine (U6 g ls.length (Cf ls) a c (-m) _ w3 HM3.o HEB.o.1 HEB.o.2.2.1 rfl (by have:=HV1.o;omega) (by unfold maxLen;omega)).mono ?_
  rintro e w4 ⟨rfl,m4,g4⟩;have P4:=HP3.o.grown g4 hgs
  have q4:BW w w4:=q3.grown g4 q3.size (fun j hj=>by cases hj;omega)
  have HM4:Hid (F5 w4 g (ls.length+1) (Cf A1)):=by rw [HLA1.o];exact m4
  have i1:=P4.e1;have i2:=P4.e2;have i3:=P4.e3;have HP4:Hid (PB w.heap.size ao cap ls.length a b c m w4):=P4;have HV2:Hid _:=jW HB2.o b c;clear m4 g4 P4 i0 HM3 HP3;go_wp2_with fail
  refine (U6 g (ls.length+1) (Cf A1) b c m _ w4 HM4.o HEB.o.2.1 HEB.o.2.2.1 rfl (by have:=HV2.o;omega) (by unfold maxLen;omega)).mono ?_
  rintro e w5 ⟨rfl,m5,g5⟩;have P5:=HP4.o.grown g5 hgs
  have q5:BW w w5:=q4.grown g5 q4.size (fun j hj=>by cases hj;omega)
  have HM5:Hid (F5 w5 g (ls.length+1+1) (Cf A)):=by rw [HLA2.o];exact m5
  have HP5:Hid (PB w.heap.size ao cap ls.length a b c m w5):=P5;clear m5 g5 P5 i1 i2 i3 HM4 HP4 q3 q4;go_wp2_with fail
  refine (Y1 g (ls.length+1+1) (Cf A) w5 HM5.o (by omega)).mono ?_
  rintro e w6 ⟨g6,k6,L,rfl,s6,lk6,_,o6,b6⟩
  have hLA:L=A:=aQ s6 HSA.o (fun x y=>by rw [lk6])
  subst hLA;have P6:=HP5.o.below b6;have q6:=next q5 b6;obtain ⟨V,hV⟩:∃ V,V=w6.alloc (.cells #[.slice g6 L.length k6] 29):=⟨_,rfl⟩
  have bV:BW w6 V:=by rw [hV];go_grown
  have v0:V.cell? ⟨w6.heap.size,0,none⟩=some (.slice g6 L.length k6):=by rw [hV];simp
  have PV:=P6.below bV;have qV:=next q6 bV;have HOV:Hid (V.ownsRow w5.heap.size 113 3 (.slice g6 L.length k6) L.length (Ag L)):=Av o6 bV;have HZV:Hid (Ai V ao ls):=HZ0.o.below qV;have HPV:Hid (PB w.heap.size ao cap ls.length a b c m V):=PV
  have HCL2:Hid (Calls prog 39 #[.agg #[.slice g6 L.length k6]] V fun e w'=>e=.returned (.bool (At L))∧BW V w'):=Ij g6 k6 L V (Df HOV.o) (by omega) HBA.o
  have hs5:w.heap.size+1+1<w5.heap.size:=HP5.o.sz;clear s6 lk6 o6 b6 bV P6 PV q6 HM5 HLA1 HLA2;go_upto_region 7 with fail
  rw [← hV];clear hV
  cases hLA:At L
  ·have hno:Cj ls (a,b,c,m)=false:=HPO.o.trans hLA
   have HNL:Hid _:=Hs hno;have HNO:Hid _:=hno;rw [hLA] at HCL2;clear hno hLA;go_wp2_with fail
   refine HCL2.o.mono ?_;rintro e w7 ⟨rfl,b7⟩;have P7:=HPV.o.below b7;have q7:=next qV b7;have HZ7:Hid (Ai w7 ao ls):=HZV.o.below b7;have j0:=P7.l0;have HP7:Hid (PB w.heap.size ao cap ls.length a b c m w7):=P7;clear HCL2 b7 P7 v0;go_wp2_with fail
   refine (Hg ao cap ls w7 HZ7.o (by omega)).mono ?_
   rintro e w8 ⟨g8,c8,rfl,o8,b8⟩;have P8:=HP7.o.below b8;have r0:=P8.r0;have rf:=P8.rf;have HE:Hid _:=Gd (w:=w) (ok:=false) HNL.o o8 HP7.o.sz (next q7 b8);clear o8 b8 P8 j0;go_wp2
   refine bodyPost_ret (by simp [results,results287,go_sem,r0];try rfl) rfl ?_
   rw [HNO.o];exact HE.o
  ·have hyes:Cj ls (a,b,c,m)=true:=HPO.o.trans hLA
   have HNL:Hid (Gg ls (a,b,c,m)=L):=(N9 hyes).trans HPT.o;have HNO:Hid _:=hyes;rw [hLA] at HCL2;clear hyes hLA;go_wp2_with fail
   refine HCL2.o.mono ?_;rintro e w7 ⟨rfl,b7⟩;have P7:=HPV.o.below b7;have q7:=next qV b7;have v7:=(b7.cell (p:=⟨w6.heap.size,0,none⟩) (World.block_lt_of_cell? V _ v0)).trans v0;have r0:=P7.r0;have rf:=P7.rf;have HE:Hid _:=Gd (w:=w) (ok:=true) HNL.o (Av HOV.o b7) hs5 q7;clear HCL2 b7 P7 v0;go_wp2
   refine bodyPost_ret (by simp [results,results287,go_sem,r0];try rfl) rfl ?_
   rw [HNO.o];exact HE.o
theorem Um (ao:Option Addr) (cap:Nat) (ls:List Ln) (eo:Option Addr) (ec:Nat) (es:List En) (w:World) (hz:Ai w ao ls) (hn:ls.length≤1048576) (hlb:∀ x ∈ ls,Hw x) (hy:C8 w eo es) (hm:es.length≤1048576) (heb:∀ x ∈ es,Ma x) :
  Calls prog 255 #[.agg #[.slice ao ls.length cap],.slice eo es.length ec] w (Jl w (Hv ls es) (allOk ls es)):=by
 obtain ⟨W,hW⟩:∃ W,W=(w.alloc (.cells #[.slice ao ls.length cap] 29)).alloc (.cells #[.slice none 0 0] 29):=⟨_,rfl⟩
 have bW:BW w W:=by rw [hW];go_grown
 have hWs:W.heap.size=w.heap.size+2:=by rw [hW];simp
 have l0:W.cell? ⟨w.heap.size,0,none⟩=some (.slice ao ls.length cap):=by rw [hW];simp [go_sem]
 have r0:W.cell? ⟨w.heap.size+1,0,none⟩=some (.slice none 0 0):=by rw [hW];simp [go_sem]
 have rf:W.frozen? ⟨w.heap.size+1,0,none⟩=false:=by rw [hW];simp [go_sem]
 have HL0:Hid _:=l0;have HR0:Hid _:=r0;have HRF:Hid _:=rf;have HZ:Hid (Ai w ao ls):=hz;have HY:Hid (C8 w eo es):=hy;have HLB:Hid (∀ x ∈ ls,Hw x):=hlb;have HEB:Hid (∀ x ∈ es,Ma x):=heb;have HBW:Hid (BW w W):=bW;have HWS:Hid _:=hWs;clear hz hy hlb heb r0 rf bW hWs
 go_enter func255,ntmps255
 go_upto_region 1 with fail
 rw [← hW];clear hW;go_wp2_with fail
 refine (Hg ao cap ls W (HZ.o.below HBW.o) (by omega)).mono ?_
 rintro e w1 ⟨a1,k1,rfl,o1,b1⟩;have hws:=HWS.o
 have P1:PA w.heap.size w1.heap.size ao cap ls.length ls a1 k1 (w1.alloc (.cells #[.slice a1 ls.length k1] 29)):=Vv ((b1.cell (p:=⟨w.heap.size,0,none⟩) (by show w.heap.size<W.heap.size;omega)).trans HL0.o) ((b1.cell (p:=⟨w.heap.size+1,0,none⟩) (by show w.heap.size+1<W.heap.size;omega)).trans HR0.o) ((b1.frozen (p:=⟨w.heap.size+1,0,none⟩) (by show w.heap.size+1<W.heap.size;omega)).trans HRF.o) (Bi o1 (by omega))
 have q1:=next HBW.o b1;obtain ⟨V,hV⟩:∃ V,V=w1.alloc (.cells #[.slice a1 ls.length k1] 29):=⟨_,rfl⟩
 have qV:BW w V:=by rw [hV];exact q1.alloc q1.size _
 have HPV:Hid (PA w.heap.size w1.heap.size ao cap ls.length ls a1 k1 V):=by rw [Hid,hV];exact P1
 obtain ⟨B,hBe⟩:∃ B,B=w1.heap.size:=⟨_,rfl⟩;clear P1 q1 o1 b1 l0 hws;go_upto_region 2 with fail
 rw [← hV,← hBe];rw [← hBe] at HPV;clear hV hBe;go_wp2
 go_loopw [7,14] (fun v7 i wr=>∃ (k:Nat) (cQ:List Ln) (a2:Option Addr) (k2:Nat),k≤es.length∧i=.int .i64 k∧v7=.bool true∧Ch ls es=Ch cQ (es.drop k)∧PA w.heap.size B ao cap ls.length cQ a2 k2 wr∧(cQ.length≤1048576∧∀ x ∈ cQ,Hw x)∧BW w wr) (fun _ i _=>es.length - (intOf i).toNat)
 case atStart=>exact ⟨0,ls,a1,k1,Nat.zero_le _,rfl,rfl,rfl,HPV.o,⟨hn,HLB.o⟩,qV⟩
 case round =>
  obtain ⟨k,cQ,a2,k2,hk,rfl,rfl,hps,hpa,⟨hcl,hcb⟩,hbr⟩:=hrel;have HPA:Hid (PA w.heap.size B ao cap ls.length cQ a2 k2 wr):=hpa;have HCB:Hid (∀ x ∈ cQ,Hw x):=hcb;have HPS:Hid (Ch ls es=Ch cQ (es.drop k)):=hps;clear hpa hcb hps HPV qV
  by_cases hlt:k<es.length
  ·have hki:(k:Int)<(es.length:Int):=by omega
   obtain ⟨b,off,rfl,hb2,y1,y2,y3,y4⟩:=(HY.o.below hbr).at hlt;have hst:=Rb cQ es k hlt;have hek:=HEB.o _ (lJ hlt);obtain ⟨⟨a,a',c,m⟩,hx⟩:∃ x,I4 es k=x:=⟨_,rfl⟩;rw [hx] at y1 y2 y3 y4 hst hek
   simp only at y1 y2 y3 y4
   have HST:Hid _:=HPS.o.trans hst;have HEK:Hid (Ma (a,a',c,m)):=hek;obtain ⟨U,hU⟩:∃ U,U=wr.alloc (.cells #[.int .i64 a,.int .i64 a',.int .i64 c,.int .i64 m] 269):=⟨_,rfl⟩
   have bU:BW wr U:=by rw [hU];go_grown
   have u0:U.cell? ⟨wr.heap.size,0,none⟩=some (.int .i64 a):=by rw [hU];simp
   have u1:U.cell? ⟨wr.heap.size,1,none⟩=some (.int .i64 a'):=by rw [hU];simp
   have u2:U.cell? ⟨wr.heap.size,2,none⟩=some (.int .i64 c):=by rw [hU];simp
   have u3:U.cell? ⟨wr.heap.size,3,none⟩=some (.int .i64 m):=by rw [hU];simp
   have HPU:Hid (PA w.heap.size B ao cap ls.length cQ a2 k2 U):=HPA.o.below bU;have c6:=HPU.o.c6;have qU:=next hbr bU;have HBU:Hid (B<U.heap.size):=World.block_lt_of_cell? U _ c6;clear hst hek hx bU hbr;go_upto_region 5 with fail
   rw [← hU];clear hU y1 y2 y3 y4;go_wp2_with fail
   refine (K9 a2 k2 cQ a a' c m U (Df HPU.o.own) hcl HCB.o HEK.o).mono ?_;rintro e w2 ⟨a3,k3,rfl,o3,b3⟩;have P3:=HPU.o.below b3;have d6:=P3.c6;have f6:=P3.f6;have q3:=next qU b3;have hbu:=HBU.o;have HP4:Hid (PA w.heap.size B ao cap ls.length (Gg cQ (a,a',c,m)) a3 k3 (w2.setCell ⟨B,0,none⟩ (.slice a3 (Gg cQ (a,a',c,m)).length k3))):=P3.put o3 hbu;have hBs:=HPA.o.hB
   have q4:Below w.heap.size w (w2.setCell ⟨B,0,none⟩ (.slice a3 (Gg cQ (a,a',c,m)).length k3)):=q3.setCell (by show w.heap.size≤B;omega) _
   clear P3 o3 b3 q3 hbu c6 u0 u1 u2 u3 qU hBs
   cases hok:Cj cQ (a,a',c,m)
   ·rw [hok] at HST
    have HNO:Hid (Ch ls es=none):=HST.o;have HPL:Hid (Gg cQ (a,a',c,m)=cQ):=Hs hok;rw [HPL.o] at HP4 q4 ⊢;clear HST hok;obtain ⟨X,hX⟩:∃ X,X=w2.setCell ⟨B,0,none⟩ (.slice a3 cQ.length k3):=⟨_,rfl⟩;rw [← hX] at HP4 q4;have l4:=HP4.o.l0;have HZX:Hid (Ai X ao ls):=HZ.o.below q4;go_upto_region 7 with fail
    rw [← hX];clear hX d6 f6;go_wp2_with fail
    refine (Hg ao cap ls X HZX.o (by omega)).mono ?_
    rintro e w5 ⟨a5,k5,rfl,o5,b5⟩;have P5:=HP4.o.below b5;have r5:=P5.r0;have rf5:=P5.rf
    have HE:Hid (Jl w (Hv ls es) (allOk ls es) (.returned (.tuple #[.agg #[.slice a5 ls.length k5],.bool false])) (w5.setCell ⟨w.heap.size+1,0,none⟩ (.slice a5 ls.length k5))):=by
     have h1:allOk ls es=false:=by unfold allOk;rw [HNO.o];rfl
     have h2:Hv ls es=ls:=by unfold Hv;rw [HNO.o];rfl
     rw [Hid,h1];exact Pq (w:=w) h2 o5 (World.block_lt_of_cell? X _ HP4.o.r0) (next q4 b5)
    clear o5 b5 P5 l4;go_wp2
    refine bodyPost_ret (by simp [results,results255,go_sem,r5];try rfl) rfl ?_
    exact HE.o
   ·have hpo:=N1 hok
    rw [hok] at HST
    have HN:Hid (Ch ls es=Ch (Gg cQ (a,a',c,m)) (es.drop (k+1))):=by rw [Hid,HST.o,hpo.1];rfl
    have HB2:Hid ((Gg cQ (a,a',c,m)).length≤1048576∧∀ x ∈ Gg cQ (a,a',c,m),Hw x):=by
     rw [hpo.1]
     exact ⟨by have:=(Dq hpo.2).2.1;omega,Vm hpo.2⟩
    clear HST hok hpo
    generalize Gg cQ (a,a',c,m)=nxt at *
    go_wp2
    go_roundw
    case rel=>exact ⟨k+1,nxt,a3,k3,by omega,by go_num,rfl,HN.o,HP4.o,HB2.o,q4⟩
    case measure=>simp [intOf];omega
  ·have hke:k=es.length:=by omega
   subst hke
   have hki:¬ (es.length:Int)<(es.length:Int):=by omega
   have hsome:Ch ls es=some cQ:=by rw [HPS.o,Te]
   have c6:=HPA.o.c6;have r0:=HPA.o.r0;have rf:=HPA.o.rf
   have HE:Hid (Jl w (Hv ls es) (allOk ls es) (.returned (.tuple #[.agg #[.slice a2 cQ.length k2],.bool true])) (wr.setCell ⟨w.heap.size+1,0,none⟩ (.slice a2 cQ.length k2))):=by
    have h1:allOk ls es=true:=by unfold allOk;rw [hsome];rfl
    have h2:Hv ls es=cQ:=by unfold Hv;rw [hsome];rfl
    rw [Hid,h1]
    exact Pq (w:=w) h2 HPA.o.own (by omega) hbr
   clear hsome HPS;go_wp2
   refine bodyPost_ret (by simp [results,results255,go_sem,r0];try rfl) rfl ?_
   exact HE.o
end Go.Proofs.YtomiclakhjncbaaGreatDoor
namespace Go.Proofs.YtomiclakhjncbaaGreatDoor.Kb
open Go.RowKit Go.Proofs.Tryz
theorem iV {u:World} {base n size:Nat} {t:TypeId} {v:Value} {xs:List Value} (h:u.ownsRow base t size v n xs):∃ a c,v=.slice a n c:=by
 rcases h.2 with ⟨hv,h0⟩ | ⟨g,cap,cQ,hv,_⟩
 ·exact ⟨none,0,by rw [hv,h0]⟩
 ·exact ⟨_,_,hv⟩
theorem fZ (g:Nat) (ao:Option Addr) (cap:Nat) (cs:List Cs) (w:World) (hc:w.cell? ⟨g,0,none⟩=some (.slice ao cs.length cap)) (hz:A0 w ao cs) (hn:cs.length≤1048577) :
  Calls prog 111 #[.slice (some ⟨g,0,none⟩) 1 1] w fun e w'=>∃ a2 k2,e=.returned (.slice a2 cs.length k2) ∧
   w'.ownsRow w.heap.size 61 12 (.slice a2 cs.length k2) cs.length (Aj cs)∧BW w w':=by
 have HZ:Hid (A0 w ao cs):=hz;clear hz
 go_enter func111,ntmps111
 go_wp2;refine wp_loop_rounds 2 ?_;rw [rounds_succ]
 go_wp2_with (at_builtin;refine Eh _ rfl (.tmp 12) (.tmp 13) rfl w.heap.size _ 0 [] rfl (World.ownsRow_nil _ _ _ _) ao cap cs rfl HZ.o (by omega) nL ?_;intro v2 w2 o2 g2 _)
 have q2:BW w w2:=bR.grown g2 nL (fun k hk=>by cases hk)
 rw [Nat.zero_add,List.nil_append] at o2;obtain ⟨a2,k2,hv2⟩:=iV o2;subst hv2;have HO2:Hid (w2.ownsRow w.heap.size 61 12 (.slice a2 cs.length k2) cs.length (Aj cs)):=o2;clear o2 g2 HZ hc;go_wp2;rw [rounds_succ];go_wp2;go_ret;exact ⟨a2,k2,rfl,HO2.o,q2⟩
theorem Sb {F:Ff} {E:World→Prop} {G:Nat} (KI:Rq F E G) (ao:Option Addr) (cap:Nat) (rs:Be) (w:World) (hz:Bh w ao rs) (hn:rs.length≤1048576) (hd:∀ r ∈ rs,r.length≤1048576) :
  Calls prog 112 #[.slice ao rs.length cap] w fun e w'=>e=.returned (.slice (some ⟨w.heap.size,0,none⟩) rs.length rs.length) ∧
   w'.ownsRow w.heap.size 9 1 (.slice (some ⟨w.heap.size,0,none⟩) rs.length rs.length) rs.length (Am rs)∧BW w w':=by
 obtain ⟨i0,hi,hz0,hz1,hz2⟩:=info_parts S1;have hm0:=Qc rs.length
 rcases hz with rfl | ⟨b,off,rfl,hb,hcell⟩
 ·go_enter func112,ntmps112
  go_wp2_with (refine wpList_make_full _ rfl (.tmp 7) (.tmp 7) 23 rfl w.heap.size 9 i0 _ 1 underlying23 hi hz0 hz1 .i64 .i64 _ _ 0 rfl rfl rfl rfl (by rw [hz2];omega) (by unfold maxLen;omega) nL ?_;intro w1 hown hg)
  refine wp_loop_rounds 1 ?_;rw [rounds_succ];go_wp2;go_ret
  exact ⟨rfl,by simpa [madeCells,Am] using hown,bR.grown hg nL (fun k hk=>by cases hk)⟩
 ·have HC:Hid (∀ i,i<rs.length→w.cell? ⟨b,off+i,none⟩=some (.string ⟨(Al rs i).toArray⟩)):=hcell
  have HCL:Hid (∀ (i:Nat) (u:World),i<rs.length→Calls prog 138 #[.string ⟨(Al rs i).toArray⟩] u fun e w'=>e=.returned (.string ⟨(Al rs i).toArray⟩)∧BW u w'):=fun i u h=>KI.clone _ u (hd _ (F7 h))
  clear hcell KI hd
  go_enter func112,ntmps112
  go_wp2_with (refine wpList_make_full _ rfl (.tmp 7) (.tmp 7) 23 rfl w.heap.size 9 i0 _ 1 underlying23 hi hz0 hz1 .i64 .i64 _ _ rs.length rfl rfl rfl rfl (by rw [hz2];omega) (by unfold maxLen;omega) nL ?_;intro w1 hown hg)
  rw [hm0,show List.replicate rs.length ([]:List UInt8)=Eg rs 0 from by simp [Eg]] at hown
  have hb1:BW w w1:=bR.grown hg nL (fun k hk=>by cases hk)
  clear hm0 hg
  go_loopw [11] (fun i wr=>∃ k:Nat,k≤rs.length∧i=.int .i64 k∧wr.ownsRow w.heap.size 9 1 (.slice (some ⟨w.heap.size,0,none⟩) rs.length rs.length) rs.length (Am (Eg rs k))∧BW w wr) (fun i _=>rs.length - (intOf i).toNat)
  case atStart=>exact ⟨0,Nat.zero_le _,rfl,hown,hb1⟩
  case round =>
   obtain ⟨k,hk,rfl,ho,hbr⟩:=hrel;clear hown hb1
   by_cases hlt:k<rs.length
   ·have c1:wr.cell? ⟨b,off+k,none⟩=some (.string ⟨(Al rs k).toArray⟩):=(hbr.cell (p:=⟨b,off+k,none⟩) hb).trans (HC.o k hlt)
    have hki:(k:Int)<(rs.length:Int):=by omega
    have HS:Hid _:=Q8 rs k hlt;have HT:Hid _:=Lu (Eg rs k) k (Al rs k)
    have hat:=Hd (Eg rs k) k (by rw [Tq rs k hk];exact hlt)
    rw [Wd rs k hlt] at hat
    have HCK:Hid (∀ u,Calls prog 138 #[.string ⟨(Al rs k).toArray⟩] u fun e w'=>e=.returned (.string ⟨(Al rs k).toArray⟩)∧BW u w'):=fun u=>HCL.o k u hlt
    obtain ⟨s,hf⟩:∃ f,Al rs k=f:=⟨_,rfl⟩;rw [hf] at c1 HS HT HCK;have HO:Hid (wr.ownsRow w.heap.size 9 1 (.slice (some ⟨w.heap.size,0,none⟩) rs.length rs.length) rs.length (Am (Eg rs k))):=ho;have HBR:Hid (BW w wr):=hbr;have HAT:Hid _:=hat;clear ho hf hbr hat;go_wp2_with fail
    refine Calls.mono (HCK.o wr) ?_;rintro e w2 ⟨rfl,p2⟩;have ho2:=Vs HO.o p2
    have c3:w2.cell? ⟨w.heap.size,k,none⟩=some (.string ⟨#[]⟩):=by rw [ho2.cellAt k (by omega)];exact HAT.o
    have c5:w2.frozen? ⟨w.heap.size,k,none⟩=false:=ho2.frozenAt _
    have HR:Hid ((w2.setCell ⟨w.heap.size,k,none⟩ (.string ⟨s.toArray⟩)).ownsRow w.heap.size 9 1 (.slice (some ⟨w.heap.size,0,none⟩) rs.length rs.length) rs.length (Am (Eg rs (k+1)))):=by
     have R:=(ho2.stored k (.string ⟨s.toArray⟩)).1;rw [HT.o,HS.o] at R;exact R
    have HB2:Hid (BW w w2):=next HBR.o p2;clear ho2 p2 c1;go_wp2
    go_roundw
    case rel=>exact ⟨k+1,by omega,by go_num,HR.o,HB2.o.setCell nL _⟩
    case measure=>simp [intOf];omega
   ·have:k=rs.length:=by omega
    subst this;rw [S5] at ho;go_wp2;go_ret;exact ⟨rfl,ho,hbr⟩
end Go.Proofs.YtomiclakhjncbaaGreatDoor.Kb
namespace Go.Proofs.YtomiclakhjncbaaGreatDoor
open Go.RowKit Go.Proofs.Tryz
theorem zN (x n:Int):(uF x n).length≤18:=by
 rcases uG x n with h | ⟨a,m,_,_,h1,h2,h3,h⟩
 ·rw [h];simp
 ·rw [h,vI h1 h3];omega
structure LS (B g:Nat) (w:World) (b:Bk) (p:Bp) (u:World):Prop where
 z0:u.cell? ⟨w.heap.size,0,none⟩=some (.int .i64 b.today)
 z2:u.cell? ⟨w.heap.size,2,none⟩=some (.slice p.a b.az.length p.ac)
 z3:u.cell? ⟨w.heap.size,3,none⟩=some (.slice p.c b.cs.length p.cc)
 cu:A2 B u g
 gr:w.grownBy u (some g)
 az:Ar u p.a b.az
 cs:A0 u p.c b.cs
 lt:g<w.heap.size
 oa:Im p.a g
 oc:Im p.c g
theorem LS.call {B g:Nat} {w:World} {b:Bk} {p:Bp} {u u':World} (q:LS B g w b p u) (c:A2 B u' g) (r:u.grownBy u' (some g)):LS B g w b p u':=by
 have hl:=q.lt
 refine ⟨r.cell (a:=⟨w.heap.size,0,none⟩) q.z0 (by simp;omega),r.cell (a:=⟨w.heap.size,2,none⟩) q.z2 (by simp;omega),r.cell (a:=⟨w.heap.size,3,none⟩) q.z3 (by simp;omega),c,q.gr.trans r,q.az.far r (fun B' e=>by cases e;exact q.oa),q.cs.far r (fun B' e=>by cases e;exact q.oc),q.lt,q.oa,q.oc⟩
theorem K8 {w w':World} (h:BW w w') (r:Option Nat):w.grownBy w' r:=⟨h.os,h.tape,h.output,h.size,fun k hk _=>h.block k hk⟩
theorem LS.below {B g:Nat} {w:World} {b:Bk} {p:Bp} {u u':World} (q:LS B g w b p u) (h:BW u u'):LS B g w b p u':=q.call (A4 q.cu h) (K8 h _)
theorem LS.alloc {B g:Nat} {w:World} {b:Bk} {p:Bp} {u:World} (q:LS B g w b p u) (o:Obj):LS B g w b p (u.alloc o):=q.below (bR.alloc nL _)
theorem LS.drew {B g:Nat} {w:World} {b:Bk} {p:Bp} {u:World} (q:LS B g w b p u):LS B g w b p u.drew:=q.below (bR.drew)
theorem LS.new {B g:Nat} {w:World} {b:Bk} {p:Bp} (hc:A2 B w g) (hx:Aq w b p) (ho:Wq p g) (t:TypeId) :
  LS B g w b p (w.alloc (.cells #[.int .i64 b.today,.slice p.o b.off.length p.oc,.slice p.a b.az.length p.ac,.slice p.c b.cs.length p.cc,.slice p.l b.ls.length p.lc,.slice p.g b.log.length p.gc] t)):=by
 have z:=Z6.new w (.int .i64 b.today) (.slice p.o b.off.length p.oc) (.slice p.a b.az.length p.ac) (.slice p.c b.cs.length p.cc) (.slice p.l b.ls.length p.lc) (.slice p.g b.log.length p.gc) t;have bA:Below w.heap.size w (w.alloc (.cells #[.int .i64 b.today,.slice p.o b.off.length p.oc,.slice p.a b.az.length p.ac,.slice p.c b.cs.length p.cc,.slice p.l b.ls.length p.lc,.slice p.g b.log.length p.gc] t)):=bR.alloc nL _;have hb:=K6 hc
 exact ⟨z.c0,z.c2,z.c3,A3 hc _,K8 bA _,hx.az.below bA,hx.cs.below bA,by omega,ho.a,ho.c⟩
theorem tY {B g:Nat} {w:World} {b:Bk} {p:Bp} {u:World} (q:LS B g w b p u) (n:Int) (hn:n≤1099511627776) :
  Calls prog 79 #[.pointer (some ⟨g,0,none⟩),.int .i64 n] u fun e u'=>∃ x:Int,e=.returned (.int .i64 x)∧0≤x∧(1≤n→x<n)∧LS B g w b p u' :=
 (G4 g n u q.cu hn).mono (by rintro e u' ⟨x,h1,h2,h3,c,r⟩;exact ⟨x,h1,h2,h3,q.call c r⟩)
theorem Aay {B g:Nat} {w:World} {b:Bk} {p:Bp} {u:World} (q:LS B g w b p u) (n:Int) (hn:n≤1099511627776) :
  Calls prog 97 #[.pointer (some ⟨g,0,none⟩),.int .i64 n] u fun e u'=>∃ x:Bool,e=.returned (.bool x)∧LS B g w b p u' :=
 (Y7 g n u q.cu hn).mono (by rintro e u' ⟨x,h1,c,r⟩;exact ⟨x,h1,q.call c r⟩)
theorem Aai {B g:Nat} {w:World} {b:Bk} {p:Bp} {u:World} (q:LS B g w b p u) :
  Calls prog 131 #[.pointer (some ⟨g,0,none⟩),.slice (some ⟨u.heap.size,0,none⟩) 2 2] (u.alloc (.cells #[.int .i64 840,.int .i64 978] 3)) fun e u'=>∃ x:Int,e=.returned (.int .i64 x)∧LS B g w b p u' :=
 (R2 g u.heap.size 2 [840,978] (u.alloc (.cells #[.int .i64 840,.int .i64 978] 3)) (A3 q.cu _) (R5 q.cu) (tX u [840,978] #[.int .i64 840,.int .i64 978] rfl) (by decide) (by decide)).mono (by rintro e u' ⟨x,h1,-,c,r⟩;exact ⟨x,h1,(q.alloc _).call c r⟩)
theorem O7 (a b:ByteArray):(a++b).size=a.size+b.size:=by simp
structure FrB (q:Bp) (n:Nat):Prop where
 o:Cm q.o n
 a:Cm q.a n
 c:Cm q.c n
 l:Cm q.l n
 g:Cm q.g n
theorem Ey {a:Option Addr} {n m:Nat} (h:Cm a n) (hm:m≤n):Cm a m:=fun x hx=>by have:=h x hx;omega
theorem U7 {a a1:Option Addr} {n m:Nat} (h:a=a1∨Cm a n) (h1:Cm a1 m) (hm:m≤n):Cm a m:=by
 rcases h with rfl | h
 ·exact h1
 ·exact Ey h hm
def BoF (Rel:Bk→List UInt8→Bk×Int→Prop) (b:Bk) (line:List UInt8) (w:World) (e:Ending) (w':World):Prop :=
 ∃ r q,Fg Rel b line r∧e=.returned (.tuple #[C5 r.1 q,.int .i64 r.2])∧Aq w' r.1 q∧BW w w'∧FrB q w.heap.size
theorem T5 {Pre:Bk→Prop} {Rel:Bk→List UInt8→Bk×Int→Prop} (D:cB Pre Rel) (b:Bk) (p:Bp) (line:List UInt8) (w:World) (hx:Aq w b p) (hp:Pre b) (hl:line.length≤1048575) :
  Calls prog 31 #[C5 b p,.string ⟨line.toArray⟩] w (BoF Rel b line w):=by
 have hn:=D.small b hp;have HPRE:Hid (Pre b):=hp;clear hp
 have HX:Hid (∀ u,BW w u→Aq u b p):=fun u h=>hx.below h
 have HN:Hid (D0 b):=hn
 have HCP:Hid (∀ u,BW w u→Calls prog 71 #[C5 b p] u (CpR u b)):=fun u h=>Oq b p u (hx.below h) hn
 clear hx hn;obtain ⟨td,fo,az,cs,ls,lg⟩:=b;obtain ⟨o,oc,a,ac,c,cc,l,lc,g,gc⟩:=p;unfold C5 at HCP ⊢
 simp only at HCP ⊢
 obtain ⟨u0,hu0⟩:∃ u,u=((w.alloc (.cells #[.int .i64 td,.slice o fo.length oc,.slice a az.length ac,.slice c cs.length cc,.slice l ls.length lc,.slice g lg.length gc] 31))).alloc (.cells #[.int .i64 0,.slice none 0 0,.slice none 0 0,.slice none 0 0,.slice none 0 0,.slice none 0 0] 31):=⟨_,rfl⟩
 have HB0:Hid (BW w u0):=by rw [Hid,hu0];go_grown
 have HS0:Hid ((w.heap.size+1)<u0.heap.size):=by rw [Hid,hu0];simp
 have HZ0:Hid (Z6 w.heap.size (.int .i64 td) (.slice o fo.length oc) (.slice a az.length ac) (.slice c cs.length cc) (.slice l ls.length lc) (.slice g lg.length gc) u0):=by
  rw [Hid,hu0];exact ((Z6.new w (.int .i64 td) (.slice o fo.length oc) (.slice a az.length ac) (.slice c cs.length cc) (.slice l ls.length lc) (.slice g lg.length gc) 31)).below (bR.alloc nL _)
 have HR0:Hid (Z6 (w.heap.size+1) (.int .i64 0) (.slice none 0 0) (.slice none 0 0) (.slice none 0 0) (.slice none 0 0) (.slice none 0 0) u0):=by
  have h:=Z6.new ((w.alloc (.cells #[.int .i64 td,.slice o fo.length oc,.slice a az.length ac,.slice c cs.length cc,.slice l ls.length lc,.slice g lg.length gc] 31))) (.int .i64 0) (.slice none 0 0) (.slice none 0 0) (.slice none 0 0) (.slice none 0 0) (.slice none 0 0) 31
  rw [Hid,hu0];simpa using h
 have HU0:Hid _:=hu0;clear hu0
 go_enter func31,ntmps31
 go_upto_region 1 with fail
 rw [← HU0.o];clear HU0
 have hcn:lg.length≤1048576:=by have:=HN.o.2.2.2.2;simpa using this
 obtain ⟨t0,t1,t2,t3,t4,t5,s0,s1,s2,s3,s4,s5⟩:=HZ0.o;obtain ⟨q0,q1,q2,q3,q4,q5,p0,p1,p2,p3,p4,p5⟩:=HR0.o;go_wp2_with fail
 refine Calls.mono (HCP.o _ HB0.o) ?_;rintro e u1 ⟨⟨q1,base,rfl,hb1,ho1,hbs,hbz,hah,hfr⟩,b1⟩;obtain ⟨o1,oc1,a1,ac1,c1,cc1,l1,lc1,g1,gc1⟩:=q1;unfold C5
 simp only at ho1 hah hfr ⊢
 have HZ1:Hid _:=HZ0.o.below b1;have HR1:Hid _:=HR0.o.below b1;have HB1:Hid (BW w u1):=next HB0.o b1;have HK1:Hid (Aq u1 ⟨td,fo,az,cs,ls,lg⟩ ⟨o1,oc1,a1,ac1,c1,cc1,l1,lc1,g1,gc1⟩):=hb1;have HO1:Hid (u1.ownsRow base 9 1 (.slice g1 lg.length gc1) lg.length (Am lg)):=ho1;have hs0:=HS0.o
 have HOB:Hid (Wq ⟨o1,oc1,a1,ac1,c1,cc1,l1,lc1,g1,gc1⟩ w.heap.size):=⟨Bb hfr.1 (by omega),Bb hfr.2.1 (by omega),Bb hfr.2.2.1 (by omega),Bb hfr.2.2.2.1 (by omega),Bb hfr.2.2.2.2 (by omega)⟩
 have HOR:Hid (Wq ⟨o1,oc1,a1,ac1,c1,cc1,l1,lc1,g1,gc1⟩ (w.heap.size+1)):=⟨Bb hfr.1 hs0,Bb hfr.2.1 hs0,Bb hfr.2.2.1 hs0,Bb hfr.2.2.2.1 hs0,Bb hfr.2.2.2.2 hs0⟩;have HAH:Hid (Dt o1 base∧Dt a1 base∧Dt c1 base∧Dt l1 base):=hah
 have HFR:Hid (FrB ⟨o1,oc1,a1,ac1,c1,cc1,l1,lc1,g1,gc1⟩ w.heap.size):=⟨Ey hfr.1 (by omega),Ey hfr.2.1 (by omega),Ey hfr.2.2.1 (by omega),Ey hfr.2.2.2.1 (by omega),Ey hfr.2.2.2.2 (by omega)⟩
 have HBS:Hid (w.heap.size+1<base∧base≤u1.heap.size):=⟨by omega,hbz⟩
 clear t0 t1 t2 t3 t4 t5 s0 s1 s2 s3 s4 s5 q0 q1 q2 q3 q4 q5 p0 p1 p2 p3 p4 p5 HZ0 HR0 HB0 HS0 HCP b1 hb1 ho1 hah hfr hbs hbz hs0;obtain ⟨t0,t1,t2,t3,t4,t5,s0,s1,s2,s3,s4,s5⟩:=HZ1.o;obtain ⟨q0,q1,q2,q3,q4,q5,p0,p1,p2,p3,p4,p5⟩:=HR1.o;go_upto_region 2 with fail
 obtain ⟨u2,hu2⟩:∃ u,u=(((((u1.setCell ⟨w.heap.size,0,none⟩ (.int .i64 td)).setCell ⟨w.heap.size,1,none⟩ (.slice o1 fo.length oc1)).setCell ⟨w.heap.size,2,none⟩ (.slice a1 az.length ac1)).setCell ⟨w.heap.size,3,none⟩ (.slice c1 cs.length cc1)).setCell ⟨w.heap.size,4,none⟩ (.slice l1 ls.length lc1)).setCell ⟨w.heap.size,5,none⟩ (.slice g1 lg.length gc1):=⟨_,rfl⟩
 have HZ2:Hid (Z6 w.heap.size (.int .i64 td) (.slice o1 fo.length oc1) (.slice a1 az.length ac1) (.slice c1 cs.length cc1) (.slice l1 ls.length lc1) (.slice g1 lg.length gc1) u2):=by rw [Hid,hu2];exact HZ1.o.put6 _ _ _ _ _ _
 have HR2:Hid (Z6 (w.heap.size+1) (.int .i64 0) (.slice none 0 0) (.slice none 0 0) (.slice none 0 0) (.slice none 0 0) (.slice none 0 0) u2):=by rw [Hid,hu2];exact HR1.o.far6 (by omega) _ _ _ _ _ _
 have HB2:Hid (BW w u2):=by rw [Hid,hu2];exact Ax nL HB1.o _ _ _ _ _ _
 have HK2:Hid (Aq u2 ⟨td,fo,az,cs,ls,lg⟩ ⟨o1,oc1,a1,ac1,c1,cc1,l1,lc1,g1,gc1⟩):=by rw [Hid,hu2];exact HK1.o.put6 HOB.o _ _ _ _ _ _
 have HO2:Hid (u2.ownsRow base 9 1 (.slice g1 lg.length gc1) lg.length (Am lg)):=by rw [Hid,hu2];exact Ea HO1.o (by have:=HBS.o;omega) _ _ _ _ _ _
 have HB2S:Hid (w.heap.size+1<base∧base≤u2.heap.size):=by rw [Hid,hu2];simpa using HBS.o
 rw [← hu2];clear hu2 HZ1 HR1 HB1 HK1 HO1 HBS t0 t1 t2 t3 t4 t5 s0 s1 s2 s3 s4 s5 q0 q1 q2 q3 q4 q5 p0 p1 p2 p3 p4 p5;obtain ⟨t0,t1,t2,t3,t4,t5,s0,s1,s2,s3,s4,s5⟩:=HZ2.o;obtain ⟨q0,q1,q2,q3,q4,q5,p0,p1,p2,p3,p4,p5⟩:=HR2.o
 by_cases hfull:600≤lg.length
 ·have hf':(600:Int)≤(lg.length:Int):=by omega
  go_wp2
  refine bodyPost_ret (by simp [results,results31,go_sem,q0,q1,q2,q3,q4,q5];try rfl) rfl ?_
  exact ⟨(⟨td,fo,az,cs,ls,lg⟩,2),⟨o1,oc1,a1,ac1,c1,cc1,l1,lc1,g1,gc1⟩,.inl ⟨hfull,rfl⟩,rfl,HK2.o.put6 HOR.o _ _ _ _ _ _,Ax (by omega) HB2.o _ _ _ _ _ _,HFR.o⟩
 have hf':¬ (600:Int)≤(lg.length:Int):=by omega
 have HAB:Vb ⟨o1,oc1,a1,ac1,c1,cc1,l1,lc1,g1,gc1⟩ u2.heap.size:=⟨HAH.o.1.mono HB2S.o.2,HAH.o.2.1.mono HB2S.o.2,HAH.o.2.2.1.mono HB2S.o.2,HAH.o.2.2.2.mono HB2S.o.2,G8 HO2.o nL⟩;have HD:Hid _:=D.calls ⟨td,fo,az,cs,ls,lg⟩ ⟨o1,oc1,a1,ac1,c1,cc1,l1,lc1,g1,gc1⟩ line u2 HK2.o HAB HPRE.o hl;clear HAB;have HLOG:Hid _:=D.log ⟨td,fo,az,cs,ls,lg⟩ line;unfold C5 at HD
 simp only at HD
 go_wp2_with fail
 refine Calls.mono HD.o ?_;rintro e u3 ⟨⟨⟨td2,fo2,az2,cs2,ls2,lg2⟩,code⟩,hrel,q2,rfl,hb3,hg3,hgc3,hpt,b3⟩;obtain ⟨o2,oc2,a2,ac2,c2,cc2,l2,lc2,g2,gc2⟩:=q2
 simp only at hg3 hgc3 hpt hrel hb3
 obtain rfl:lg2=lg:=HLOG.o _ hrel;subst hg3;subst hgc3;unfold C5
 simp only
 have HREL:Hid _:=hrel;have HK3:Hid _:=hb3;have HPT:Hid _:=hpt;obtain ⟨V,hV⟩:∃ V,V=u3.alloc (.cells #[.int .i64 td2,.slice o2 fo2.length oc2,.slice a2 az2.length ac2,.slice c2 cs2.length cc2,.slice l2 ls2.length lc2,.slice g2 lg2.length gc2] 31):=⟨_,rfl⟩
 have bV:BW u3 V:=by rw [hV];exact bR.alloc nL _
 have HT:Hid (Z6 u3.heap.size (.int .i64 td2) (.slice o2 fo2.length oc2) (.slice a2 az2.length ac2) (.slice c2 cs2.length cc2) (.slice l2 ls2.length lc2) (.slice g2 lg2.length gc2) V):=by rw [Hid,hV];exact Z6.new u3 (.int .i64 td2) (.slice o2 fo2.length oc2) (.slice a2 az2.length ac2) (.slice c2 cs2.length cc2) (.slice l2 ls2.length lc2) (.slice g2 lg2.length gc2) 31
 have HTO:Hid (∃ cQ,V.heap[u3.heap.size]?=some (.cells cQ 31)):=by rw [Hid,hV];exact ⟨_,heap_alloc_new u3 _⟩
 have b23:=next b3 bV;have HZ3:Hid (Z6 w.heap.size (.int .i64 td) (.slice o1 fo.length oc1) (.slice a1 az.length ac1) (.slice c1 cs.length cc1) (.slice l1 ls.length lc1) (.slice g2 lg2.length gc2) V):=HZ2.o.below b23;have HR3:Hid (Z6 (w.heap.size+1) (.int .i64 0) (.slice none 0 0) (.slice none 0 0) (.slice none 0 0) (.slice none 0 0) (.slice none 0 0) V):=HR2.o.below b23;have HB3:Hid (BW w V):=next HB2.o b23;have HKB:Hid (Aq V ⟨td,fo,az,cs,ls,lg2⟩ ⟨o1,oc1,a1,ac1,c1,cc1,l1,lc1,g2,gc2⟩):=HK2.o.below b23;have HO3:Hid (V.ownsRow base 9 1 (.slice g2 lg2.length gc2) lg2.length (Am lg2)):=Av HO2.o b23
 have HLB:Hid (∀ B,(Value.slice g2 lg2.length gc2).ownBlock=some B→base≤B∧B<u2.heap.size):=fun B h=>HO2.o.lt B h
 have HG3:Hid (∀ row,u3.grownBy V row):=fun row=>by rw [hV];exact World.grownBy_alloc u3 _ row
 have HS3:Hid (w.heap.size+1<base∧base≤u2.heap.size∧u2.heap.size≤u3.heap.size∧u3.heap.size<V.heap.size):=⟨HB2S.o.1,HB2S.o.2,b3.size,HT.o.lt⟩;have HV:Hid _:=hV;clear hV bV b3 b23 hb3 hpt hrel HZ2 HR2 HB2 HK2 HO2 HB2S HD t0 t1 t2 t3 t4 t5 s0 s1 s2 s3 s4 s5 q0 q1 q2 q3 q4 q5 p0 p1 p2 p3 p4 p5;go_upto_region 5 with fail
 rw [← HV.o];clear HV
 by_cases hcode:code=0
 case neg =>
  have hcb:(code != 0)=true:=by simpa using hcode
  obtain ⟨t0,t1,t2,t3,t4,t5,s0,s1,s2,s3,s4,s5⟩:=HZ3.o;obtain ⟨q0,q1,q2,q3,q4,q5,p0,p1,p2,p3,p4,p5⟩:=HR3.o;go_wp2
  refine bodyPost_ret (by simp [results,results31,go_sem,q0,q1,q2,q3,q4,q5];try rfl) rfl ?_
  exact ⟨(⟨td,fo,az,cs,ls,lg2⟩,code),⟨o1,oc1,a1,ac1,c1,cc1,l1,lc1,g2,gc2⟩,.inr ⟨by show lg2.length<600;omega,_,HREL.o,.inl ⟨hcode,rfl⟩⟩,rfl,HKB.o.put6 HOR.o _ _ _ _ _ _,Ax (by omega) HB3.o _ _ _ _ _ _,HFR.o⟩
 subst hcode;obtain ⟨i0,hi,hz0,hz1,hz2⟩:=info_parts S1;have t5:=(HT.o.below (bR.alloc nL (.cells #[.string ⟨line.toArray⟩] 9))).c5;have t5':=HT.o.c5;obtain ⟨LL,hLL⟩:∃ L,lg2++[line]=L:=⟨_,rfl⟩;have HEQ:Hid (lg2++[line]=LL):=hLL;clear hLL
 have HP:Hid (∀ v5 w5,w5.ownsRow base 9 1 v5 (lg2.length+1) (Am lg2++[.string ⟨line.toArray⟩])→(V.alloc (.cells #[.string ⟨line.toArray⟩] 9)).grownBy w5 (Value.slice g2 lg2.length gc2).ownBlock →
   ∃ a5 k5,v5=.slice a5 LL.length k5∧w5.ownsRow base 9 1 (.slice a5 LL.length k5) LL.length (Am LL)∧Z6 u3.heap.size (.int .i64 td2) (.slice o2 fo2.length oc2) (.slice a2 az2.length ac2) (.slice c2 cs2.length cc2) (.slice l2 ls2.length lc2) (.slice g2 lg2.length gc2) w5∧Z6 (w.heap.size+1) (.int .i64 0) (.slice none 0 0) (.slice none 0 0) (.slice none 0 0) (.slice none 0 0) (.slice none 0 0) w5∧u3.grownBy w5 (Value.slice g2 lg2.length gc2).ownBlock∧BW w w5∧Im a5 u3.heap.size):=by
  intro v5 w5 o5 g5;have hs3:=HS3.o
  have hne:some u3.heap.size≠(Value.slice g2 lg2.length gc2).ownBlock:=fun e=>by have:=HLB.o _ e.symm;omega
  have hneR:some (w.heap.size+1)≠(Value.slice g2 lg2.length gc2).ownBlock:=fun e=>by have:=HLB.o _ e.symm;omega
  have ga:=World.grownBy_alloc V (.cells #[.string ⟨line.toArray⟩] 9) (Value.slice g2 lg2.length gc2).ownBlock;have gv:=ga.trans g5
  have e1:lg2.length+1=LL.length:=by rw [← HEQ.o];simp
  have e2:Am lg2++[.string ⟨line.toArray⟩]=Am LL:=by rw [← HEQ.o,F6];rfl
  rw [e1,e2] at o5;obtain ⟨a5,k5,hv⟩:=Hb o5;subst hv
  refine ⟨a5,k5,rfl,o5,HT.o.grown gv hne,HR3.o.grown gv hneR,(HG3.o _).trans gv,HB3.o.grown gv HB3.o.size (fun B hB=>by have:=HLB.o B hB;omega),?_⟩
  intro x hx e;subst hx;obtain ⟨cQ,hcur⟩:=HTO.o;have hT:w5.heap[u3.heap.size]?=some (.cells cQ 31):=(gv.block _ hs3.2.2.2 hne).trans hcur
  rcases o5.2 with ⟨h,_⟩ | ⟨g,cap,cr,h,_,hg,_⟩
  ·cases h
  ·have hxg:x.block=g:=by
     injection h with h _ _
     injection h with h
     rw [h]
   rw [← hxg,e,hT] at hg
   injection hg with hg
   injection hg with _ h2
   exact absurd h2 (by decide)
 have HOA:Hid ((V.alloc (.cells #[.string ⟨line.toArray⟩] 9)).ownsRow base 9 1 (.slice g2 lg2.length gc2) lg2.length (Am lg2)):=HO3.o.alloc _
 go_upto_region 8 with (at_builtin;refine wpList_append_own _ rfl (.tmp 26) (.tmp 28) 23 rfl base 9 i0 (.string ⟨#[]⟩) 1 16 underlying23 hi hz0 hz1 hz2 rfl (by decide) _ _ _ rfl HOA.o ⟨V.heap.size,0,none⟩ 1 1 [.string ⟨line.toArray⟩] rfl rfl (World.news_of_block (heap_alloc_new V _)) (Rf _) (by unfold maxLen;omega) (by omega) (by have:=HS3.o;simp;omega) ?_;intro v5 w5 o5 g5 _;obtain ⟨a5,k5,hv5,o6,zt,zr,gg,bb,hoff⟩:=HP.o v5 w5 o5 g5;subst hv5;have y5:=zt.c5;have f5:=zt.z5;have HO6:Hid _:=o6;have HZT:Hid _:=zt;have HZR:Hid _:=zr;have HGG:Hid _:=gg;have HBB:Hid _:=bb;have HOF:Hid _:=hoff;clear o5 g5 o6 zt zr gg bb hoff)
 obtain ⟨u6,hu6⟩:∃ u,u=w5.setCell ⟨u3.heap.size,5,none⟩ (.slice a5 LL.length k5):=⟨_,rfl⟩;have hs3:=HS3.o
 have HT6:Hid (Z6 u3.heap.size (.int .i64 td2) (.slice o2 fo2.length oc2) (.slice a2 az2.length ac2) (.slice c2 cs2.length cc2) (.slice l2 ls2.length lc2) (.slice a5 LL.length k5) u6):=by rw [Hid,hu6];exact HZT.o.set5 _
 have HR6:Hid (Z6 (w.heap.size+1) (.int .i64 0) (.slice none 0 0) (.slice none 0 0) (.slice none 0 0) (.slice none 0 0) (.slice none 0 0) u6):=by rw [Hid,hu6];exact HZR.o.far (by omega)
 have HB6:Hid (BW w u6):=by rw [Hid,hu6];exact HBB.o.setCell (show w.heap.size≤u3.heap.size by omega) _
 have HG6:Hid (u3.grownBy u6 (Value.slice g2 lg2.length gc2).ownBlock):=by rw [Hid,hu6];exact aC HGG.o nL
 have HL6:Hid (u6.ownsRow base 9 1 (.slice a5 LL.length k5) LL.length (Am LL)):=by
  rw [Hid,hu6];refine World.ownsRow.kept HO6.o (An _ _ _ _) ?_
  by_cases e:(Value.slice a5 LL.length k5).ownBlock=none
  ·exact .inl e
  ·refine .inr fun e2=>?_
   cases a5 with
   | none=>simp [Value.ownBlock] at e
   | some x =>
    have hx:x.block=u3.heap.size:=by simpa [Value.ownBlock] using e2
    exact HOF.o x rfl hx
 rw [← hu6];clear hu6 HZT HZR HBB HGG HO6 HOF HOA HP y5 f5 t5 t5' HT HTO HZ3 HR3 HB3 HKB HO3;obtain ⟨t0,t1,t2,t3,t4,t5,-,-,-,-,-,-⟩:=HT6.o;obtain ⟨q0,q1,q2,q3,q4,q5,p0,p1,p2,p3,p4,p5⟩:=HR6.o;go_wp2
 refine bodyPost_ret (by simp [results,results31,go_sem,q0,q1,q2,q3,q4,q5];try rfl) rfl ?_
 obtain ⟨pe,pa,pc,pl⟩:=HPT.o;have hK:=HK3.o;have hah:=HAH.o;have hor:=HOR.o;have hgg:=HG6.o;have hlb:=HLB.o
 have HF:Aq u6 ⟨td2,fo2,az2,cs2,ls2,LL⟩ ⟨o2,oc2,a2,ac2,c2,cc2,l2,lc2,a5,k5⟩ :=
  ⟨hK.off.far hgg (fun B e=>Mz (.inl pe) hah.1 (hlb B e).1 (hlb B e).2),hK.az.far hgg (fun B e=>Mz pa hah.2.1 (hlb B e).1 (hlb B e).2),hK.cs.far hgg (fun B e=>Mz pc hah.2.2.1 (hlb B e).1 (hlb B e).2),hK.ls.far hgg (fun B e=>Mz pl hah.2.2.2 (hlb B e).1 (hlb B e).2),Ep HL6.o⟩
 have HQ:Wq ⟨o2,oc2,a2,ac2,c2,cc2,l2,lc2,a5,k5⟩ (w.heap.size+1) :=
  ⟨Ky (n:=u2.heap.size) (.inl pe) hor.o (by omega),Ky pa hor.a (by omega),Ky pc hor.c (by omega),Ky pl hor.l (by omega),Bb (Cw HL6.o) (by omega)⟩
 refine ⟨(⟨td2,fo2,az2,cs2,ls2,LL⟩,0),⟨o2,oc2,a2,ac2,c2,cc2,l2,lc2,a5,k5⟩,.inr ⟨by show lg2.length<600;omega,_,HREL.o,.inr ⟨rfl,by rw [← HEQ.o]⟩⟩,rfl,HF.put6 HQ _ _ _ _ _ _,Ax (by omega) HB6.o _ _ _ _ _ _,?_⟩
 have hfr:=HFR.o
 exact ⟨pe ▸ hfr.o,U7 pa hfr.a (by omega),U7 pc hfr.c (by omega),U7 pl hfr.l (by omega),Ey (Cw HL6.o) (by omega)⟩
def NoB (x:List UInt8):Prop:=∀ c ∈ x,c≠32
theorem L2 {x:List UInt8} (h:x.all (fun c=>c != 32)=true):NoB x:=fun c hc e=>by
 have:=List.all_eq_true.1 h c hc
 rw [e] at this
 exact absurd this (by decide)
theorem xI {x r:List UInt8} (hx:NoB x):∀ i,i≤x.length→B0 (x++32::r) i=([],0):=by
 intro i
 induction i with
 | zero=>intro _;rfl
 | succ i ih =>
  intro hi
  have hg:(x++32::r).getD i 0=x[i]:=by
   rw [List.getD_eq_getElem?_getD,List.getElem?_append_left (by omega),List.getElem?_eq_getElem (by omega)]
   rfl
  rw [J7 (by rw [hg];exact hx _ (List.getElem_mem _))]
  exact ih (by omega)
theorem yK (x r:List UInt8) (s:Nat):(x++32::r).drop (x.length+1+s)=r.drop s:=by
 rw [List.drop_append,List.drop_of_length_le (by omega),List.nil_append,show x.length+1+s - x.length=s+1 from by omega]
 rfl
theorem xB {x r:List UInt8} (hx:NoB x):∀ j,j≤r.length→B0 (x++32::r) (x.length+1+j)=(x::(B0 r j).1,x.length+1+(B0 r j).2):=by
 intro j
 induction j with
 | zero =>
  intro _
  have hg:(x++32::r).getD x.length 0=32:=by simp [List.getD_eq_getElem?_getD]
  show B0 (x++32::r) (x.length+1)=_
  rw [Kw hg,xI hx _ nL]
  simp [B0]
 | succ j ih =>
  intro hj
  have h:=ih (by omega)
  have hg:(x++32::r).getD (x.length+1+j) 0=r.getD j 0:=by
   rw [List.getD_eq_getElem?_getD,List.getElem?_append_right (by omega),show x.length+1+j - x.length=j+1 from by omega]
   simp [List.getD_eq_getElem?_getD]
  have hle:=(Mo r j).1
  by_cases h32:r.getD j 0=32
  ·rw [show x.length+1+(j+1)=(x.length+1+j)+1 from by omega,Kw (by rw [hg];exact h32),h,Kw h32]
   simp only [List.cons_append]
   rw [yK,show x.length+1+j - (x.length+1+(B0 r j).2)=j - (B0 r j).2 from by omega]
   rfl
  ·rw [show x.length+1+(j+1)=(x.length+1+j)+1 from by omega,J7 (by rw [hg];exact h32),h,J7 h32]
theorem L4 {x r:List UInt8} (hx:NoB x):Ab (x++32::r)=x::Ab r:=by
 have h:=xB hx (r:=r) r.length nL
 have hl:(x++32::r).length=x.length+1+r.length:=by simp;omega
 rw [Ab,hl,h,Ab]
 simp only [List.cons_append]
 rw [yK]
def K5 (l:List UInt8):Prop:=(Bq (Ab l)=true→Al (Ab l) 1≠[]∧Ae (Al (Ab l) 2)≤8)∧(Da (Ab l)=true→Ae (Al (Ab l) 1)≤8∧Ae (Al (Ab l) 2)≤8)
theorem wN {s:List UInt8} (h:Dr s≤8):Ae s≤8:=by
 unfold Ae
 split
 ·omega
 ·split
  ·omega
  ·exact h
theorem xF {m:Nat} (h:m≤8):Dr [UInt8.ofNat (48+m)]≤8:=by
 rcases (show m=0∨m=1∨m=2∨m=3∨m=4∨m=5∨m=6∨m=7∨m=8 from by omega) with rfl | rfl | rfl | rfl | rfl | rfl | rfl | rfl | rfl <;> decide
theorem Aac {m:Nat} (h:m≤9):NoB [UInt8.ofNat (48+m)]:=by
 intro c hc;rw [List.mem_singleton] at hc;subst hc
 rcases (show m=0∨m=1∨m=2∨m=3∨m=4∨m=5∨m=6∨m=7∨m=8∨m=9 from by omega) with rfl | rfl | rfl | rfl | rfl | rfl | rfl | rfl | rfl | rfl <;> decide
theorem Pl {x:List UInt8} (hx:NoB x) (h1:x≠Dy) (h2:x≠I7) (r:List UInt8):K5 (x++32::r):=by
 have e:Al (Ab (x++32::r)) 0=x:=by rw [L4 hx];rfl
 constructor
 ·intro h
  unfold Bq at h;rw [e,decide_eq_false h1] at h
  cases h
 ·intro h
  unfold Da at h;rw [e,decide_eq_false h2] at h
  cases h
theorem uC {A D:List UInt8} (hA0:A≠[]) (hA:NoB A) (hD:NoB D) (h:Dr D≤8) (r:List UInt8):K5 ([97,117,116,104]++32::(A++32::(D++32::r))):=by
 have e:Ab ([97,117,116,104]++32::(A++32::(D++32::r)))=[97,117,116,104]::A::D::Ab r:=by
  rw [L4 (L2 (by decide)),L4 hA,L4 hD]
 constructor
 ·intro _
  rw [e];exact ⟨hA0,wN h⟩
 ·intro h
  unfold Da at h
  rw [e,show Al ([97,117,116,104]::A::D::Ab r) 0=[97,117,116,104] from rfl,show decide (([97,117,116,104]:List UInt8)=I7)=false from by decide] at h
  cases h
theorem tT {A D:List UInt8} (hA:NoB A) (hD:NoB D) (h:Dr A≤8) (h':Dr D≤8) (r:List UInt8):K5 ([112,97,121]++32::(A++32::(D++32::r))):=by
 have e:Ab ([112,97,121]++32::(A++32::(D++32::r)))=[112,97,121]::A::D::Ab r:=by
  rw [L4 (L2 (by decide)),L4 hA,L4 hD]
 constructor
 ·intro h
  unfold Bq at h
  rw [e,show Al ([112,97,121]::A::D::Ab r) 0=[112,97,121] from rfl,show decide (([112,97,121]:List UInt8)=Dy)=false from by decide] at h
  cases h
 ·intro _
  rw [e];exact ⟨wN h,wN h'⟩
structure Par (b:Bk):Prop where
 ia:∀ a ∈ b.az,1≤a.iss∧a.iss≤8
 pc:∀ c ∈ b.cs,(1≤c.iss∧c.iss≤8)∧(1≤c.acq∧c.acq≤8)
end Go.Proofs.YtomiclakhjncbaaGreatDoor
namespace Go.Proofs.YtomiclakhjncbaaGreatDoor
open Go.ChangeShapes Go.WideShapes Go.ChangeAt Go.RowKit Go.Deep Go.Proofs.Tryz
section
variable {P:Program} {H:Type} {enc:TypeId×Value→H} {W:World}
end
end Go.Proofs.YtomiclakhjncbaaGreatDoor
namespace Go.Proofs.YtomiclakhjncbaaGreatDoor
open Go.RowKit Go.Proofs.Tryz
def tL (b:Bk):Prop:=D0 b∧(b.log.length:Int)+V3 b.log≤1048576
def Aa6 (lg:Be):List UInt8:=lg.flatMap fun r=>r++[10]
theorem Ab6 (lg:Be) (k:Nat) (h:k<lg.length):Aa6 (lg.take (k+1))=Aa6 (lg.take k)++(Al lg k++[10]):=by
 have e:Al lg k=lg[k]:=by simp [Al,List.getD_eq_getElem?_getD,h]
 rw [List.take_succ_eq_append_getElem h,Aa6,List.flatMap_append,e];simp [Aa6]
theorem Abn (lg:Be):(Aa6 lg).length=lg.length+V3 lg:=by
 induction lg with
 | nil=>rfl
 | cons r s ih =>
  have e:Aa6 (r::s)=(r++[10])++Aa6 s:=rfl;rw [e,List.length_append,ih]
  simp [V3];omega
theorem Ab2 (lg:Be) (k:Nat):(Aa6 (lg.take k)).length≤(Aa6 lg).length:=by
 have e:Aa6 lg=Aa6 (lg.take k)++Aa6 (lg.drop k):=by
  rw [Aa6,Aa6,Aa6,← List.flatMap_append,List.take_append_drop]
 rw [e,List.length_append];omega
theorem Abm (b:Bk) (p:Bp) (w:World) (hx:Aq w b p) (hn:tL b) :
  Calls prog 96 #[C5 b p] w fun e w'=>e=.returned (.string ⟨(Aa6 b.log).toArray⟩)∧BW w w':=by
 obtain ⟨i0,hi,hz0,hz1,hz2⟩:=info_parts Acz;obtain ⟨W,hW⟩:∃ W,W=(w.alloc (.cells #[.int .i64 b.today,.slice p.o b.off.length p.oc,.slice p.a b.az.length p.ac,.slice p.c b.cs.length p.cc,.slice p.l b.ls.length p.lc,.slice p.g b.log.length p.gc] 31)).alloc (.cells #[] 5):=⟨_,rfl⟩
 have bW:BW w W:=by rw [hW];go_grown
 have HS:Hid (S6 w.heap.size b p W):=by rw [Hid,hW];exact (S6.new w b p _).below (bR.alloc nL _)
 have HO0:Hid (W.ownsRow (w.heap.size+1) 5 1 (.slice (some ⟨w.heap.size+1,0,none⟩) 0 0) 0 ((Aa6 []).map cell)):=by
  have h:=World.ownsRow_lit (base:=w.heap.size+1) (e:=5) (size:=1) (w.alloc (.cells #[.int .i64 b.today,.slice p.o b.off.length p.oc,.slice p.a b.az.length p.ac,.slice p.c b.cs.length p.cc,.slice p.l b.ls.length p.lc,.slice p.g b.log.length p.gc] 31)) #[] 0 (by simp) (by unfold maxLen;omega) rfl
  rw [Hid,hW];simpa [Aa6] using h
 have HX:Hid (Bh w p.g b.log):=hx.log
 have HWS:Hid (W.heap.size=w.heap.size+2):=by rw [Hid,hW];simp
 have HQ:Hid (∀ u,Below (w.heap.size+1) W u→BW w u):=fun u h=>bW.trans (h.mono (by omega))
 have HK:Hid (∀ u,Below (w.heap.size+1) W u→S6 w.heap.size b p u):=fun u h=>HS.o.under h (by omega)
 have HL:Hid (∀ k,(Aa6 (b.log.take k)).length≤1048576):=fun k=>by have:=Ab2 b.log k;have:=Abn b.log;have:=hn.2;omega
 have hcn:=hn.1.2.2.2.2;clear hx hn bW HS;have HW:Hid _:=hW;clear hW;obtain ⟨td,fo,az,cs,ls,lg⟩:=b;obtain ⟨o,oc,a,ac,c,cc,l,lc,g,gc⟩:=p;unfold C5
 simp only at HW HX hcn HL ⊢
 go_enter func96,ntmps96
 go_upto_region 2 with fail
 rw [← HW.o];clear HW;go_wp2_with fail
 go_loopw [3,4] (fun s i wr=>∃ (v:Value) (k:Nat),v=s∧k≤lg.length∧i=.int .i64 (k:Int)∧wr.ownsRow (w.heap.size+1) 5 1 v (Aa6 (lg.take k)).length ((Aa6 (lg.take k)).map cell)∧Below (w.heap.size+1) W wr) (fun _ i _=>lg.length - (intOf i).toNat)
 case atStart=>exact ⟨_,0,rfl,Nat.zero_le _,rfl,HO0.o,bR⟩
 case round =>
  obtain ⟨v,k,hvs,hk,rfl,hown,hbr⟩:=hrel;subst hvs;have HBR:Hid (Below (w.heap.size+1) W wr):=hbr;obtain ⟨x0,x1,x2,x3,x4,x5⟩:=HK.o _ hbr
  simp only at x0 x1 x2 x3 x4 x5
  by_cases hlt:k<lg.length
  ·have hki:(k:Int)<(lg.length:Int):=by omega
   obtain ⟨gb,off,rfl,hgb,hcell⟩:∃ gb off,g=some ⟨gb,off,none⟩∧gb<wr.heap.size∧wr.cell? ⟨gb,off+k,none⟩=some (.string ⟨(Al lg k).toArray⟩):=by
    rcases HX.o.below (HQ.o _ hbr) with h | ⟨gb,off,h1,h2,h3⟩
    ·rw [h] at hlt;simp at hlt
    ·exact ⟨gb,off,h1,h2,h3 k hlt⟩
   have HNX:Hid _:=Ab6 lg k hlt;have hl1:=HL.o k;have hl2:=HL.o (k+1);rw [HNX.o,List.length_append] at hl2;obtain ⟨r,hr⟩:∃ r,Al lg k=r:=⟨_,rfl⟩;rw [hr] at hcell HNX hl2;obtain ⟨d,hd⟩:∃ d,r++[10]=d:=⟨_,rfl⟩;rw [hd] at HNX hl2;obtain ⟨D,hD⟩:∃ D,Aa6 (lg.take k)=D:=⟨_,rfl⟩;rw [hD] at HNX hl1 hl2 hown;have HO:Hid (wr.ownsRow (w.heap.size+1) 5 1 v D.length (D.map cell)):=hown;obtain ⟨cap5,w5,hcv0,hba,b5⟩:=Ab7 d wr
   have hcv:(convert 9 55 (.string (⟨r.toArray⟩++⟨#[10]⟩))).run prog wr=.ok (.slice (some ⟨wr.heap.size,0,none⟩) d.length cap5) w5:=by
    rw [show (⟨r.toArray⟩++⟨#[10]⟩:ByteArray)=⟨d.toArray⟩ from by rw [← hd];exact Lb r [10]];exact hcv0
   have HO5:Hid (w5.ownsRow (w.heap.size+1) 5 1 v D.length (D.map cell)):=Av HO.o b5;have hsz:wr.heap.size≤w5.heap.size:=b5.size;have hwz:=hbr.size;have hws:=HWS.o
   have HNW:Hid (∀ j u,(d.map cell)[j]?=some u→w5.cell? ((⟨wr.heap.size,0,none⟩:Addr).add j)=some u):=by
    intro j u hj
    have hl:j<d.length:=by
     rcases Nat.lt_or_ge j d.length with h' | h'
     ·exact h'
     ·rw [List.getElem?_eq_none (by simpa using h')] at hj;cases hj
    rw [show (⟨wr.heap.size,0,none⟩:Addr).add j=⟨wr.heap.size,j,none⟩ from by unfold Addr.add;split <;> simp_all,(hba.2 j hl).1]
    simpa [List.getElem?_map,List.getD_eq_getElem?_getD,hl] using hj
   have HB5:Hid (Below (w.heap.size+1) W w5):=hbr.trans (b5.mono (by omega))
   have HLT:Hid (∀ j,v.ownBlock=some j→w.heap.size+1≤j):=fun j hj=>(hown.lt j hj).1
   have hrl:r.length≤1048576:=by
    have e:d.length=r.length+1:=by rw [← hd];simp
    omega
   clear hown hbr hba b5 hcv0 hd hr hD HO
   go_wp2_with (at_builtin;refine wpList_append_own _ rfl (.tmp 13) (.tmp 20) 55 rfl (w.heap.size+1) 5 i0 (.int .u8 0) 1 1 underlying55 hi hz0 hz1 hz2 rfl (by decide) v D.length _ rfl HO5.o ⟨wr.heap.size,0,none⟩ d.length cap5 (d.map cell) rfl (by simp) HNW.o (Acj d) (by unfold maxLen;omega) (by omega) (by omega) ?_;intro v6 w6 o6 g6 _)
   have q6:Below (w.heap.size+1) W w6:=HB5.o.grown g6 (by omega) HLT.o
   have HR6:Hid (w6.ownsRow (w.heap.size+1) 5 1 v6 (Aa6 (lg.take (k+1))).length ((Aa6 (lg.take (k+1))).map cell)):=by
    rw [Hid,HNX.o,List.length_append,List.map_append];exact o6
   clear o6 g6 x0 x1 x2 x3 x4 x5 hcell hcv;go_wp2
   go_roundw
   case rel=>exact ⟨_,k+1,rfl,by omega,by go_num,HR6.o,q6⟩
   case measure=>simp [intOf];omega
  ·have hke:k=lg.length:=by omega
   subst hke
   have hki:¬ (lg.length:Int)<(lg.length:Int):=by omega
   rw [List.take_length] at hown;have hcv:=lY hown;clear hbr hown;go_wp2;go_ret;exact ⟨rfl,HQ.o _ HBR.o⟩
end Go.Proofs.YtomiclakhjncbaaGreatDoor
