import Derived.Test.YtomiclakhjncbaaGreatDoorJA8a
import Derived.Test.YtomiclakhjncbaaGreatDoorKACStart
import Derived.Test.YtomiclakhjncbaaGreatDoorKAOff
import Derived.Test.YtomiclakhjncbaaGreatDoorJA4a
namespace Go.Proofs.YtomiclakhjncbaaGreatDoor
open Go.RowKit
set_option maxRecDepth 100000
set_option maxHeartbeats 12800000
theorem DB.new (w:World) (c:Cs) (a:Ac) (t:Int) (o e:Value) (ty:TypeId):DB w.heap.size c a t o e (w.alloc (.cells #[.int .i64 c.iss,.int .i64 c.acq,.int .i64 c.cur,.int .i64 c.am,.int .i64 c.st,.int .i64 c.rsn,.int .i64 c.cl,.int .i64 c.bk,.int .i64 c.fee,.bool c.cop,.int .i64 c.sta,.int .i64 c.due,.int .i64 a.kind,.int .i64 a.am,.int .i64 a.rsn,.int .i64 t,o,e] ty)):=by
 exact ⟨⟨by simp,by simp,by simp,by simp,by simp,by simp,by simp,by simp,by simp,by simp,by simp,by simp⟩,by simp,by simp,by simp,by simp,by simp,by simp,⟨by simp [go_sem],by simp [go_sem],by simp [go_sem],by simp [go_sem],by simp [go_sem],by simp [go_sem],by simp [go_sem],by simp [go_sem],by simp [go_sem],by simp [go_sem],by simp [go_sem],by simp [go_sem]⟩,by simp [go_sem]⟩
theorem iDo_any (c:Cs) (a:Ac) (t:Int) (ao:Option Addr) (cp:Nat) (zs:List Int) (w:World) (hx:IntsAt w ao zs) (hn:zs.length≤1099511627776) (ht:StepTab w) (hg:16<w.heap.size) (hc:(Lit.int .i64 c.cur).wf=true) :
  Calls Tryz.prog 214 #[cv c,av a,.int .i64 t,.slice ao zs.length cp] w (DoR w (doC c a t zs) (doE c a t zs) (doV c a t zs)):=by
 obtain ⟨W,hW⟩:∃ W,W=((w.alloc (.cells #[.int .i64 c.iss,.int .i64 c.acq,.int .i64 c.cur,.int .i64 c.am,.int .i64 c.st,.int .i64 c.rsn,.int .i64 c.cl,.int .i64 c.bk,.int .i64 c.fee,.bool c.cop,.int .i64 c.sta,.int .i64 c.due] 61)).alloc (.cells #[.int .i64 a.kind,.int .i64 a.am,.int .i64 a.rsn] 165)).alloc (.cells #[.int .i64 0,.int .i64 0,.int .i64 0,.int .i64 0,.int .i64 0,.int .i64 0,.int .i64 0,.int .i64 0,.int .i64 0,.bool false,.int .i64 0,.int .i64 0] 61):=⟨_,rfl⟩
 have HX:Hid (BX w.heap.size c a W):=by rw [Hid,hW];exact BX.new w c a _ _ _
 have HBW:Hid (Below w.heap.size w W):=by rw [Hid,hW];go_grown
 have HI:Hid (IntsAt w ao zs):=hx
 have HT:Hid (StepTab w):=ht
 have HG:Hid (16<w.heap.size):=hg
 have HOK:Hid (∀ u,Calls Tryz.prog 254 #[cv c] u fun e w'=>e=.returned (.bool (caseOk c))∧Below u.heap.size u w'):=fun u=>iCaseOk_any c u hc
 have HCU:Hid ((Lit.int .i64 c.cur).wf=true):=hc
 obtain ⟨iss,acq,cur,am,st,rsn,cl,bk,fee,cop,sta,due⟩:=c
 unfold cv av
 unfold cv at HOK
 simp only at hW HOK HCU ⊢
 have HW:Hid _:=hW
 clear hx ht hg hc hW
 go_enter Tryz.func214,Tryz.ntmps214
 go_upto_region 1 with fail
 rw [← HW.out]
 clear HW
 obtain ⟨⟨f0,f1,f2,f3,f4,f5,f6,f7,f8,f9,f10,f11⟩,k0,k1,k2,⟨g0,g1,g2,g3,g4,g5,g6,g7,g8,g9,g10,g11⟩,⟨z0,z1,z2,z3,z4,z5,z6,z7,z8,z9,z10,z11⟩⟩:=HX.out
 simp only [Nat.zero_add,zeroC] at f0 f1 f2 f3 f4 f5 f6 f7 f8 f9 f10 f11 g0 g1 g2 g3 g4 g5 g6 g7 g8 g9 g10 g11 z0 z1 z2 z3 z4 z5 z6 z7 z8 z9 z10 z11
 go_wp2_with fail
 refine (HOK.out _).mono ?_
 rintro e w1 ⟨rfl,b1⟩
 have HX1:Hid (BX w.heap.size ⟨iss,acq,cur,am,st,rsn,cl,bk,fee,cop,sta,due⟩ a w1):=HX.out.below b1
 have HB:Hid (Below w.heap.size w w1):=next HBW.out b1
 clear b1 f0 f1 f2 f3 f4 f5 f6 f7 f8 f9 f10 f11 g0 g1 g2 g3 g4 g5 g6 g7 g8 g9 g10 g11 z0 z1 z2 z3 z4 z5 z6 z7 z8 z9 z10 z11 k0 k1 k2 HX HBW
 obtain ⟨⟨f0,f1,f2,f3,f4,f5,f6,f7,f8,f9,f10,f11⟩,k0,k1,k2,⟨g0,g1,g2,g3,g4,g5,g6,g7,g8,g9,g10,g11⟩,⟨z0,z1,z2,z3,z4,z5,z6,z7,z8,z9,z10,z11⟩⟩:=HX1.out
 simp only [Nat.zero_add,zeroC] at f0 f1 f2 f3 f4 f5 f6 f7 f8 f9 f10 f11 g0 g1 g2 g3 g4 g5 g6 g7 g8 g9 g10 g11 z0 z1 z2 z3 z4 z5 z6 z7 z8 z9 z10 z11
 cases h1:caseOk ⟨iss,acq,cur,am,st,rsn,cl,bk,fee,cop,sta,due⟩
 ·have HV:Hid (doV ⟨iss,acq,cur,am,st,rsn,cl,bk,fee,cop,sta,due⟩ a t zs=5):=if_pos (by simp [dayOkAt,h1])
  have HC:Hid (doC ⟨iss,acq,cur,am,st,rsn,cl,bk,fee,cop,sta,due⟩ a t zs=⟨iss,acq,cur,am,st,rsn,cl,bk,fee,cop,sta,due⟩):=if_neg (by rw [HV.out];decide)
  have HE:Hid (doE ⟨iss,acq,cur,am,st,rsn,cl,bk,fee,cop,sta,due⟩ a t zs=[]):=if_neg (by rw [HV.out];decide)
  clear h1
  go_wp2
  refine bodyPost_ret (by simp [results,Tryz.results214,go_sem,g0,g1,g2,g3,g4,g5,g6,g7,g8,g9,g10,g11];try rfl) rfl ?_
  rw [HC.out,HE.out,HV.out]
  exact do_end (c:=⟨iss,acq,cur,am,st,rsn,cl,bk,fee,cop,sta,due⟩) (es:=[]) (base:=w.heap.size+1+1+1) (by omega) (World.ownsRow_nil _ _ _ _) HB.out
 go_wp2_with fail
 refine (iDayOk_any t _).mono ?_
 rintro e w2 ⟨rfl,hw⟩
 rw [hw]
 clear hw
 cases h2:dOk t
 ·have HV:Hid (doV ⟨iss,acq,cur,am,st,rsn,cl,bk,fee,cop,sta,due⟩ a t zs=5):=if_pos (by simp [dayOkAt,h2])
  have HC:Hid (doC ⟨iss,acq,cur,am,st,rsn,cl,bk,fee,cop,sta,due⟩ a t zs=⟨iss,acq,cur,am,st,rsn,cl,bk,fee,cop,sta,due⟩):=if_neg (by rw [HV.out];decide)
  have HE:Hid (doE ⟨iss,acq,cur,am,st,rsn,cl,bk,fee,cop,sta,due⟩ a t zs=[]):=if_neg (by rw [HV.out];decide)
  clear h1 h2
  go_wp2
  refine bodyPost_ret (by simp [results,Tryz.results214,go_sem,g0,g1,g2,g3,g4,g5,g6,g7,g8,g9,g10,g11];try rfl) rfl ?_
  rw [HC.out,HE.out,HV.out]
  exact do_end (c:=⟨iss,acq,cur,am,st,rsn,cl,bk,fee,cop,sta,due⟩) (es:=[]) (base:=w.heap.size+1+1+1) (by omega) (World.ownsRow_nil _ _ _ _) HB.out
 by_cases h3:t<sta
 ·have HV:Hid (doV ⟨iss,acq,cur,am,st,rsn,cl,bk,fee,cop,sta,due⟩ a t zs=5):=if_pos (by have g:¬ sta≤t:=(by omega);simp [dayOkAt,g])
  have HC:Hid (doC ⟨iss,acq,cur,am,st,rsn,cl,bk,fee,cop,sta,due⟩ a t zs=⟨iss,acq,cur,am,st,rsn,cl,bk,fee,cop,sta,due⟩):=if_neg (by rw [HV.out];decide)
  have HE:Hid (doE ⟨iss,acq,cur,am,st,rsn,cl,bk,fee,cop,sta,due⟩ a t zs=[]):=if_neg (by rw [HV.out];decide)
  clear h1 h2
  go_wp2
  refine bodyPost_ret (by simp [results,Tryz.results214,go_sem,g0,g1,g2,g3,g4,g5,g6,g7,g8,g9,g10,g11];try rfl) rfl ?_
  rw [HC.out,HE.out,HV.out]
  exact do_end (c:=⟨iss,acq,cur,am,st,rsn,cl,bk,fee,cop,sta,due⟩) (es:=[]) (base:=w.heap.size+1+1+1) (by omega) (World.ownsRow_nil _ _ _ _) HB.out
 have h3':¬ t<sta:=h3
 go_wp2_with fail
 refine (iOk_any ao cp zs _ (HI.out.below HB.out) hn).mono ?_
 rintro e w3 ⟨rfl,hw⟩
 rw [hw]
 clear hw
 cases h4:offOk zs
 ·have HV:Hid (doV ⟨iss,acq,cur,am,st,rsn,cl,bk,fee,cop,sta,due⟩ a t zs=5):=if_pos (by simp [dayOkAt,h4])
  have HC:Hid (doC ⟨iss,acq,cur,am,st,rsn,cl,bk,fee,cop,sta,due⟩ a t zs=⟨iss,acq,cur,am,st,rsn,cl,bk,fee,cop,sta,due⟩):=if_neg (by rw [HV.out];decide)
  have HE:Hid (doE ⟨iss,acq,cur,am,st,rsn,cl,bk,fee,cop,sta,due⟩ a t zs=[]):=if_neg (by rw [HV.out];decide)
  clear h1 h2 h3 h4
  go_wp2
  refine bodyPost_ret (by simp [results,Tryz.results214,go_sem,g0,g1,g2,g3,g4,g5,g6,g7,g8,g9,g10,g11];try rfl) rfl ?_
  rw [HC.out,HE.out,HV.out]
  exact do_end (c:=⟨iss,acq,cur,am,st,rsn,cl,bk,fee,cop,sta,due⟩) (es:=[]) (base:=w.heap.size+1+1+1) (by omega) (World.ownsRow_nil _ _ _ _) HB.out
 have HDAY:Hid (dayOkAt ⟨iss,acq,cur,am,st,rsn,cl,bk,fee,cop,sta,due⟩ t zs=true):=by
  have g:sta≤t:=by omega
  simp [Hid,dayOkAt,h1,h2,g,h4]
 have HOKC:Hid (caseOk ⟨iss,acq,cur,am,st,rsn,cl,bk,fee,cop,sta,due⟩=true):=h1
 clear h1 h2 h3 h4
 go_wp2_with fail
 clear h3'
 refine (isOf_any a.kind st _).mono ?_
 rintro e w3 ⟨rfl,hw⟩
 rw [hw]
 clear hw
 cases h5:ofSt st a.kind
 ·have HV:Hid (doV ⟨iss,acq,cur,am,st,rsn,cl,bk,fee,cop,sta,due⟩ a t zs=1):=by rw [Hid,doV,if_neg (by rw [HDAY.out];decide),if_pos h5]
  have HC:Hid (doC ⟨iss,acq,cur,am,st,rsn,cl,bk,fee,cop,sta,due⟩ a t zs=⟨iss,acq,cur,am,st,rsn,cl,bk,fee,cop,sta,due⟩):=if_neg (by rw [HV.out];decide)
  have HE:Hid (doE ⟨iss,acq,cur,am,st,rsn,cl,bk,fee,cop,sta,due⟩ a t zs=[]):=if_neg (by rw [HV.out];decide)
  clear h5
  go_wp2
  refine bodyPost_ret (by simp [results,Tryz.results214,go_sem,g0,g1,g2,g3,g4,g5,g6,g7,g8,g9,g10,g11];try rfl) rfl ?_
  rw [HC.out,HE.out,HV.out]
  exact do_end (c:=⟨iss,acq,cur,am,st,rsn,cl,bk,fee,cop,sta,due⟩) (es:=[]) (base:=w.heap.size+1+1+1) (by omega) (World.ownsRow_nil _ _ _ _) HB.out
 have HOF:Hid (ofSt st a.kind=true):=h5
 clear h5
 obtain ⟨V,hV⟩:∃ V,V=w1.alloc (.cells #[.int .i64 iss,.int .i64 acq,.int .i64 cur,.int .i64 am,.int .i64 st,.int .i64 rsn,.int .i64 cl,.int .i64 bk,.int .i64 fee,.bool cop,.int .i64 sta,.int .i64 due,.int .i64 a.kind,.int .i64 a.am,.int .i64 a.rsn,.int .i64 t,.slice ao zs.length cp,.slice none 0 0] 299):=⟨_,rfl⟩
 have bV:Below w1.heap.size w1 V:=by rw [hV];exact (Below.refl _ _).alloc (Nat.le_refl _) _
 have HLE:Hid (w.heap.size≤w1.heap.size):=HB.out.size
 have HS2:Hid (w.heap.size+1+1<w1.heap.size):=HX1.out.rb.lt
 have HDS:Hid (DS w1.heap.size ao cp zs a t ⟨iss,acq,cur,am,st,rsn,cl,bk,fee,cop,sta,due⟩ [] (.slice none 0 0) V):=by
  refine ⟨by rw [hV];exact DB.new w1 ⟨iss,acq,cur,am,st,rsn,cl,bk,fee,cop,sta,due⟩ a t _ _ _,World.ownsRow_nil _ _ _ _,⟨(HI.out.below HB.out).in.keep bV,(HT.out.below HB.out).below bV,by have:=HG.out;have:=HLE.out;omega⟩⟩
 have HXV:Hid (BX w.heap.size ⟨iss,acq,cur,am,st,rsn,cl,bk,fee,cop,sta,due⟩ a V):=HX1.out.below bV
 have HBV:Hid (Below w.heap.size w V):=next HB.out bV
 have HVV:Hid _:=hV
 clear hV bV
 go_upto_region 6 with fail
 rw [← HVV.out]
 clear HVV f0 f1 f2 f3 f4 f5 f6 f7 f8 f9 f10 f11 g0 g1 g2 g3 g4 g5 g6 g7 g8 g9 g10 g11 z0 z1 z2 z3 z4 z5 z6 z7 z8 z9 z10 z11 k0 k1 k2
 have k0:=HXV.out.a0
 obtain ⟨B,hB⟩:∃ B,B=w1.heap.size:=⟨_,rfl⟩
 rw [← hB] at HDS HS2 HLE ⊢
 clear hB HX1 HB
 obtain ⟨r,hr⟩:∃ r,codeV ⟨iss,acq,cur,am,st,rsn,cl,bk,fee,cop,sta,due⟩ a t zs=r:=⟨_,rfl⟩
 have hpp:=caseOk_parts HOKC.out
 simp only at hpp
 obtain ⟨_,_,_,_,hp1,_,_,hp2,hp3,hp4,_,_⟩:=hpp
 have hb:0≤bk∧bk≤1000000000000:=⟨by omega,by omega⟩
 have hc:0≤cl∧cl≤1000000000000:=⟨by omega,by omega⟩
 have hf:0≤fee∧fee≤1000000:=⟨by omega,by omega⟩
 clear hp1 hp2 hp3 hp4
 have HRR:Hid _:=hr
 clear hr
 go_cut [12] (fun v wc=>v=.int .i64 r∧(∃ vv,DS B ao cp zs a t (if r=0 then nextC ⟨iss,acq,cur,am,st,rsn,cl,bk,fee,cop,sta,due⟩ a t zs else ⟨iss,acq,cur,am,st,rsn,cl,bk,fee,cop,sta,due⟩) (if r=0 then nextE ⟨iss,acq,cur,am,st,rsn,cl,bk,fee,cop,sta,due⟩ a else []) vv wc)∧Below B V wc)
 case first =>
  have HBB:Hid (0≤bk∧bk≤1000000000000):=hb
  have HCC:Hid (0≤cl∧cl≤1000000000000):=hc
  have HFF:Hid (0≤fee∧fee≤1000000):=hf
  clear hb hc hf
  have hk:a.kind=0∨a.kind=1∨a.kind=2∨a.kind=3∨a.kind=4∨a.kind=5∨a.kind=6∨a.kind=7∨a.kind=8∨a.kind=9:=by have:=of_cases HOF.out;omega
  rcases hk with hk | hk | hk | hk | hk | hk | hk | hk | hk | hk
  ·rw [hk] at k0
   have HK:Hid _:=hk
   clear hk
   go_wp2_with fail
   refine (stepOf0 _).mono ?_
   rintro e u1 ⟨rfl,b1⟩
   have HB1:Hid (Below V.heap.size V u1):=b1
   clear b1
   go_wp2_with fail
   refine (step0 (HDS.out.below HB1.out) hn HK.out).mono ?_
   unfold StepR
   rw [HRR.out]
   rintro e u2 ⟨rfl,D2,b2⟩
   have HD2:Hid _:=D2
   have HB2:Hid (Below B V u2):=(HB1.out.mono (Nat.le_of_lt HDS.out.lt)).trans b2
   clear D2 b2
   go_wp2
   go_meet
   exact ⟨rfl,HD2.out,HB2.out⟩
  ·rw [hk] at k0
   have HK:Hid _:=hk
   clear hk
   go_wp2_with fail
   refine (stepOf1 _).mono ?_
   rintro e u1 ⟨rfl,b1⟩
   have HB1:Hid (Below V.heap.size V u1):=b1
   clear b1
   go_wp2_with fail
   refine (step1 (HDS.out.below HB1.out) HK.out).mono ?_
   unfold StepR
   rw [HRR.out]
   rintro e u2 ⟨rfl,D2,b2⟩
   have HD2:Hid _:=D2
   have HB2:Hid (Below B V u2):=(HB1.out.mono (Nat.le_of_lt HDS.out.lt)).trans b2
   clear D2 b2
   go_wp2
   go_meet
   exact ⟨rfl,HD2.out,HB2.out⟩
  ·rw [hk] at k0
   have HK:Hid _:=hk
   clear hk
   go_wp2_with fail
   refine (stepOf2 _).mono ?_
   rintro e u1 ⟨rfl,b1⟩
   have HB1:Hid (Below V.heap.size V u1):=b1
   clear b1
   go_wp2_with fail
   refine (step2 (HDS.out.below HB1.out) hn HK.out).mono ?_
   unfold StepR
   rw [HRR.out]
   rintro e u2 ⟨rfl,D2,b2⟩
   have HD2:Hid _:=D2
   have HB2:Hid (Below B V u2):=(HB1.out.mono (Nat.le_of_lt HDS.out.lt)).trans b2
   clear D2 b2
   go_wp2
   go_meet
   exact ⟨rfl,HD2.out,HB2.out⟩
  ·rw [hk] at k0
   have HK:Hid _:=hk
   clear hk
   go_wp2_with fail
   refine (stepOf3 _).mono ?_
   rintro e u1 ⟨rfl,b1⟩
   have HB1:Hid (Below V.heap.size V u1):=b1
   clear b1
   go_wp2_with fail
   refine (step3 (HDS.out.below HB1.out) hn HBB.out HCC.out HK.out).mono ?_
   unfold StepR
   rw [HRR.out]
   rintro e u2 ⟨rfl,D2,b2⟩
   have HD2:Hid _:=D2
   have HB2:Hid (Below B V u2):=(HB1.out.mono (Nat.le_of_lt HDS.out.lt)).trans b2
   clear D2 b2
   go_wp2
   go_meet
   exact ⟨rfl,HD2.out,HB2.out⟩
  ·rw [hk] at k0
   have HK:Hid _:=hk
   clear hk
   go_wp2_with fail
   refine (stepOf4 _).mono ?_
   rintro e u1 ⟨rfl,b1⟩
   have HB1:Hid (Below V.heap.size V u1):=b1
   clear b1
   go_wp2_with fail
   refine (step4 (HDS.out.below HB1.out) hn HK.out).mono ?_
   unfold StepR
   rw [HRR.out]
   rintro e u2 ⟨rfl,D2,b2⟩
   have HD2:Hid _:=D2
   have HB2:Hid (Below B V u2):=(HB1.out.mono (Nat.le_of_lt HDS.out.lt)).trans b2
   clear D2 b2
   go_wp2
   go_meet
   exact ⟨rfl,HD2.out,HB2.out⟩
  ·rw [hk] at k0
   have HK:Hid _:=hk
   clear hk
   go_wp2_with fail
   refine (stepOf5 _).mono ?_
   rintro e u1 ⟨rfl,b1⟩
   have HB1:Hid (Below V.heap.size V u1):=b1
   clear b1
   go_wp2_with fail
   refine (step5 (HDS.out.below HB1.out) HBB.out HCC.out HK.out).mono ?_
   unfold StepR
   rw [HRR.out]
   rintro e u2 ⟨rfl,D2,b2⟩
   have HD2:Hid _:=D2
   have HB2:Hid (Below B V u2):=(HB1.out.mono (Nat.le_of_lt HDS.out.lt)).trans b2
   clear D2 b2
   go_wp2
   go_meet
   exact ⟨rfl,HD2.out,HB2.out⟩
  ·rw [hk] at k0
   have HK:Hid _:=hk
   clear hk
   go_wp2_with fail
   refine (stepOf6 _).mono ?_
   rintro e u1 ⟨rfl,b1⟩
   have HB1:Hid (Below V.heap.size V u1):=b1
   clear b1
   go_wp2_with fail
   refine (step6 (HDS.out.below HB1.out) hn HK.out).mono ?_
   unfold StepR
   rw [HRR.out]
   rintro e u2 ⟨rfl,D2,b2⟩
   have HD2:Hid _:=D2
   have HB2:Hid (Below B V u2):=(HB1.out.mono (Nat.le_of_lt HDS.out.lt)).trans b2
   clear D2 b2
   go_wp2
   go_meet
   exact ⟨rfl,HD2.out,HB2.out⟩
  ·rw [hk] at k0
   have HK:Hid _:=hk
   clear hk
   go_wp2_with fail
   refine (stepOf7 _).mono ?_
   rintro e u1 ⟨rfl,b1⟩
   have HB1:Hid (Below V.heap.size V u1):=b1
   clear b1
   go_wp2_with fail
   refine (step7 (HDS.out.below HB1.out) HBB.out HCC.out HFF.out HK.out).mono ?_
   unfold StepR
   rw [HRR.out]
   rintro e u2 ⟨rfl,D2,b2⟩
   have HD2:Hid _:=D2
   have HB2:Hid (Below B V u2):=(HB1.out.mono (Nat.le_of_lt HDS.out.lt)).trans b2
   clear D2 b2
   go_wp2
   go_meet
   exact ⟨rfl,HD2.out,HB2.out⟩
  ·rw [hk] at k0
   have HK:Hid _:=hk
   clear hk
   go_wp2_with fail
   refine (stepOf8 _).mono ?_
   rintro e u1 ⟨rfl,b1⟩
   have HB1:Hid (Below V.heap.size V u1):=b1
   clear b1
   go_wp2_with fail
   refine (step8 (HDS.out.below HB1.out) HBB.out HCC.out HFF.out HK.out).mono ?_
   unfold StepR
   rw [HRR.out]
   rintro e u2 ⟨rfl,D2,b2⟩
   have HD2:Hid _:=D2
   have HB2:Hid (Below B V u2):=(HB1.out.mono (Nat.le_of_lt HDS.out.lt)).trans b2
   clear D2 b2
   go_wp2
   go_meet
   exact ⟨rfl,HD2.out,HB2.out⟩
  ·rw [hk] at k0
   have HK:Hid _:=hk
   clear hk
   go_wp2_with fail
   refine (stepOf9 _).mono ?_
   rintro e u1 ⟨rfl,b1⟩
   have HB1:Hid (Below V.heap.size V u1):=b1
   clear b1
   go_wp2_with fail
   refine (step9 (HDS.out.below HB1.out) HK.out).mono ?_
   unfold StepR
   rw [HRR.out]
   rintro e u2 ⟨rfl,D2,b2⟩
   have HD2:Hid _:=D2
   have HB2:Hid (Below B V u2):=(HB1.out.mono (Nat.le_of_lt HDS.out.lt)).trans b2
   clear D2 b2
   go_wp2
   go_meet
   exact ⟨rfl,HD2.out,HB2.out⟩
 case rest =>
  obtain ⟨rfl,⟨v5,D5⟩,b5⟩:=hcut
  have HX5:Hid (BX w.heap.size ⟨iss,acq,cur,am,st,rsn,cl,bk,fee,cop,sta,due⟩ a wc):=HXV.out.under b5 HS2.out
  have HB:Hid (Below w.heap.size w wc):=HBV.out.trans (b5.mono HLE.out)
  clear b5 k0 hb hc hf
  by_cases h0:r=0
  ·rw [if_pos h0,if_pos h0] at D5
   subst h0
   have HNC:Hid ((nextC ⟨iss,acq,cur,am,st,rsn,cl,bk,fee,cop,sta,due⟩ a t zs).cur=cur):=nextC_cur _ _ _ _
   obtain ⟨n,hn1⟩:∃ n,nextC ⟨iss,acq,cur,am,st,rsn,cl,bk,fee,cop,sta,due⟩ a t zs=n:=⟨_,rfl⟩
   obtain ⟨E,hE1⟩:∃ E,nextE ⟨iss,acq,cur,am,st,rsn,cl,bk,fee,cop,sta,due⟩ a=E:=⟨_,rfl⟩
   rw [hn1,hE1] at D5
   rw [hn1] at HNC
   have HN1:Hid _:=hn1
   have HE1:Hid _:=hE1
   have HOK2:Hid (∀ u,Calls Tryz.prog 254 #[cv n] u fun e w'=>e=.returned (.bool (caseOk n))∧Below u.heap.size u w'):=fun u=>iCaseOk_any n u (by rw [HNC.out];exact HCU.out)
   clear hn1 hE1 HNC HOK
   obtain ⟨ae,ke,hve,-,-⟩:=ents_of_own D5.own
   subst hve
   obtain ⟨m0,m1,m2,m3,m4,m5,m6,m7,m8,m9,m10,m11⟩:=n
   unfold cv at HOK2
   simp only at HOK2
   have HD5:Hid (DS B ao cp zs a t ⟨m0,m1,m2,m3,m4,m5,m6,m7,m8,m9,m10,m11⟩ E (.slice ae E.length ke) wc):=D5
   obtain ⟨f0,f1,f2,f3,f4,f5,f6,f7,f8,f9,f10,f11⟩:=D5.db.cb
   simp only [Nat.zero_add] at f0 f1 f2 f3 f4 f5 f6 f7 f8 f9 f10 f11
   clear D5
   go_wp2_with fail
   refine (HOK2.out _).mono ?_
   rintro e w6 ⟨rfl,b6⟩
   have HD6:Hid (DS B ao cp zs a t ⟨m0,m1,m2,m3,m4,m5,m6,m7,m8,m9,m10,m11⟩ E (.slice ae E.length ke) w6):=HD5.out.below b6
   have HX6:Hid (BX w.heap.size ⟨iss,acq,cur,am,st,rsn,cl,bk,fee,cop,sta,due⟩ a w6):=HX5.out.below b6
   replace HB:Hid (Below w.heap.size w w6):=next HB.out b6
   clear b6 f0 f1 f2 f3 f4 f5 f6 f7 f8 f9 f10 f11 HX5 HD5 HOK2
   cases h6:caseOk ⟨m0,m1,m2,m3,m4,m5,m6,m7,m8,m9,m10,m11⟩
   ·have HV:Hid (doV ⟨iss,acq,cur,am,st,rsn,cl,bk,fee,cop,sta,due⟩ a t zs=1):=by rw [Hid,doV,if_neg (by rw [HDAY.out];decide),if_neg (by rw [HOF.out];decide),if_neg (by rw [HRR.out];decide),HN1.out,if_neg (by rw [h6];decide)]
    have HC:Hid (doC ⟨iss,acq,cur,am,st,rsn,cl,bk,fee,cop,sta,due⟩ a t zs=⟨iss,acq,cur,am,st,rsn,cl,bk,fee,cop,sta,due⟩):=if_neg (by rw [HV.out];decide)
    have HE:Hid (doE ⟨iss,acq,cur,am,st,rsn,cl,bk,fee,cop,sta,due⟩ a t zs=[]):=if_neg (by rw [HV.out];decide)
    clear h6
    obtain ⟨⟨f0,f1,f2,f3,f4,f5,f6,f7,f8,f9,f10,f11⟩,k0,k1,k2,⟨g0,g1,g2,g3,g4,g5,g6,g7,g8,g9,g10,g11⟩,⟨z0,z1,z2,z3,z4,z5,z6,z7,z8,z9,z10,z11⟩⟩:=HX6.out
    simp only [Nat.zero_add,zeroC] at f0 f1 f2 f3 f4 f5 f6 f7 f8 f9 f10 f11 g0 g1 g2 g3 g4 g5 g6 g7 g8 g9 g10 g11 z0 z1 z2 z3 z4 z5 z6 z7 z8 z9 z10 z11
    clear k1 k2 k0
    go_wp2
    refine bodyPost_ret (by simp [results,Tryz.results214,go_sem,g0,g1,g2,g3,g4,g5,g6,g7,g8,g9,g10,g11];try rfl) rfl ?_
    rw [HC.out,HE.out,HV.out]
    exact do_end (c:=⟨iss,acq,cur,am,st,rsn,cl,bk,fee,cop,sta,due⟩) (es:=[]) (base:=w.heap.size+1+1+1) (by omega) (World.ownsRow_nil _ _ _ _) HB.out
   ·have HV:Hid (doV ⟨iss,acq,cur,am,st,rsn,cl,bk,fee,cop,sta,due⟩ a t zs=0):=by rw [Hid,doV,if_neg (by rw [HDAY.out];decide),if_neg (by rw [HOF.out];decide),if_neg (by rw [HRR.out];decide),HN1.out,if_pos h6]
    have HC:Hid (doC ⟨iss,acq,cur,am,st,rsn,cl,bk,fee,cop,sta,due⟩ a t zs=⟨m0,m1,m2,m3,m4,m5,m6,m7,m8,m9,m10,m11⟩):=by rw [Hid,doC,if_pos HV.out,HN1.out]
    have HE:Hid (doE ⟨iss,acq,cur,am,st,rsn,cl,bk,fee,cop,sta,due⟩ a t zs=E):=by rw [Hid,doE,if_pos HV.out,HE1.out]
    clear h6
    obtain ⟨⟨f0,f1,f2,f3,f4,f5,f6,f7,f8,f9,f10,f11⟩,k0,k1,k2,⟨g0,g1,g2,g3,g4,g5,g6,g7,g8,g9,g10,g11⟩,⟨z0,z1,z2,z3,z4,z5,z6,z7,z8,z9,z10,z11⟩⟩:=HX6.out
    simp only [Nat.zero_add,zeroC] at f0 f1 f2 f3 f4 f5 f6 f7 f8 f9 f10 f11 g0 g1 g2 g3 g4 g5 g6 g7 g8 g9 g10 g11 z0 z1 z2 z3 z4 z5 z6 z7 z8 z9 z10 z11
    clear k0 k1 k2 f0 f1 f2 f3 f4 f5 f6 f7 f8 f9 f10 f11
    obtain ⟨f0,f1,f2,f3,f4,f5,f6,f7,f8,f9,f10,f11⟩:=HD6.out.db.cb
    simp only [Nat.zero_add] at f0 f1 f2 f3 f4 f5 f6 f7 f8 f9 f10 f11
    have k17:=HD6.out.db.he
    go_wp2
    go_region
    all_goals
     go_wp2
     refine bodyPost_ret (by simp [results,Tryz.results214,go_sem,g0,g1,g2,g3,g4,g5,g6,g7,g8,g9,g10,g11];try rfl) rfl ?_
     rw [HC.out,HE.out,HV.out]
     exact do_drew (do_end (c:=⟨m0,m1,m2,m3,m4,m5,m6,m7,m8,m9,m10,m11⟩) (es:=E) (base:=B+1) (by have:=HS2.out;omega) HD6.out.own HB.out)
  ·have HV:Hid (doV ⟨iss,acq,cur,am,st,rsn,cl,bk,fee,cop,sta,due⟩ a t zs=r):=by rw [Hid,doV,if_neg (by rw [HDAY.out];decide),if_neg (by rw [HOF.out];decide),if_pos (by rw [HRR.out];exact h0),HRR.out]
   have HC:Hid (doC ⟨iss,acq,cur,am,st,rsn,cl,bk,fee,cop,sta,due⟩ a t zs=⟨iss,acq,cur,am,st,rsn,cl,bk,fee,cop,sta,due⟩):=if_neg (by rw [HV.out];exact h0)
   have HE:Hid (doE ⟨iss,acq,cur,am,st,rsn,cl,bk,fee,cop,sta,due⟩ a t zs=[]):=if_neg (by rw [HV.out];exact h0)
   have h0':(r != 0)=true:=by simpa using h0
   clear h0 D5
   obtain ⟨⟨f0,f1,f2,f3,f4,f5,f6,f7,f8,f9,f10,f11⟩,k0,k1,k2,⟨g0,g1,g2,g3,g4,g5,g6,g7,g8,g9,g10,g11⟩,⟨z0,z1,z2,z3,z4,z5,z6,z7,z8,z9,z10,z11⟩⟩:=HX5.out
   simp only [Nat.zero_add,zeroC] at f0 f1 f2 f3 f4 f5 f6 f7 f8 f9 f10 f11 g0 g1 g2 g3 g4 g5 g6 g7 g8 g9 g10 g11 z0 z1 z2 z3 z4 z5 z6 z7 z8 z9 z10 z11
   clear k0 k1 k2
   go_wp2
   refine bodyPost_ret (by simp [results,Tryz.results214,go_sem,g0,g1,g2,g3,g4,g5,g6,g7,g8,g9,g10,g11];try rfl) rfl ?_
   rw [HC.out,HE.out,HV.out]
   exact do_end (c:=⟨iss,acq,cur,am,st,rsn,cl,bk,fee,cop,sta,due⟩) (es:=[]) (base:=w.heap.size+1+1+1) (by omega) (World.ownsRow_nil _ _ _ _) HB.out
end Go.Proofs.YtomiclakhjncbaaGreatDoor
