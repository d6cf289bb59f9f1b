import Derived.Test.YtomiclakhjncbaaGreatDoorJE4a
namespace Go.Proofs.YtomiclakhjncbaaGreatDoor
open Go.RowKit Go.Proofs.Tryz
set_option maxRecDepth 100000
set_option maxHeartbeats 12800000
theorem DB.new (w:World) (c:Cs) (a:Ac) (t:Int) (o e:Value) (ty:TypeId):DB w.heap.size c a t o e (w.alloc (.cells #[.int .i64 c.iss,.int .i64 c.acq,.int .i64 c.cur,.int .i64 c.am,.int .i64 c.st,.int .i64 c.rsn,.int .i64 c.cl,.int .i64 c.bk,.int .i64 c.fee,.bool c.cop,.int .i64 c.sta,.int .i64 c.due,.int .i64 a.kind,.int .i64 a.am,.int .i64 a.rsn,.int .i64 t,o,e] ty)):=by
 exact ⟨⟨by simp,by simp,by simp,by simp,by simp,by simp,by simp,by simp,by simp,by simp,by simp,by simp⟩,by simp,by simp,by simp,by simp,by simp,by simp,(by constructor<;>simp [go_sem, *]),by simp [go_sem]⟩
theorem iDo_any (c:Cs) (a:Ac) (t:Int) (ao:Option Addr) (cp:Nat) (zs:List Int) (w:World) (hx:Aw w ao zs) (hn:zs.length≤1099511627776) (ht:Di w) (hg:16<w.heap.size) (hc:(Lit.int .i64 c.cur).wf=true) :
  Calls prog 214 #[cv c,av a,.int .i64 t,.slice ao zs.length cp] w (pM w (doC c a t zs) (doE c a t zs) (doV c a t zs)):=by
 obtain ⟨W,hW⟩:∃ W,W=((w.alloc (.cells #[.int .i64 c.iss,.int .i64 c.acq,.int .i64 c.cur,.int .i64 c.am,.int .i64 c.st,.int .i64 c.rsn,.int .i64 c.cl,.int .i64 c.bk,.int .i64 c.fee,.bool c.cop,.int .i64 c.sta,.int .i64 c.due] 61)).alloc (.cells #[.int .i64 a.kind,.int .i64 a.am,.int .i64 a.rsn] 165)).alloc (.cells #[.int .i64 0,.int .i64 0,.int .i64 0,.int .i64 0,.int .i64 0,.int .i64 0,.int .i64 0,.int .i64 0,.int .i64 0,.bool false,.int .i64 0,.int .i64 0] 61):=⟨_,rfl⟩
 have HX:Hid (BX w.heap.size c a W):=by rw [Hid,hW];exact BX.new w c a _ _ _
 have HBW:Hid (BW w W):=by rw [Hid,hW];go_grown
 have HI:Hid (Aw w ao zs):=hx;have HT:Hid (Di w):=ht;have HG:Hid (16<w.heap.size):=hg
 have HOK:Hid (∀ u,Calls prog 254 #[cv c] u fun e w'=>e=.returned (.bool (Ao c))∧BW u w'):=fun u=>Jr c u hc
 have HCU:Hid ((Lit.int .i64 c.cur).wf=true):=hc;obtain ⟨iY,aZ,uV,am,st,rJ,cl,bk,fW,cW,sS,dX⟩:=c;unfold cv av;unfold cv at HOK
 simp only at hW HOK HCU ⊢
 have HW:Hid _:=hW;clear hx ht hg hc hW
 go_enter func214,ntmps214
 go_upto_region 1 with fail
 rw [← HW.o];clear HW;obtain ⟨⟨f0,f1,f2,f3,f4,f5,f6,f7,f8,f9,f10,f11⟩,k0,k1,k2,⟨g0,g1,g2,g3,g4,g5,g6,g7,g8,g9,g10,g11⟩,⟨z0,z1,z2,z3,z4,z5,z6,z7,z8,z9,z10,z11⟩⟩:=HX.o
 simp only [Nat.zero_add,Br] at f0 f1 f2 f3 f4 f5 f6 f7 f8 f9 f10 f11 g0 g1 g2 g3 g4 g5 g6 g7 g8 g9 g10 g11 z0 z1 z2 z3 z4 z5 z6 z7 z8 z9 z10 z11
 go_wp2_with fail
 refine (HOK.o _).mono ?_;rintro e w1 ⟨rfl,b1⟩;have HX1:Hid (BX w.heap.size ⟨iY,aZ,uV,am,st,rJ,cl,bk,fW,cW,sS,dX⟩ a w1):=HX.o.below b1;have HB:Hid (BW w w1):=next HBW.o b1;clear b1 f0 f1 f2 f3 f4 f5 f6 f7 f8 f9 f10 f11 g0 g1 g2 g3 g4 g5 g6 g7 g8 g9 g10 g11 z0 z1 z2 z3 z4 z5 z6 z7 z8 z9 z10 z11 k0 k1 k2 HX HBW;obtain ⟨⟨f0,f1,f2,f3,f4,f5,f6,f7,f8,f9,f10,f11⟩,k0,k1,k2,⟨g0,g1,g2,g3,g4,g5,g6,g7,g8,g9,g10,g11⟩,⟨z0,z1,z2,z3,z4,z5,z6,z7,z8,z9,z10,z11⟩⟩:=HX1.o
 simp only [Nat.zero_add,Br] at f0 f1 f2 f3 f4 f5 f6 f7 f8 f9 f10 f11 g0 g1 g2 g3 g4 g5 g6 g7 g8 g9 g10 g11 z0 z1 z2 z3 z4 z5 z6 z7 z8 z9 z10 z11
 cases h1:Ao ⟨iY,aZ,uV,am,st,rJ,cl,bk,fW,cW,sS,dX⟩
 ·have HV:Hid (doV ⟨iY,aZ,uV,am,st,rJ,cl,bk,fW,cW,sS,dX⟩ a t zs=5):=if_pos (by simp [D7,h1])
  have HC:Hid (doC ⟨iY,aZ,uV,am,st,rJ,cl,bk,fW,cW,sS,dX⟩ a t zs=⟨iY,aZ,uV,am,st,rJ,cl,bk,fW,cW,sS,dX⟩):=if_neg (by rw [HV.o];decide)
  have HE:Hid (doE ⟨iY,aZ,uV,am,st,rJ,cl,bk,fW,cW,sS,dX⟩ a t zs=[]):=if_neg (by rw [HV.o];decide)
  clear h1;go_wp2
  refine bodyPost_ret (by simp [results,results214,go_sem,g0,g1,g2,g3,g4,g5,g6,g7,g8,g9,g10,g11];try rfl) rfl ?_
  rw [HC.o,HE.o,HV.o]
  exact Ek (c:=⟨iY,aZ,uV,am,st,rJ,cl,bk,fW,cW,sS,dX⟩) (es:=[]) (base:=w.heap.size+1+1+1) (by omega) (World.ownsRow_nil _ _ _ _) HB.o
 go_wp2_with fail
 refine (Bm t _).mono ?_;rintro e w2 ⟨rfl,hw⟩;rw [hw];clear hw
 cases h2:Dn t
 ·have HV:Hid (doV ⟨iY,aZ,uV,am,st,rJ,cl,bk,fW,cW,sS,dX⟩ a t zs=5):=if_pos (by simp [D7,h2])
  have HC:Hid (doC ⟨iY,aZ,uV,am,st,rJ,cl,bk,fW,cW,sS,dX⟩ a t zs=⟨iY,aZ,uV,am,st,rJ,cl,bk,fW,cW,sS,dX⟩):=if_neg (by rw [HV.o];decide)
  have HE:Hid (doE ⟨iY,aZ,uV,am,st,rJ,cl,bk,fW,cW,sS,dX⟩ a t zs=[]):=if_neg (by rw [HV.o];decide)
  clear h1 h2;go_wp2
  refine bodyPost_ret (by simp [results,results214,go_sem,g0,g1,g2,g3,g4,g5,g6,g7,g8,g9,g10,g11];try rfl) rfl ?_
  rw [HC.o,HE.o,HV.o]
  exact Ek (c:=⟨iY,aZ,uV,am,st,rJ,cl,bk,fW,cW,sS,dX⟩) (es:=[]) (base:=w.heap.size+1+1+1) (by omega) (World.ownsRow_nil _ _ _ _) HB.o
 by_cases h3:t<sS
 ·have HV:Hid (doV ⟨iY,aZ,uV,am,st,rJ,cl,bk,fW,cW,sS,dX⟩ a t zs=5):=if_pos (by have g:¬ sS≤t:=(by omega);simp [D7,g])
  have HC:Hid (doC ⟨iY,aZ,uV,am,st,rJ,cl,bk,fW,cW,sS,dX⟩ a t zs=⟨iY,aZ,uV,am,st,rJ,cl,bk,fW,cW,sS,dX⟩):=if_neg (by rw [HV.o];decide)
  have HE:Hid (doE ⟨iY,aZ,uV,am,st,rJ,cl,bk,fW,cW,sS,dX⟩ a t zs=[]):=if_neg (by rw [HV.o];decide)
  clear h1 h2;go_wp2
  refine bodyPost_ret (by simp [results,results214,go_sem,g0,g1,g2,g3,g4,g5,g6,g7,g8,g9,g10,g11];try rfl) rfl ?_
  rw [HC.o,HE.o,HV.o]
  exact Ek (c:=⟨iY,aZ,uV,am,st,rJ,cl,bk,fW,cW,sS,dX⟩) (es:=[]) (base:=w.heap.size+1+1+1) (by omega) (World.ownsRow_nil _ _ _ _) HB.o
 have h3':¬ t<sS:=h3;go_wp2_with fail
 refine (Pp ao cp zs _ (HI.o.below HB.o) hn).mono ?_;rintro e w3 ⟨rfl,hw⟩;rw [hw];clear hw
 cases h4:Ct zs
 ·have HV:Hid (doV ⟨iY,aZ,uV,am,st,rJ,cl,bk,fW,cW,sS,dX⟩ a t zs=5):=if_pos (by simp [D7,h4])
  have HC:Hid (doC ⟨iY,aZ,uV,am,st,rJ,cl,bk,fW,cW,sS,dX⟩ a t zs=⟨iY,aZ,uV,am,st,rJ,cl,bk,fW,cW,sS,dX⟩):=if_neg (by rw [HV.o];decide)
  have HE:Hid (doE ⟨iY,aZ,uV,am,st,rJ,cl,bk,fW,cW,sS,dX⟩ a t zs=[]):=if_neg (by rw [HV.o];decide)
  clear h1 h2 h3 h4;go_wp2
  refine bodyPost_ret (by simp [results,results214,go_sem,g0,g1,g2,g3,g4,g5,g6,g7,g8,g9,g10,g11];try rfl) rfl ?_
  rw [HC.o,HE.o,HV.o]
  exact Ek (c:=⟨iY,aZ,uV,am,st,rJ,cl,bk,fW,cW,sS,dX⟩) (es:=[]) (base:=w.heap.size+1+1+1) (by omega) (World.ownsRow_nil _ _ _ _) HB.o
 have HDAY:Hid (D7 ⟨iY,aZ,uV,am,st,rJ,cl,bk,fW,cW,sS,dX⟩ t zs=true):=by
  have g:sS≤t:=by omega
  simp [Hid,D7,h1,h2,g,h4]
 have HOKC:Hid (Ao ⟨iY,aZ,uV,am,st,rJ,cl,bk,fW,cW,sS,dX⟩=true):=h1;clear h1 h2 h3 h4;go_wp2_with fail
 clear h3';refine (mO a.kind st _).mono ?_;rintro e w3 ⟨rfl,hw⟩;rw [hw];clear hw
 cases h5:Dx st a.kind
 ·have HV:Hid (doV ⟨iY,aZ,uV,am,st,rJ,cl,bk,fW,cW,sS,dX⟩ a t zs=1):=by rw [Hid,doV,if_neg (by rw [HDAY.o];decide),if_pos h5]
  have HC:Hid (doC ⟨iY,aZ,uV,am,st,rJ,cl,bk,fW,cW,sS,dX⟩ a t zs=⟨iY,aZ,uV,am,st,rJ,cl,bk,fW,cW,sS,dX⟩):=if_neg (by rw [HV.o];decide)
  have HE:Hid (doE ⟨iY,aZ,uV,am,st,rJ,cl,bk,fW,cW,sS,dX⟩ a t zs=[]):=if_neg (by rw [HV.o];decide)
  clear h5;go_wp2
  refine bodyPost_ret (by simp [results,results214,go_sem,g0,g1,g2,g3,g4,g5,g6,g7,g8,g9,g10,g11];try rfl) rfl ?_
  rw [HC.o,HE.o,HV.o]
  exact Ek (c:=⟨iY,aZ,uV,am,st,rJ,cl,bk,fW,cW,sS,dX⟩) (es:=[]) (base:=w.heap.size+1+1+1) (by omega) (World.ownsRow_nil _ _ _ _) HB.o
 have HOF:Hid (Dx st a.kind=true):=h5;clear h5;obtain ⟨V,hV⟩:∃ V,V=w1.alloc (.cells #[.int .i64 iY,.int .i64 aZ,.int .i64 uV,.int .i64 am,.int .i64 st,.int .i64 rJ,.int .i64 cl,.int .i64 bk,.int .i64 fW,.bool cW,.int .i64 sS,.int .i64 dX,.int .i64 a.kind,.int .i64 a.am,.int .i64 a.rsn,.int .i64 t,.slice ao zs.length cp,.slice none 0 0] 299):=⟨_,rfl⟩
 have bV:BW w1 V:=by rw [hV];exact bR.alloc nL _
 have HLE:Hid (w.heap.size≤w1.heap.size):=HB.o.size;have HS2:Hid (w.heap.size+1+1<w1.heap.size):=HX1.o.rb.lt
 have HDS:Hid (DS w1.heap.size ao cp zs a t ⟨iY,aZ,uV,am,st,rJ,cl,bk,fW,cW,sS,dX⟩ [] (.slice none 0 0) V):=by
  refine ⟨by rw [hV];exact DB.new w1 ⟨iY,aZ,uV,am,st,rJ,cl,bk,fW,cW,sS,dX⟩ a t _ _ _,World.ownsRow_nil _ _ _ _,⟨(HI.o.below HB.o).in.keep bV,(HT.o.below HB.o).below bV,by have:=HG.o;have:=HLE.o;omega⟩⟩
 have HXV:Hid (BX w.heap.size ⟨iY,aZ,uV,am,st,rJ,cl,bk,fW,cW,sS,dX⟩ a V):=HX1.o.below bV;have HBV:Hid (BW w V):=next HB.o bV;have HVV:Hid _:=hV;clear hV bV;go_upto_region 6 with fail
 rw [← HVV.o];clear HVV f0 f1 f2 f3 f4 f5 f6 f7 f8 f9 f10 f11 g0 g1 g2 g3 g4 g5 g6 g7 g8 g9 g10 g11 z0 z1 z2 z3 z4 z5 z6 z7 z8 z9 z10 z11 k0 k1 k2;have k0:=HXV.o.a0;obtain ⟨B,hB⟩:∃ B,B=w1.heap.size:=⟨_,rfl⟩;rw [← hB] at HDS HS2 HLE ⊢;clear hB HX1 HB;obtain ⟨r,hr⟩:∃ r,B4 ⟨iY,aZ,uV,am,st,rJ,cl,bk,fW,cW,sS,dX⟩ a t zs=r:=⟨_,rfl⟩;have hpp:=Jb HOKC.o
 simp only at hpp
 obtain ⟨_,_,_,_,hp1,_,_,hp2,hp3,hp4,_,_⟩:=hpp
 have hb:0≤bk∧bk≤1000000000000:=⟨by omega,by omega⟩
 have hc:0≤cl∧cl≤1000000000000:=⟨by omega,by omega⟩
 have hf:0≤fW∧fW≤1000000:=⟨by omega,by omega⟩
 clear hp1 hp2 hp3 hp4;have HRR:Hid _:=hr;clear hr
 go_cut [12] (fun v wc=>v=.int .i64 r∧(∃ vv,DS B ao cp zs a t (if r=0 then Bx ⟨iY,aZ,uV,am,st,rJ,cl,bk,fW,cW,sS,dX⟩ a t zs else ⟨iY,aZ,uV,am,st,rJ,cl,bk,fW,cW,sS,dX⟩) (if r=0 then Bw ⟨iY,aZ,uV,am,st,rJ,cl,bk,fW,cW,sS,dX⟩ a else []) vv wc)∧Below B V wc)
 case first =>
  have HBB:Hid (0≤bk∧bk≤1000000000000):=hb;have HCC:Hid (0≤cl∧cl≤1000000000000):=hc;have HFF:Hid (0≤fW∧fW≤1000000):=hf;clear hb hc hf
  have hk:a.kind=0∨a.kind=1∨a.kind=2∨a.kind=3∨a.kind=4∨a.kind=5∨a.kind=6∨a.kind=7∨a.kind=8∨a.kind=9:=by have:=Jt HOF.o;omega
  rcases hk with hk | hk | hk | hk | hk | hk | hk | hk | hk | hk
  ·rw [hk] at k0
   have HK:Hid _:=hk;clear hk;go_wp2_with fail
   refine (oN _).mono ?_;rintro e u1 ⟨rfl,b1⟩;have HB1:Hid (BW V u1):=b1;clear b1;go_wp2_with fail
   refine (tC (HDS.o.below HB1.o) hn HK.o).mono ?_;unfold Eu;rw [HRR.o];rintro e u2 ⟨rfl,D2,b2⟩;have HD2:Hid _:=D2;have HB2:Hid (Below B V u2):=(HB1.o.mono (Nat.le_of_lt HDS.o.lt)).trans b2;clear D2 b2;go_wp2;go_meet;exact ⟨rfl,HD2.o,HB2.o⟩
  ·rw [hk] at k0
   have HK:Hid _:=hk;clear hk;go_wp2_with fail
   refine (pL _).mono ?_;rintro e u1 ⟨rfl,b1⟩;have HB1:Hid (BW V u1):=b1;clear b1;go_wp2_with fail
   refine (sT (HDS.o.below HB1.o) HK.o).mono ?_;unfold Eu;rw [HRR.o];rintro e u2 ⟨rfl,D2,b2⟩;have HD2:Hid _:=D2;have HB2:Hid (Below B V u2):=(HB1.o.mono (Nat.le_of_lt HDS.o.lt)).trans b2;clear D2 b2;go_wp2;go_meet;exact ⟨rfl,HD2.o,HB2.o⟩
  ·rw [hk] at k0
   have HK:Hid _:=hk;clear hk;go_wp2_with fail
   refine (nN _).mono ?_;rintro e u1 ⟨rfl,b1⟩;have HB1:Hid (BW V u1):=b1;clear b1;go_wp2_with fail
   refine (tD (HDS.o.below HB1.o) hn HK.o).mono ?_;unfold Eu;rw [HRR.o];rintro e u2 ⟨rfl,D2,b2⟩;have HD2:Hid _:=D2;have HB2:Hid (Below B V u2):=(HB1.o.mono (Nat.le_of_lt HDS.o.lt)).trans b2;clear D2 b2;go_wp2;go_meet;exact ⟨rfl,HD2.o,HB2.o⟩
  ·rw [hk] at k0
   have HK:Hid _:=hk;clear hk;go_wp2_with fail
   refine (nF _).mono ?_;rintro e u1 ⟨rfl,b1⟩;have HB1:Hid (BW V u1):=b1;clear b1;go_wp2_with fail
   refine (sD (HDS.o.below HB1.o) hn HBB.o HCC.o HK.o).mono ?_;unfold Eu;rw [HRR.o];rintro e u2 ⟨rfl,D2,b2⟩;have HD2:Hid _:=D2;have HB2:Hid (Below B V u2):=(HB1.o.mono (Nat.le_of_lt HDS.o.lt)).trans b2;clear D2 b2;go_wp2;go_meet;exact ⟨rfl,HD2.o,HB2.o⟩
  ·rw [hk] at k0
   have HK:Hid _:=hk;clear hk;go_wp2_with fail
   refine (pE _).mono ?_;rintro e u1 ⟨rfl,b1⟩;have HB1:Hid (BW V u1):=b1;clear b1;go_wp2_with fail
   refine (tB (HDS.o.below HB1.o) hn HK.o).mono ?_;unfold Eu;rw [HRR.o];rintro e u2 ⟨rfl,D2,b2⟩;have HD2:Hid _:=D2;have HB2:Hid (Below B V u2):=(HB1.o.mono (Nat.le_of_lt HDS.o.lt)).trans b2;clear D2 b2;go_wp2;go_meet;exact ⟨rfl,HD2.o,HB2.o⟩
  ·rw [hk] at k0
   have HK:Hid _:=hk;clear hk;go_wp2_with fail
   refine (nH _).mono ?_;rintro e u1 ⟨rfl,b1⟩;have HB1:Hid (BW V u1):=b1;clear b1;go_wp2_with fail
   refine (sE (HDS.o.below HB1.o) HBB.o HCC.o HK.o).mono ?_;unfold Eu;rw [HRR.o];rintro e u2 ⟨rfl,D2,b2⟩;have HD2:Hid _:=D2;have HB2:Hid (Below B V u2):=(HB1.o.mono (Nat.le_of_lt HDS.o.lt)).trans b2;clear D2 b2;go_wp2;go_meet;exact ⟨rfl,HD2.o,HB2.o⟩
  ·rw [hk] at k0
   have HK:Hid _:=hk;clear hk;go_wp2_with fail
   refine (nM _).mono ?_;rintro e u1 ⟨rfl,b1⟩;have HB1:Hid (BW V u1):=b1;clear b1;go_wp2_with fail
   refine (sX (HDS.o.below HB1.o) hn HK.o).mono ?_;unfold Eu;rw [HRR.o];rintro e u2 ⟨rfl,D2,b2⟩;have HD2:Hid _:=D2;have HB2:Hid (Below B V u2):=(HB1.o.mono (Nat.le_of_lt HDS.o.lt)).trans b2;clear D2 b2;go_wp2;go_meet;exact ⟨rfl,HD2.o,HB2.o⟩
  ·rw [hk] at k0
   have HK:Hid _:=hk;clear hk;go_wp2_with fail
   refine (oS _).mono ?_;rintro e u1 ⟨rfl,b1⟩;have HB1:Hid (BW V u1):=b1;clear b1;go_wp2_with fail
   refine (sM (HDS.o.below HB1.o) HBB.o HCC.o HFF.o HK.o).mono ?_;unfold Eu;rw [HRR.o];rintro e u2 ⟨rfl,D2,b2⟩;have HD2:Hid _:=D2;have HB2:Hid (Below B V u2):=(HB1.o.mono (Nat.le_of_lt HDS.o.lt)).trans b2;clear D2 b2;go_wp2;go_meet;exact ⟨rfl,HD2.o,HB2.o⟩
  ·rw [hk] at k0
   have HK:Hid _:=hk;clear hk;go_wp2_with fail
   refine (pN _).mono ?_;rintro e u1 ⟨rfl,b1⟩;have HB1:Hid (BW V u1):=b1;clear b1;go_wp2_with fail
   refine (tA (HDS.o.below HB1.o) HBB.o HCC.o HFF.o HK.o).mono ?_;unfold Eu;rw [HRR.o];rintro e u2 ⟨rfl,D2,b2⟩;have HD2:Hid _:=D2;have HB2:Hid (Below B V u2):=(HB1.o.mono (Nat.le_of_lt HDS.o.lt)).trans b2;clear D2 b2;go_wp2;go_meet;exact ⟨rfl,HD2.o,HB2.o⟩
  ·rw [hk] at k0
   have HK:Hid _:=hk;clear hk;go_wp2_with fail
   refine (oY _).mono ?_;rintro e u1 ⟨rfl,b1⟩;have HB1:Hid (BW V u1):=b1;clear b1;go_wp2_with fail
   refine (sA (HDS.o.below HB1.o) HK.o).mono ?_;unfold Eu;rw [HRR.o];rintro e u2 ⟨rfl,D2,b2⟩;have HD2:Hid _:=D2;have HB2:Hid (Below B V u2):=(HB1.o.mono (Nat.le_of_lt HDS.o.lt)).trans b2;clear D2 b2;go_wp2;go_meet;exact ⟨rfl,HD2.o,HB2.o⟩
 case rest =>
  obtain ⟨rfl,⟨v5,D5⟩,b5⟩:=hcut;have HX5:Hid (BX w.heap.size ⟨iY,aZ,uV,am,st,rJ,cl,bk,fW,cW,sS,dX⟩ a wc):=HXV.o.under b5 HS2.o;have HB:Hid (BW w wc):=HBV.o.trans (b5.mono HLE.o);clear b5 k0 hb hc hf
  by_cases h0:r=0
  ·rw [if_pos h0,if_pos h0] at D5
   subst h0;have HNC:Hid ((Bx ⟨iY,aZ,uV,am,st,rJ,cl,bk,fW,cW,sS,dX⟩ a t zs).cur=uV):=dU _ _ _ _;obtain ⟨n,hn1⟩:∃ n,Bx ⟨iY,aZ,uV,am,st,rJ,cl,bk,fW,cW,sS,dX⟩ a t zs=n:=⟨_,rfl⟩;obtain ⟨E,hE1⟩:∃ E,Bw ⟨iY,aZ,uV,am,st,rJ,cl,bk,fW,cW,sS,dX⟩ a=E:=⟨_,rfl⟩;rw [hn1,hE1] at D5;rw [hn1] at HNC;have HN1:Hid _:=hn1;have HE1:Hid _:=hE1
   have HOK2:Hid (∀ u,Calls prog 254 #[cv n] u fun e w'=>e=.returned (.bool (Ao n))∧BW u w'):=fun u=>Jr n u (by rw [HNC.o];exact HCU.o)
   clear hn1 hE1 HNC HOK;obtain ⟨ae,ke,hve,-,-⟩:=Gh D5.own;subst hve;obtain ⟨m0,m1,m2,m3,m4,m5,m6,m7,m8,m9,m10,m11⟩:=n;unfold cv at HOK2
   simp only at HOK2
   have HD5:Hid (DS B ao cp zs a t ⟨m0,m1,m2,m3,m4,m5,m6,m7,m8,m9,m10,m11⟩ E (.slice ae E.length ke) wc):=D5;obtain ⟨f0,f1,f2,f3,f4,f5,f6,f7,f8,f9,f10,f11⟩:=D5.db.cb
   simp only [Nat.zero_add] at f0 f1 f2 f3 f4 f5 f6 f7 f8 f9 f10 f11
   clear D5;go_wp2_with fail
   refine (HOK2.o _).mono ?_;rintro e w6 ⟨rfl,b6⟩;have HD6:Hid (DS B ao cp zs a t ⟨m0,m1,m2,m3,m4,m5,m6,m7,m8,m9,m10,m11⟩ E (.slice ae E.length ke) w6):=HD5.o.below b6;have HX6:Hid (BX w.heap.size ⟨iY,aZ,uV,am,st,rJ,cl,bk,fW,cW,sS,dX⟩ a w6):=HX5.o.below b6;replace HB:Hid (BW w w6):=next HB.o b6;clear b6 f0 f1 f2 f3 f4 f5 f6 f7 f8 f9 f10 f11 HX5 HD5 HOK2
   cases h6:Ao ⟨m0,m1,m2,m3,m4,m5,m6,m7,m8,m9,m10,m11⟩
   ·have HV:Hid (doV ⟨iY,aZ,uV,am,st,rJ,cl,bk,fW,cW,sS,dX⟩ a t zs=1):=by rw [Hid,doV,if_neg (by rw [HDAY.o];decide),if_neg (by rw [HOF.o];decide),if_neg (by rw [HRR.o];decide),HN1.o,if_neg (by rw [h6];decide)]
    have HC:Hid (doC ⟨iY,aZ,uV,am,st,rJ,cl,bk,fW,cW,sS,dX⟩ a t zs=⟨iY,aZ,uV,am,st,rJ,cl,bk,fW,cW,sS,dX⟩):=if_neg (by rw [HV.o];decide)
    have HE:Hid (doE ⟨iY,aZ,uV,am,st,rJ,cl,bk,fW,cW,sS,dX⟩ a t zs=[]):=if_neg (by rw [HV.o];decide)
    clear h6;obtain ⟨⟨f0,f1,f2,f3,f4,f5,f6,f7,f8,f9,f10,f11⟩,k0,k1,k2,⟨g0,g1,g2,g3,g4,g5,g6,g7,g8,g9,g10,g11⟩,⟨z0,z1,z2,z3,z4,z5,z6,z7,z8,z9,z10,z11⟩⟩:=HX6.o
    simp only [Nat.zero_add,Br] at f0 f1 f2 f3 f4 f5 f6 f7 f8 f9 f10 f11 g0 g1 g2 g3 g4 g5 g6 g7 g8 g9 g10 g11 z0 z1 z2 z3 z4 z5 z6 z7 z8 z9 z10 z11
    clear k1 k2 k0;go_wp2
    refine bodyPost_ret (by simp [results,results214,go_sem,g0,g1,g2,g3,g4,g5,g6,g7,g8,g9,g10,g11];try rfl) rfl ?_
    rw [HC.o,HE.o,HV.o]
    exact Ek (c:=⟨iY,aZ,uV,am,st,rJ,cl,bk,fW,cW,sS,dX⟩) (es:=[]) (base:=w.heap.size+1+1+1) (by omega) (World.ownsRow_nil _ _ _ _) HB.o
   ·have HV:Hid (doV ⟨iY,aZ,uV,am,st,rJ,cl,bk,fW,cW,sS,dX⟩ a t zs=0):=by rw [Hid,doV,if_neg (by rw [HDAY.o];decide),if_neg (by rw [HOF.o];decide),if_neg (by rw [HRR.o];decide),HN1.o,if_pos h6]
    have HC:Hid (doC ⟨iY,aZ,uV,am,st,rJ,cl,bk,fW,cW,sS,dX⟩ a t zs=⟨m0,m1,m2,m3,m4,m5,m6,m7,m8,m9,m10,m11⟩):=by rw [Hid,doC,if_pos HV.o,HN1.o]
    have HE:Hid (doE ⟨iY,aZ,uV,am,st,rJ,cl,bk,fW,cW,sS,dX⟩ a t zs=E):=by rw [Hid,doE,if_pos HV.o,HE1.o]
    clear h6;obtain ⟨⟨f0,f1,f2,f3,f4,f5,f6,f7,f8,f9,f10,f11⟩,k0,k1,k2,⟨g0,g1,g2,g3,g4,g5,g6,g7,g8,g9,g10,g11⟩,⟨z0,z1,z2,z3,z4,z5,z6,z7,z8,z9,z10,z11⟩⟩:=HX6.o
    simp only [Nat.zero_add,Br] at f0 f1 f2 f3 f4 f5 f6 f7 f8 f9 f10 f11 g0 g1 g2 g3 g4 g5 g6 g7 g8 g9 g10 g11 z0 z1 z2 z3 z4 z5 z6 z7 z8 z9 z10 z11
    clear k0 k1 k2 f0 f1 f2 f3 f4 f5 f6 f7 f8 f9 f10 f11;obtain ⟨f0,f1,f2,f3,f4,f5,f6,f7,f8,f9,f10,f11⟩:=HD6.o.db.cb
    simp only [Nat.zero_add] at f0 f1 f2 f3 f4 f5 f6 f7 f8 f9 f10 f11
    have k17:=HD6.o.db.he;go_wp2
    go_region
    all_goals
     go_wp2
     refine bodyPost_ret (by simp [results,results214,go_sem,g0,g1,g2,g3,g4,g5,g6,g7,g8,g9,g10,g11];try rfl) rfl ?_
     rw [HC.o,HE.o,HV.o]
     exact tQ (Ek (c:=⟨m0,m1,m2,m3,m4,m5,m6,m7,m8,m9,m10,m11⟩) (es:=E) (base:=B+1) (by have:=HS2.o;omega) HD6.o.own HB.o)
  ·have HV:Hid (doV ⟨iY,aZ,uV,am,st,rJ,cl,bk,fW,cW,sS,dX⟩ a t zs=r):=by rw [Hid,doV,if_neg (by rw [HDAY.o];decide),if_neg (by rw [HOF.o];decide),if_pos (by rw [HRR.o];exact h0),HRR.o]
   have HC:Hid (doC ⟨iY,aZ,uV,am,st,rJ,cl,bk,fW,cW,sS,dX⟩ a t zs=⟨iY,aZ,uV,am,st,rJ,cl,bk,fW,cW,sS,dX⟩):=if_neg (by rw [HV.o];exact h0)
   have HE:Hid (doE ⟨iY,aZ,uV,am,st,rJ,cl,bk,fW,cW,sS,dX⟩ a t zs=[]):=if_neg (by rw [HV.o];exact h0)
   have h0':(r != 0)=true:=by simpa using h0
   clear h0 D5;obtain ⟨⟨f0,f1,f2,f3,f4,f5,f6,f7,f8,f9,f10,f11⟩,k0,k1,k2,⟨g0,g1,g2,g3,g4,g5,g6,g7,g8,g9,g10,g11⟩,⟨z0,z1,z2,z3,z4,z5,z6,z7,z8,z9,z10,z11⟩⟩:=HX5.o
   simp only [Nat.zero_add,Br] at f0 f1 f2 f3 f4 f5 f6 f7 f8 f9 f10 f11 g0 g1 g2 g3 g4 g5 g6 g7 g8 g9 g10 g11 z0 z1 z2 z3 z4 z5 z6 z7 z8 z9 z10 z11
   clear k0 k1 k2;go_wp2
   refine bodyPost_ret (by simp [results,results214,go_sem,g0,g1,g2,g3,g4,g5,g6,g7,g8,g9,g10,g11];try rfl) rfl ?_
   rw [HC.o,HE.o,HV.o]
   exact Ek (c:=⟨iY,aZ,uV,am,st,rJ,cl,bk,fW,cW,sS,dX⟩) (es:=[]) (base:=w.heap.size+1+1+1) (by omega) (World.ownsRow_nil _ _ _ _) HB.o
end Go.Proofs.YtomiclakhjncbaaGreatDoor
