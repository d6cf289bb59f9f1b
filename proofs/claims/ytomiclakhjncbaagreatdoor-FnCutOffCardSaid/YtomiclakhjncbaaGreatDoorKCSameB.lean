import Derived.Test.YtomiclakhjncbaaGreatDoorJC2b
namespace Go.Proofs.YtomiclakhjncbaaGreatDoor
open Go.RowKit Go.Proofs.Tryz
set_option maxRecDepth 100000
set_option maxHeartbeats 12800000
theorem uK (ao bo:Option Addr) (c1 c2:Nat) (cs:List Cs) (w:World) (hx:A0 w ao cs) (hy:A0 w bo cs) (h1:cs.length≤1099511627776) :
  Calls prog 85 #[.slice ao cs.length c1,.slice bo cs.length c2] w fun e w'=>e=.returned (.bool true)∧BW w w':=by
 have HX:Hid (A0 w ao cs):=hx;have HY:Hid (A0 w bo cs):=hy;clear hx hy
 have nn:((cs.length:Int) != (cs.length:Int))=false:=by simp
 go_enter func85,ntmps85
 go_wp2
 go_loopw [5] (fun i wr=>∃ k:Nat,k≤cs.length∧i=.int .i64 k∧BW w wr) (fun i _=>cs.length - (intOf i).toNat)
 case atStart=>exact ⟨0,Nat.zero_le _,rfl,bR⟩
 case round =>
  obtain ⟨k,hk,rfl,hbr⟩:=hrel;have HBR:Hid (BW w wr):=hbr;clear hbr
  by_cases hlt:k<cs.length
  ·have hki:(k:Int)<(cs.length:Int):=by omega
   obtain ⟨b,off,ha,hb,cx⟩:=A0.at (A0.below HX.o HBR.o) hlt;obtain ⟨d,off2,hb2,hd,cy⟩:=A0.at (A0.below HY.o HBR.o) hlt;subst ha;subst hb2;obtain ⟨⟨iY,aZ,cQ,am,st,rW,cl,bk,fW,cW,sS,dX⟩,hf⟩:∃ f,A8 cs k=f:=⟨_,rfl⟩;rw [hf] at cx cy;clear hf hb hd;obtain ⟨x0,x1,x2,x3,x4,x5,x6,x7,x8,x9,x10,x11⟩:=cx;obtain ⟨y0,y1,y2,y3,y4,y5,y6,y7,y8,y9,y10,y11⟩:=cy
   simp only at x0 y0 x1 y1 x2 y2 x3 y3 x4 y4 x5 y5 x6 y6 x7 y7 x8 y8 x9 y9 x10 y10 x11 y11
   go_upto_region 6 with fail
   go_quiet (fail)
   clear x0 y0 x1 y1 x2 y2 x3 y3 x4 y4 x5 y5 x6 y6 x7 y7 x8 y8 x9 y9 x10 y10 x11 y11;go_wp2
   go_roundw
   case rel=>exact ⟨k+1,by omega,by go_num,below_drewN HBR.o _⟩
   case measure=>simp [intOf];omega
  ·go_wp2
   go_ret;exact ⟨rfl,HBR.o⟩
theorem vT (ao bo:Option Addr) (c1 c2:Nat) (ls:List Ln) (w:World) (hx:Ai w ao ls) (hy:Ai w bo ls) (h1:ls.length≤1099511627776) :
  Calls prog 86 #[.agg #[.slice ao ls.length c1],.agg #[.slice bo ls.length c2]] w fun e w'=>e=.returned (.bool true)∧BW w w':=by
 obtain ⟨W,hW⟩:∃ W,W=(w.alloc (.cells #[.slice ao ls.length c1] 29)).alloc (.cells #[.slice bo ls.length c2] 29):=⟨_,rfl⟩
 have bW:BW w W:=by rw [hW];go_grown
 have hWs:W.heap.size=w.heap.size+2:=by rw [hW];simp
 have k0:W.cell? ⟨w.heap.size,0,none⟩=some (.slice ao ls.length c1):=by rw [hW];simp [go_sem]
 have k1:W.cell? ⟨w.heap.size+1,0,none⟩=some (.slice bo ls.length c2):=by rw [hW];simp [go_sem]
 have HX:Hid (Ai W ao ls):=hx.below bW;have HY:Hid (Ai W bo ls):=hy.below bW;have HBW:Hid (BW w W):=bW;have HK0:Hid (W.cell? ⟨w.heap.size,0,none⟩=some (.slice ao ls.length c1)):=k0;have HK1:Hid (W.cell? ⟨w.heap.size+1,0,none⟩=some (.slice bo ls.length c2)):=k1;have HWS:Hid _:=hWs;clear hx hy bW hWs
 go_enter func86,ntmps86
 go_wp2;rw [← hW];clear hW k0 k1
 go_loopw [5] (fun i wr=>∃ k:Nat,k≤ls.length∧i=.int .i64 k∧BW W wr) (fun i _=>ls.length - (intOf i).toNat)
 case atStart=>exact ⟨0,Nat.zero_le _,rfl,bR⟩
 case round =>
  obtain ⟨k,hk,rfl,hbr⟩:=hrel
  have k0:=(hbr.cell (p:=⟨w.heap.size,0,none⟩) (by have:=HWS.o;show w.heap.size<W.heap.size;omega)).trans HK0.o
  have k1:=(hbr.cell (p:=⟨w.heap.size+1,0,none⟩) (by have:=HWS.o;show w.heap.size+1<W.heap.size;omega)).trans HK1.o
  by_cases hlt:k<ls.length
  ·obtain ⟨b,off,rfl,hb,e1,e2,e3⟩:=(HX.o.below hbr).at hlt
   obtain ⟨b',off',rfl,hb',e4,e5,e6⟩:=(HY.o.below hbr).at hlt
   have hki:(k:Int)<(ls.length:Int):=by omega
   obtain ⟨⟨x,y,z⟩,hxk⟩:∃ x,Cg ls k=x:=⟨_,rfl⟩;rw [hxk] at e1 e2 e3 e4 e5 e6
   simp only at e1 e2 e3 e4 e5 e6
   clear hxk;go_wp2
   go_quiet (fail)
   go_wp2
   go_roundw
   case rel=>exact ⟨k+1,by omega,by go_num,below_drewN hbr _⟩
   case measure=>simp [intOf];omega
  ·go_wp2
   go_ret;exact ⟨rfl,next HBW.o hbr⟩
def ZS (X:Nat) (b:Bk) (p:Bp) (u:World):Prop:=ZQ X b p u
theorem mU (b:Bk) (p q:Bp) (w:World) (hx:Aq w b p) (hy:Aq w b q) (hn:D0 b) :
  Calls prog 32 #[C5 b p,C5 b q] w fun e w'=>e=.returned (.bool true)∧BW w w':=by
 obtain ⟨W1,hW1⟩:∃ W,W=w.alloc (.cells #[.int .i64 b.today,.slice p.o b.off.length p.oc,.slice p.a b.az.length p.ac,.slice p.c b.cs.length p.cc,.slice p.l b.ls.length p.lc,.slice p.g b.log.length p.gc] 31):=⟨_,rfl⟩;obtain ⟨W,hW⟩:∃ W,W=W1.alloc (.cells #[.int .i64 b.today,.slice q.o b.off.length q.oc,.slice q.a b.az.length q.ac,.slice q.c b.cs.length q.cc,.slice q.l b.ls.length q.lc,.slice q.g b.log.length q.gc] 31):=⟨_,rfl⟩
 have b1:BW w W1:=by rw [hW1];exact bR.alloc nL _
 have b2:BW W1 W:=by rw [hW];exact bR.alloc nL _
 have HBW:Hid (BW w W):=next b1 b2
 have zX:ZS w.heap.size b p W1:=by rw [hW1];exact Z6.new w _ _ _ _ _ _ _
 have HZX:Hid (ZS w.heap.size b p W):=Z6.below zX b2;obtain ⟨X,hX⟩:∃ x,w.heap.size=x:=⟨_,rfl⟩;obtain ⟨R,hR⟩:∃ x,w.heap.size+1=x:=⟨_,rfl⟩
 have hRs:W1.heap.size=R:=by rw [hW1,← hR];simp
 have HZY:Hid (ZS R b q W):=by rw [Hid,hW,← hRs];exact Z6.new W1 _ _ _ _ _ _ _
 have HBP:Hid (Aq W b p):=hx.below HBW.o;have HBQ:Hid (Aq W b q):=hy.below HBW.o;have HN:Hid (D0 b):=hn;have HW1:Hid _:=hW1;have HW:Hid _:=hW;have HX:Hid _:=hX;have HR:Hid _:=hR
 have nn:((b.az.length:Int) != (b.az.length:Int))=false:=by simp
 have HAL:Hid (b.az.length≤1048576):=hn.2.1;rw [hX] at HZX;unfold C5;clear hRs hW1 hW b1 b2 zX hX hR hx hy hn
 go_enter func32,ntmps32
 go_upto_region 1 with fail
 rw [← HW1.o,← HW.o,HR.o,HX.o];clear HW1 HW HX HR;obtain ⟨n,hnn⟩:∃ n,b.az.length=n:=⟨_,rfl⟩;have HNN:Hid (b.az.length=n):=hnn
 have hn1:n≤1048576:=by rw [← hnn];exact HAL.o
 have x2:=HZX.o.c2;have y2:=HZY.o.c2;rw [hnn] at nn x2 y2;clear hnn;go_wp2;clear x2 y2
 go_loopw [5] (fun i wr=>∃ k:Nat,k≤n∧i=.int .i64 k∧BW W wr) (fun i _=>n - (intOf i).toNat)
 case atStart=>exact ⟨0,Nat.zero_le _,rfl,bR⟩
 case round =>
  obtain ⟨k,hk,rfl,hbr⟩:=hrel;have HBR:Hid (BW W wr):=hbr;have zx:=(Z6.below HZX.o hbr).c2;have zy:=(Z6.below HZY.o hbr).c2;rw [HNN.o] at zx zy
  by_cases hlt:k<n
  ·have hki:(k:Int)<(n:Int):=by omega
   have hlt2:k<b.az.length:=by rw [HNN.o];exact hlt
   rcases HBP.o.az.below hbr with hE | ⟨ab,off,hpa,hal,hac⟩
   ·rw [hE] at hlt2;simp at hlt2
   rcases HBQ.o.az.below hbr with hE | ⟨ab2,off2,hpa2,hal2,hac2⟩
   ·rw [hE] at hlt2;simp at hlt2
   obtain ⟨f0,f1,f2,f3,f4,f5⟩:=hac k hlt2;obtain ⟨g0,g1,g2,g3,g4,g5⟩:=hac2 k hlt2;obtain ⟨⟨ref,iY,cQ,am,day,used⟩,hA⟩:∃ A,Ak b.az k=A:=⟨_,rfl⟩;rw [hA] at f0 f1 f2 f3 f4 f5 g0 g1 g2 g3 g4 g5
   simp only at f0 f1 f2 f3 f4 f5 g0 g1 g2 g3 g4 g5
   rw [hpa] at zx;rw [hpa2] at zy
   have hss:(ref == ref)=true:=by simp
   clear hac hac2 hA hpa hpa2 hal hal2 hbr hlt2;go_upto_region 6 with fail
   go_quiet (fail)
   clear f0 f1 f2 f3 f4 f5 g0 g1 g2 g3 g4 g5;go_wp2
   go_roundw
   case rel=>exact ⟨k+1,by omega,by go_num,below_drewN HBR.o _⟩
   case measure=>simp [intOf];omega
  ·have hki:¬ (k:Int)<(n:Int):=by omega
   have HP:Hid (Aq wr b p):=HBP.o.below hbr;have HQ:Hid (Aq wr b q):=HBQ.o.below hbr;have HZ1:Hid (ZS X b p wr):=Z6.below HZX.o hbr;have HZ2:Hid (ZS R b q wr):=Z6.below HZY.o hbr;have HB:Hid (BW w wr):=next HBW.o hbr
   have htt:(b.today == b.today)=true:=by simp
   obtain ⟨V,hV⟩:∃ V,V=wr:=⟨_,rfl⟩;subst hV;have x0:=HZ1.o.c0;have x1:=HZ1.o.c1;have y0:=HZ2.o.c0;have y1:=HZ2.o.c1;clear hbr;go_wp2_with fail
   refine (tW p.o q.o p.oc q.oc b.off b.off V HP.o.off HQ.o.off (by have:=HN.o.1;omega) (by have:=HN.o.1;omega)).mono ?_
   rintro e v1 ⟨rfl,k1⟩;rw [decide_eq_true (rfl:b.off=b.off)];have HK1:Hid (BW V v1):=k1;have x3:=(Z6.below HZ1.o k1).c3;have y3:=(Z6.below HZ2.o k1).c3;clear x0 y0 x1 y1 zx zy k1;go_wp2_with fail
   refine (uK p.c q.c p.cc q.cc b.cs v1 (HP.o.cs.below HK1.o) (HQ.o.cs.below HK1.o) (by have:=HN.o.2.2.1;omega)).mono ?_
   rintro e v2 ⟨rfl,k2⟩;have HK2:Hid (BW V v2):=next HK1.o k2;have x4:=(Z6.below HZ1.o HK2.o).c4;have y4:=(Z6.below HZ2.o HK2.o).c4;clear x3 y3 k2;go_wp2_with fail
   refine (vT p.l q.l p.lc q.lc b.ls v2 (HP.o.ls.below HK2.o) (HQ.o.ls.below HK2.o) (by have:=HN.o.2.2.2.1;omega)).mono ?_
   rintro e v3 ⟨rfl,k3⟩;have HK3:Hid (BW V v3):=next HK2.o k3;have x5:=(Z6.below HZ1.o HK3.o).c5;have y5:=(Z6.below HZ2.o HK3.o).c5;clear x4 y4 k3;go_wp2_with fail
   refine (uN p.g q.g p.gc q.gc b.log b.log v3 (HP.o.log.below HK3.o) (HQ.o.log.below HK3.o) (by have:=HN.o.2.2.2.2;omega) (by have:=HN.o.2.2.2.2;omega)).mono ?_
   rintro e v4 ⟨rfl,k4⟩;rw [decide_eq_true (rfl:b.log=b.log)];have HK4:Hid (BW w v4):=next (next HB.o HK3.o) k4;clear x5 y5 k4;go_wp2;go_ret;exact ⟨rfl,HK4.o⟩
end Go.Proofs.YtomiclakhjncbaaGreatDoor
