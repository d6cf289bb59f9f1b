import Derived.Test.YtomiclakhjncbaaGreatDoorJT2a
namespace Go.Proofs.YtomiclakhjncbaaGreatDoor
open Go.RowKit Go.Proofs.Tryz
set_option maxRecDepth 100000
set_option maxHeartbeats 12800000
theorem vL (F G:Option Addr) (c1 c2:Nat) (cs:List Cs) (w:World) (M:A0 w F cs) (hy:A0 w G cs) (h1:cs.length<=1099511627776) :
  Calls prog 85 #[.slice F cs.length c1,.slice G cs.length c2] w fun e w'=>e=.returned (.bool true)/\BW w w':=by
 have U:Hid (A0 w F cs):=M;have HY:Hid (A0 w G cs):=hy;clear M hy
 have nn:((cs.length:Int) != (cs.length:Int))=false:=by simp
 go_enter func85,ntmps85
 go_wp2
 go_loopw [5] (fun i wr=>∃ k:Nat,k<=cs.length/\i=qzI k/\BW w wr) (fun i _=>cs.length - (intOf i).toNat)
 case atStart=>exact ⟨0,Nat.zero_le _,rfl,bR⟩
 case round =>
  obtain ⟨k,hk,rfl,a⟩:=hrel;have j:Hid (BW w wr):=a;clear a
  by_cases hlt:k<cs.length
  ·have S:(k:Int)<(cs.length:Int):=by omega
   obtain ⟨b,off,ha,hb,cx⟩:=A0.at (A0.below U.o j.o) hlt;obtain ⟨d,b5,d2,hd,cy⟩:=A0.at (A0.below HY.o j.o) hlt;subst ha;subst d2;obtain ⟨⟨iY,aZ,cQ,am,st,rW,cl,bk,fW,cW,sS,dX⟩,hf⟩:∃ f,A8 cs k=f:=⟨_,rfl⟩;rw [hf] at cx cy;clear hf hb hd;obtain ⟨x0,x1,x2,x3,x4,x5,x6,x7,x8,x9,b6,b7⟩:=cx;obtain ⟨y0,y1,y2,y3,y4,y5,y6,y7,y8,y9,b8,b9⟩:=cy
   simp only at x0 y0 x1 y1 x2 y2 x3 y3 x4 y4 x5 y5 x6 y6 x7 y7 x8 y8 x9 y9 b6 b8 b7 b9
   go_upto_region 6 with fail
   go_quiet (fail)
   clear x0 y0 x1 y1 x2 y2 x3 y3 x4 y4 x5 y5 x6 y6 x7 y7 x8 y8 x9 y9 b6 b8 b7 b9;go_wp2
   go_roundw
   case rel=>exact ⟨k+1,by omega,by go_num,below_drewN j.o _⟩
   case measure=>simp [intOf];omega
  ·go_wp2
   go_ret;exact ⟨rfl,j.o⟩
theorem xI (F G:Option Addr) (c1 c2:Nat) (ls:List Ln) (w:World) (M:Ai w F ls) (hy:Ai w G ls) (h1:ls.length<=1099511627776) :
  Calls prog 86 #[.agg #[.slice F ls.length c1],.agg #[.slice G ls.length c2]] w fun e w'=>e=.returned (.bool true)/\BW w w':=by
 obtain ⟨W,C⟩:∃ W,W=(w.alloc (.cells #[.slice F ls.length c1] 29)).alloc (.cells #[.slice G ls.length c2] 29):=⟨_,rfl⟩
 have bW:BW w W:=by rw [C];go_grown
 have a8:W.heap.size=w.heap.size+2:=by rw [C];simp
 have k0:W.cell? ⟨w.heap.size,0,none⟩=some (.slice F ls.length c1):=by rw [C];simp [go_sem]
 have N:W.cell? ⟨w.heap.size+1,0,none⟩=some (.slice G ls.length c2):=by rw [C];simp [go_sem]
 have U:Hid (Ai W F ls):=M.below bW;have HY:Hid (Ai W G ls):=hy.below bW;have m:Hid (BW w W):=bW;have c9:Hid (W.cell? ⟨w.heap.size,0,none⟩=some (.slice F ls.length c1)):=k0;have r:Hid (W.cell? ⟨w.heap.size+1,0,none⟩=some (.slice G ls.length c2)):=N;have a6:Hid _:=a8;clear M hy bW a8
 go_enter func86,ntmps86
 go_wp2;rw [<- C];clear C k0 N
 go_loopw [5] (fun i wr=>∃ k:Nat,k<=ls.length/\i=qzI k/\BW W wr) (fun i _=>ls.length - (intOf i).toNat)
 case atStart=>exact ⟨0,Nat.zero_le _,rfl,bR⟩
 case round =>
  obtain ⟨k,hk,rfl,a⟩:=hrel
  have k0:=(a.cell (p:=⟨w.heap.size,0,none⟩) (by have:=a6.o;show w.heap.size<W.heap.size;omega)).trans c9.o
  have N:=(a.cell (p:=⟨w.heap.size+1,0,none⟩) (by have:=a6.o;show w.heap.size+1<W.heap.size;omega)).trans r.o
  by_cases hlt:k<ls.length
  ·obtain ⟨b,off,rfl,hb,e1,e2,e3⟩:=(U.o.below a).at hlt
   obtain ⟨b',d3,rfl,d5,e4,e5,e6⟩:=(HY.o.below a).at hlt
   have S:(k:Int)<(ls.length:Int):=by omega
   obtain ⟨⟨x,y,z⟩,b4⟩:∃ x,Cg ls k=x:=⟨_,rfl⟩;rw [b4] at e1 e2 e3 e4 e5 e6
   simp only at e1 e2 e3 e4 e5 e6
   clear b4;go_wp2
   go_quiet (fail)
   go_wp2
   go_roundw
   case rel=>exact ⟨k+1,by omega,by go_num,below_drewN a _⟩
   case measure=>simp [intOf];omega
  ·go_wp2
   go_ret;exact ⟨rfl,next m.o a⟩
def ZS (X:Nat) (b:Bk) (p:Bp) (u:World):Prop:=ZQ X b p u
theorem Y7 (b:Bk) (p q:Bp) (w:World) (M:Aq w b p) (hy:Aq w b q) (hn:D0 b) :
  Calls prog 32 #[C5 b p,C5 b q] w fun e w'=>e=.returned (.bool true)/\BW w w':=by
 obtain ⟨Y,D⟩:∃ W,W=w.alloc (.cells (qcB b p) 31):=⟨_,rfl⟩;obtain ⟨W,C⟩:∃ W,W=Y.alloc (.cells (qcB b q) 31):=⟨_,rfl⟩
 have b1:BW w Y:=by rw [D];exact bR.alloc nL _
 have b2:BW Y W:=by rw [C];exact bR.alloc nL _
 have m:Hid (BW w W):=next b1 b2
 have zX:ZS w.heap.size b p Y:=by rw [D];exact Z6.new w _ _ _ _ _ _ _
 have H:Hid (ZS w.heap.size b p W):=Z6.below zX b2;obtain ⟨X,hX⟩:∃ x,w.heap.size=x:=⟨_,rfl⟩;obtain ⟨R,hR⟩:∃ x,w.heap.size+1=x:=⟨_,rfl⟩
 have a7:Y.heap.size=R:=by rw [D,<- hR];simp
 have O:Hid (ZS R b q W):=by rw [Hid,C,<- a7];exact Z6.new Y _ _ _ _ _ _ _
 have Z:Hid (Aq W b p):=M.below m.o;have a3:Hid (Aq W b q):=hy.below m.o;have T:Hid (D0 b):=hn;have a5:Hid _:=D;have HW:Hid _:=C;have U:Hid _:=hX;have HR:Hid _:=hR
 have nn:((b.az.length:Int) != (b.az.length:Int))=false:=by simp
 have c8:Hid (b.az.length<=1048576):=hn.2.1;rw [hX] at H;unfold C5;clear a7 D C b1 b2 zX hX hR M hy hn
 go_enter func32,ntmps32
 go_upto_region 1 with fail
 rw [<- a5.o,<- HW.o,HR.o,U.o];clear a5 HW U HR;obtain ⟨n,I⟩:∃ n,b.az.length=n:=⟨_,rfl⟩;have a4:Hid (b.az.length=n):=I
 have d6:n<=1048576:=by rw [<- I];exact c8.o
 have x2:=H.o.c2;have y2:=O.o.c2;rw [I] at nn x2 y2;clear I;go_wp2;clear x2 y2
 go_loopw [5] (fun i wr=>∃ k:Nat,k<=n/\i=qzI k/\BW W wr) (fun i _=>n - (intOf i).toNat)
 case atStart=>exact ⟨0,Nat.zero_le _,rfl,bR⟩
 case round =>
  obtain ⟨k,hk,rfl,a⟩:=hrel;have j:Hid (BW W wr):=a;have zx:=(Z6.below H.o a).c2;have zy:=(Z6.below O.o a).c2;rw [a4.o] at zx zy
  by_cases hlt:k<n
  ·have S:(k:Int)<(n:Int):=by omega
   have h:k<b.az.length:=by rw [a4.o];exact hlt
   rcases Z.o.az.below a with hE | ⟨ab,off,b3,d1,a9⟩
   ·rw [hE] at h;simp at h
   rcases a3.o.az.below a with hE | ⟨d4,b5,L,b0,J⟩
   ·rw [hE] at h;simp at h
   obtain ⟨f0,f1,f2,f3,f4,f5⟩:=a9 k h;obtain ⟨g0,g1,g2,g3,g4,g5⟩:=J k h;obtain ⟨⟨ref,iY,cQ,am,day,used⟩,hA⟩:∃ A,Ak b.az k=A:=⟨_,rfl⟩;rw [hA] at f0 f1 f2 f3 f4 f5 g0 g1 g2 g3 g4 g5
   simp only at f0 f1 f2 f3 f4 f5 g0 g1 g2 g3 g4 g5
   rw [b3] at zx;rw [L] at zy
   have d7:(ref == ref)=true:=by simp
   clear a9 J hA b3 L d1 b0 a h;go_upto_region 6 with fail
   go_quiet (fail)
   clear f0 f1 f2 f3 f4 f5 g0 g1 g2 g3 g4 g5;go_wp2
   go_roundw
   case rel=>exact ⟨k+1,by omega,by go_num,below_drewN j.o _⟩
   case measure=>simp [intOf];omega
  ·have S:¬ (k:Int)<(n:Int):=by omega
   have HP:Hid (Aq wr b p):=Z.o.below a;have HQ:Hid (Aq wr b q):=a3.o.below a;have v:Hid (ZS X b p wr):=Z6.below H.o a;have B:Hid (ZS R b q wr):=Z6.below O.o a;have HB:Hid (BW w wr):=next m.o a
   have d8:(b.today == b.today)=true:=by simp
   obtain ⟨V,hV⟩:∃ V,V=wr:=⟨_,rfl⟩;subst hV;have x0:=v.o.c0;have x1:=v.o.c1;have y0:=B.o.c0;have y1:=B.o.c1;clear a;go_wp2_with fail
   refine (wO p.o q.o p.oc q.oc b.off b.off V HP.o.off HQ.o.off (by have:=T.o.1;omega) (by have:=T.o.1;omega)).mono ?_
   rintro e v1 ⟨rfl,N⟩;rw [decide_eq_true (rfl:b.off=b.off)];have r:Hid (BW V v1):=N;have x3:=(Z6.below v.o N).c3;have y3:=(Z6.below B.o N).c3;clear x0 y0 x1 y1 zx zy N;go_wp2_with fail
   refine (vL p.c q.c p.cc q.cc b.cs v1 (HP.o.cs.below r.o) (HQ.o.cs.below r.o) (by have:=T.o.2.2.1;omega)).mono ?_
   rintro e v2 ⟨rfl,k2⟩;have s:Hid (BW V v2):=next r.o k2;have x4:=(Z6.below v.o s.o).c4;have y4:=(Z6.below B.o s.o).c4;clear x3 y3 k2;go_wp2_with fail
   refine (xI p.l q.l p.lc q.lc b.ls v2 (HP.o.ls.below s.o) (HQ.o.ls.below s.o) (by have:=T.o.2.2.2.1;omega)).mono ?_
   rintro e v3 ⟨rfl,k3⟩;have t:Hid (BW V v3):=next s.o k3;have x5:=(Z6.below v.o t.o).c5;have y5:=(Z6.below B.o t.o).c5;clear x4 y4 k3;go_wp2_with fail
   refine (vW p.g q.g p.gc q.gc b.log b.log v3 (HP.o.log.below t.o) (HQ.o.log.below t.o) (by have:=T.o.2.2.2.2;omega) (by have:=T.o.2.2.2.2;omega)).mono ?_
   rintro e v4 ⟨rfl,k4⟩;rw [decide_eq_true (rfl:b.log=b.log)];have d0:Hid (BW w v4):=next (next HB.o t.o) k4;clear x5 y5 k4;go_wp2;go_ret;exact ⟨rfl,d0.o⟩
end Go.Proofs.YtomiclakhjncbaaGreatDoor
