import Derived.Test.YtomiclakhjncbaaGreatDoorJL0a
import Derived.Test.YtomiclakhjncbaaGreatDoorJL8a
import Derived.Test.YtomiclakhjncbaaGreatDoorKLKbTw
import Derived.Test.YtomiclakhjncbaaGreatDoorJL6a
import Derived.Test.YtomiclakhjncbaaGreatDoorKLSameB
import Derived.Test.YtomiclakhjncbaaGreatDoorKLBkNum
import Derived.Test.YtomiclakhjncbaaGreatDoorJL2a
namespace Go.Proofs.YtomiclakhjncbaaGreatDoor.Kb
open Go.RowKit Go.Proofs.Tryz
set_option maxRecDepth 100000
set_option maxHeartbeats 12800000
theorem Aao {w:World} {ao:Option Addr} {rs:Be} (h:Bh w ao rs) {i:Nat} (hi:i<rs.length):∃ g off,ao=some ⟨g,off,none⟩∧w.cell? ⟨g,off+i,none⟩=some (.string ⟨(Al rs i).toArray⟩):=by
 rcases h with h | ⟨g,off,h1,h2,h3⟩
 ·rw [h] at hi;simp at hi
 ·exact ⟨g,off,h1,h3 i hi⟩
theorem yY (lg:Be) (l:List UInt8):Al (lg++[l]) lg.length=l:=by simp [Al,List.getD_eq_getElem?_getD]
theorem xV (a:Option Addr) (len cap:Nat) (zs:List Int) (w:World) (hr:pZ .u8 w a len cap zs) (hE:E0 w) (hg:R4 w) :
  Calls prog 6 #[.slice a len cap] w fun e w'=>e=.returned (.bool true)∧BW w w':=by
 by_cases hbig:(1048576:Int)<(len:Int)
 ·have hdec:decide ((1048576:Int)<(len:Int))=true:=decide_eq_true hbig
  clear hE hg
  go_enter func6,ntmps6
  go_wp2_with fail
  refine (wP _ _ _ _).mono ?_;rintro e w1 ⟨rfl,hw1⟩;rw [hw1,hdec];clear hw1;go_wp2;go_ret;exact ⟨rfl,bR⟩
 have hn:len≤1048576:=by omega
 have hdec:decide ((1048576:Int)<(len:Int))=false:=decide_eq_false hbig;have HE:Hid (E0 w):=hE;have HG:Hid (R4 w):=hg;clear hE hg
 go_enter func6,ntmps6
 go_wp2_with fail
 refine (wP _ _ _ _).mono ?_;rintro e w1 ⟨rfl,hw1⟩;rw [hw1,hdec];clear hw1 w1 hdec hbig;go_wp2_with fail
 refine (wA _ _ _ _ _ hr hn).mono ?_;rintro e u1 ⟨b,p,l,rfl,hI,hl,hgl,hb,p1⟩;unfold C5;have HI:Hid (Z7 100 b):=hI
 have HNE:Hid (¬ jE (Ab l)):=fun h=>(hgl.1 h.1).1 h.2
 have HLL:Hid (l.length≤400):=hl;obtain ⟨X1,hX1⟩:∃ X,u1.heap.size=X:=⟨_,rfl⟩;obtain ⟨W1,hW1⟩:∃ W,W=u1.alloc (.cells #[.int .i64 b.today,.slice p.o b.off.length p.oc,.slice p.a b.az.length p.ac,.slice p.c b.cs.length p.cc,.slice p.l b.ls.length p.lc,.slice p.g b.log.length p.gc] 31):=⟨_,rfl⟩
 have b1:BW u1 W1:=by rw [hW1];exact bR.alloc nL _
 have Z1:Hid (Z6b X1 b p W1):=by rw [Hid,hW1,← hX1];exact Z6.new u1 _ _ _ _ _ _ _
 have K1:Hid (Aq W1 b p):=hb.below b1;have B1:Hid (BW w W1):=next p1 b1;have EQ1:Hid _:=hW1;have EX1:Hid _:=hX1
 have HIM:Hid (Calls prog 30 #[C5 b p,.string ⟨l.toArray⟩] W1 (Aax b l W1)):=vM b p l W1 K1.o HI.o.jw (dK _ _ HE.o (B1.o.mono HE.o.size)) (HG.o.below B1.o) (by omega)
 unfold C5 at HIM;clear hr hn hI hl hgl hb p1 b1 hW1 hX1;go_upto_region 4 with fail
 rw [← EQ1.o,EX1.o];clear EQ1 EX1;obtain ⟨c0,c1,c2,c3,c4,c5,-,-,-,-,-,-⟩:=Z1.o;go_wp2_with fail
 refine Calls.mono HIM.o ?_;rintro e u2 ⟨⟨b',code⟩,q,hdr,rfl,o2,p2⟩
 simp only at o2
 simp only [C5]
 have HDR:Hid (D9 F0 b l (b',code)):=hdr;obtain ⟨X2,hX2⟩:∃ X,u2.heap.size=X:=⟨_,rfl⟩;obtain ⟨W2,hW2⟩:∃ W,W=u2.alloc (.cells #[.int .i64 b'.today,.slice q.o b'.off.length q.oc,.slice q.a b'.az.length q.ac,.slice q.c b'.cs.length q.cc,.slice q.l b'.ls.length q.lc,.slice q.g b'.log.length q.gc] 31):=⟨_,rfl⟩
 have b2:BW u2 W2:=by rw [hW2];exact bR.alloc nL _
 have Z2:Hid (Z6b X2 b' q W2):=by rw [Hid,hW2,← hX2];exact Z6.new u2 _ _ _ _ _ _ _
 have K2:Hid (Aq W2 b' q):=o2.at.below b2;have B2:Hid (BW W1 W2):=next p2 b2;have EQ2:Hid _:=hW2;have EX2:Hid _:=hX2
 have HSP:Hid (Calls prog 31 #[C5 b p,.string ⟨l.toArray⟩] W2 (BoF Fu b l W2)):=T5 lO b p l W2 (K1.o.below B2.o) (tS HI.o.inv (by omega)) (by have:=HLL.o;omega)
 unfold C5 at HSP;have Z12:Hid (Z6b X1 b p W2):=Z6.below Z1.o B2.o;clear hdr o2 p2 b2 hW2 hX2 HIM c0 c1 c2 c3 c4 c5;go_upto_region 5 with fail
 rw [← EQ2.o,EX2.o];clear EQ2 EX2;obtain ⟨c0,c1,c2,c3,c4,c5,-,-,-,-,-,-⟩:=Z12.o;go_wp2_with fail
 refine Calls.mono HSP.o ?_;rintro e u3 ⟨⟨b3,sO⟩,q3,hrel,rfl,hb3,p3,hf3⟩
 simp only at hb3
 simp only [C5]
 have hag:=W4 HDR.o hrel
 have HJ:Hid (JW b'):=by
  have h2:=zW HI.o.jw (by have:=HLL.o;omega) hrel
  rw [← hag.1] at h2;exact h2
 obtain ⟨e1,e2⟩:b'=b3∧code=sO:=⟨hag.1,by rcases hag.2 with h | ⟨_,_,h⟩;exact h;exact absurd h HNE.o⟩
 subst e1;subst e2;obtain ⟨X3,hX3⟩:∃ X,u3.heap.size=X:=⟨_,rfl⟩;obtain ⟨W3,hW3⟩:∃ W,W=u3.alloc (.cells #[.int .i64 b'.today,.slice q3.o b'.off.length q3.oc,.slice q3.a b'.az.length q3.ac,.slice q3.c b'.cs.length q3.cc,.slice q3.l b'.ls.length q3.lc,.slice q3.g b'.log.length q3.gc] 31):=⟨_,rfl⟩
 have b3':BW u3 W3:=by rw [hW3];exact bR.alloc nL _
 have Z3:Hid (Z6b X3 b' q3 W3):=by rw [Hid,hW3,← hX3];exact Z6.new u3 _ _ _ _ _ _ _
 have K3:Hid (Aq W3 b' q3):=hb3.below b3';have B23:Hid (BW W2 W3):=next p3 b3';have Z23:Hid (Z6b X2 b' q W3):=Z6.below Z2.o B23.o;have Z13:Hid (Z6b X1 b p W3):=Z6.below Z12.o B23.o;have K23:Hid (Aq W3 b' q):=K2.o.below B23.o;have K13:Hid (Aq W3 b p):=(K1.o.below B2.o).below B23.o;have B3:Hid (BW w W3):=next (next B1.o B2.o) B23.o;have HSM:Hid (D0 b'):=(xW HJ.o).sm
 have HS1:Hid (Calls prog 32 #[C5 b' q,C5 b' q3] W3 fun e w'=>e=.returned (.bool true)∧BW W3 w'):=mU b' q q3 W3 K23.o K3.o HSM.o
 unfold C5 at HS1;have EQ3:Hid _:=hW3;have EX3:Hid _:=hX3;clear hrel hag hb3 p3 hf3 b3' hW3 hX3 HSP c0 c1 c2 c3 c4 c5 Z1 Z2 Z12 K1 K2 B1 B2 B23 HNE HLL;go_upto_region 6 with fail
 rw [← EQ3.o,EX3.o];clear EQ3 EX3;obtain ⟨c0,c1,c2,c3,c4,c5,-,-,-,-,-,-⟩:=Z23.o;obtain ⟨d0,d1,d2,d3,d4,d5,-,-,-,-,-,-⟩:=Z3.o
 have hcc:(code != code)=false:=by simp
 go_wp2_with fail
 refine Calls.mono HS1.o ?_;rintro e u4 ⟨rfl,p4⟩;have Z2:Hid (Z6b X2 b' q u4):=Z6.below Z23.o p4;have Z1:Hid (Z6b X1 b p u4):=Z6.below Z13.o p4;have K2:Hid (Aq u4 b' q):=K23.o.below p4;have K1:Hid (Aq u4 b p):=K13.o.below p4;have B4:Hid (BW w u4):=next B3.o p4;clear c0 c1 c2 c3 c4 c5 d0 d1 d2 d3 d4 d5 p4 HS1 Z23 Z13 Z3 K23 K13 K3 B3 hcc;obtain ⟨c0,c1,c2,c3,c4,c5,-,-,-,-,-,-⟩:=Z2.o;obtain ⟨d0,d1,d2,d3,d4,d5,-,-,-,-,-,-⟩:=Z1.o
 by_cases hc:code=0
 ·subst hc
  obtain ⟨hlog,i0,hn1,hn2,hsame,hgrow⟩:=Aat HDR.o rfl
  simp only at hlog hn1 hn2 hsame hgrow
  have HSAME:Hid (∀ j,j<b.cs.length→j≠i0→A8 b'.cs j=A8 b.cs j):=hsame;have hm600:=HI.o.jw.log;have hms:=HSM.o.2.2.1
  have hbl:b'.log.length=b.log.length+1:=by rw [hlog];simp
  obtain ⟨g,off,hqg,htx⟩:=Aao K2.o.log (i:=b.log.length) (by omega)
  rw [show Al b'.log b.log.length=l from by rw [hlog];exact yY _ _] at htx
  rw [hqg,hbl] at c5;obtain ⟨m,hm⟩:∃ m,b.log.length=m:=⟨_,rfl⟩;rw [hm] at c5 d5 htx hm600
  obtain ⟨d,hd⟩:∃ d:Nat,b'.cs.length=b.cs.length+d:=⟨b'.cs.length - b.cs.length,by omega⟩
  have hd1:d≤1:=by omega
  have HGR:Hid (d=1→b.cs.length≤i0):=fun h=>hgrow (by omega)
  rw [hd] at c3 hms;obtain ⟨n,hnn⟩:∃ n,b.cs.length=n:=⟨_,rfl⟩;have HNN:Hid (b.cs.length=n):=hnn
  have HDD:Hid (b'.cs.length=n+d):=by rw [Hid,hd,hnn]
  rw [hnn] at c3 d3 hms HSAME HGR
  have hss:(l == l)=true:=by simp
  clear hlog hn1 hn2 hsame hgrow hbl hqg hm hd hnn;go_wp2;clear c0 c1 c2 c3 c4 c5 d0 d1 d2 d3 d4 d5 htx
  go_loopw [10,9] (fun i v wr=>∃ k e:Nat,k≤n∧i=.int .i64 k∧v=.int .i64 ((d+e:Nat):Int)∧e≤1∧(k≤i0→e=0)∧BW u4 wr) (fun i _ _=>n - (intOf i).toNat)
  case atStart=>exact ⟨0,0,Nat.zero_le _,rfl,by congr 1;omega,by omega,fun _=>rfl,bR⟩
  case round =>
   obtain ⟨k,e,hk,rfl,rfl,he1,he0,hbr⟩:=hrel;have HBR:Hid (BW u4 wr):=hbr;have HE0:Hid (k≤i0→e=0):=he0;have z3:=(Z6.below Z1.o hbr).c3;have y3:=(Z6.below Z2.o hbr).c3;rw [HNN.o] at z3;rw [HDD.o] at y3;clear he0
   by_cases hlt:k<n
   ·have hki:(k:Int)<(n:Int):=by omega
    obtain ⟨N,hN⟩:∃ N,n+d=N:=⟨_,rfl⟩
    have hki2:(k:Int)<(N:Int):=by omega
    rw [hN] at y3
    have hlt1:k<b.cs.length:=by rw [HNN.o];exact hlt
    have hlt2:k<b'.cs.length:=by rw [HDD.o];omega
    obtain ⟨cb,off1,hp1,hl1,cx⟩:=A0.at (K1.o.cs.below hbr) hlt1;obtain ⟨cb2,off2,hp2,hl2,cy⟩:=A0.at (K2.o.cs.below hbr) hlt2;clear hlt1 hlt2 hN;rw [hp1] at z3;rw [hp2] at y3
    by_cases hki0:k=i0
    ·have e0:=HE0.o (by omega)
     subst e0;subst hki0;obtain ⟨⟨iss,acq,cur,am,st,rsn,cl,bk,fee,cop,sta,due⟩,hf⟩:∃ f,A8 b.cs k=f:=⟨_,rfl⟩;obtain ⟨⟨iss',acq',cur',am',st',rsn',cl',bk',fee',cop',sta',due'⟩,hf'⟩:∃ f,A8 b'.cs k=f:=⟨_,rfl⟩;rw [hf] at cx;rw [hf'] at cy;obtain ⟨x0,x1,x2,x3,x4,x5,x6,x7,x8,x9,x10,x11⟩:=cx;obtain ⟨y0,y1,y2,y3',y4,y5,y6,y7,y8,y9,y10,y11⟩:=cy
     simp only at x0 y0 x1 y1 x2 y2 x3 y3' x4 y4 x5 y5 x6 y6 x7 y7 x8 y8 x9 y9 x10 y10 x11 y11
     clear hf hf' hp1 hp2 hl1 hl2 hbr;go_upto_region 16 with fail
     refine wp_region_quiet_lit (by kernel_rfl) (by kernel_rfl) ?_
     repeat (go_big_quiet_step (fail))
     clear x0 y0 x1 y1 x2 y2 x3 y3' x4 y4 x5 y5 x6 y6 x7 y7 x8 y8 x9 y9 x10 y10 x11 y11 z3 y3
     by_cases h_iss:iss'=iss
     rotate_left
     ·have e_iss:(iss' == iss)=false:=by simpa using h_iss
      clear h_iss
      go_big_quiet_step (fail)
      refine wpQuiet_nil ?_;rintro _ ⟨nq,rfl⟩;go_wp2
      go_roundw
      case rel=>exact ⟨k+1,1,by omega,by go_num,by congr 1;try omega,by omega,fun h=>by omega,below_drewN HBR.o _⟩
      case measure=>simp [intOf];omega
     subst h_iss
     by_cases h_acq:acq'=acq
     rotate_left
     ·have e_acq:(acq' == acq)=false:=by simpa using h_acq
      clear h_acq
      go_big_quiet_step (fail)
      refine wpQuiet_nil ?_;rintro _ ⟨nq,rfl⟩;go_wp2
      go_roundw
      case rel=>exact ⟨k+1,1,by omega,by go_num,by congr 1;try omega,by omega,fun h=>by omega,below_drewN HBR.o _⟩
      case measure=>simp [intOf];omega
     subst h_acq
     by_cases h_cur:cur'=cur
     rotate_left
     ·have e_cur:(cur' == cur)=false:=by simpa using h_cur
      clear h_cur
      go_big_quiet_step (fail)
      refine wpQuiet_nil ?_;rintro _ ⟨nq,rfl⟩;go_wp2
      go_roundw
      case rel=>exact ⟨k+1,1,by omega,by go_num,by congr 1;try omega,by omega,fun h=>by omega,below_drewN HBR.o _⟩
      case measure=>simp [intOf];omega
     subst h_cur
     by_cases h_am:am'=am
     rotate_left
     ·have e_am:(am' == am)=false:=by simpa using h_am
      clear h_am
      go_big_quiet_step (fail)
      refine wpQuiet_nil ?_;rintro _ ⟨nq,rfl⟩;go_wp2
      go_roundw
      case rel=>exact ⟨k+1,1,by omega,by go_num,by congr 1;try omega,by omega,fun h=>by omega,below_drewN HBR.o _⟩
      case measure=>simp [intOf];omega
     subst h_am
     by_cases h_st:st'=st
     rotate_left
     ·have e_st:(st' == st)=false:=by simpa using h_st
      clear h_st
      go_big_quiet_step (fail)
      refine wpQuiet_nil ?_;rintro _ ⟨nq,rfl⟩;go_wp2
      go_roundw
      case rel=>exact ⟨k+1,1,by omega,by go_num,by congr 1;try omega,by omega,fun h=>by omega,below_drewN HBR.o _⟩
      case measure=>simp [intOf];omega
     subst h_st
     by_cases h_rsn:rsn'=rsn
     rotate_left
     ·have e_rsn:(rsn' == rsn)=false:=by simpa using h_rsn
      clear h_rsn
      go_big_quiet_step (fail)
      refine wpQuiet_nil ?_;rintro _ ⟨nq,rfl⟩;go_wp2
      go_roundw
      case rel=>exact ⟨k+1,1,by omega,by go_num,by congr 1;try omega,by omega,fun h=>by omega,below_drewN HBR.o _⟩
      case measure=>simp [intOf];omega
     subst h_rsn
     by_cases h_cl:cl'=cl
     rotate_left
     ·have e_cl:(cl' == cl)=false:=by simpa using h_cl
      clear h_cl
      go_big_quiet_step (fail)
      refine wpQuiet_nil ?_;rintro _ ⟨nq,rfl⟩;go_wp2
      go_roundw
      case rel=>exact ⟨k+1,1,by omega,by go_num,by congr 1;try omega,by omega,fun h=>by omega,below_drewN HBR.o _⟩
      case measure=>simp [intOf];omega
     subst h_cl
     by_cases h_bk:bk'=bk
     rotate_left
     ·have e_bk:(bk' == bk)=false:=by simpa using h_bk
      clear h_bk
      go_big_quiet_step (fail)
      refine wpQuiet_nil ?_;rintro _ ⟨nq,rfl⟩;go_wp2
      go_roundw
      case rel=>exact ⟨k+1,1,by omega,by go_num,by congr 1;try omega,by omega,fun h=>by omega,below_drewN HBR.o _⟩
      case measure=>simp [intOf];omega
     subst h_bk
     by_cases h_fee:fee'=fee
     rotate_left
     ·have e_fee:(fee' == fee)=false:=by simpa using h_fee
      clear h_fee
      go_big_quiet_step (fail)
      refine wpQuiet_nil ?_;rintro _ ⟨nq,rfl⟩;go_wp2
      go_roundw
      case rel=>exact ⟨k+1,1,by omega,by go_num,by congr 1;try omega,by omega,fun h=>by omega,below_drewN HBR.o _⟩
      case measure=>simp [intOf];omega
     subst h_fee
     by_cases h_cop:cop'=cop
     rotate_left
     ·have e_cop:(cop' == cop)=false:=by simpa using h_cop
      clear h_cop
      go_big_quiet_step (fail)
      refine wpQuiet_nil ?_;rintro _ ⟨nq,rfl⟩;go_wp2
      go_roundw
      case rel=>exact ⟨k+1,1,by omega,by go_num,by congr 1;try omega,by omega,fun h=>by omega,below_drewN HBR.o _⟩
      case measure=>simp [intOf];omega
     subst h_cop
     by_cases h_sta:sta'=sta
     rotate_left
     ·have e_sta:(sta' == sta)=false:=by simpa using h_sta
      clear h_sta
      go_big_quiet_step (fail)
      refine wpQuiet_nil ?_;rintro _ ⟨nq,rfl⟩;go_wp2
      go_roundw
      case rel=>exact ⟨k+1,1,by omega,by go_num,by congr 1;try omega,by omega,fun h=>by omega,below_drewN HBR.o _⟩
      case measure=>simp [intOf];omega
     subst h_sta
     by_cases h_due:due'=due
     rotate_left
     ·have e_due:(due' == due)=false:=by simpa using h_due
      clear h_due
      go_big_quiet_step (fail)
      refine wpQuiet_nil ?_;rintro _ ⟨nq,rfl⟩;go_wp2
      go_roundw
      case rel=>exact ⟨k+1,1,by omega,by go_num,by congr 1;try omega,by omega,fun h=>by omega,below_drewN HBR.o _⟩
      case measure=>simp [intOf];omega
     subst h_due
     go_big_quiet_step (fail)
     refine wpQuiet_nil ?_;rintro _ ⟨nq,rfl⟩;go_wp2
     go_roundw
     case rel=>exact ⟨k+1,0,by omega,by go_num,by congr 1;try omega,by omega,fun h=>by omega,below_drewN HBR.o _⟩
     case measure=>simp [intOf];omega
    ·have hs:=HSAME.o k hlt hki0
     have HKI:Hid (¬ k=i0):=hki0;rw [hs] at cy;obtain ⟨⟨iss,acq,cur,am,st,rsn,cl,bk,fee,cop,sta,due⟩,hf⟩:∃ f,A8 b.cs k=f:=⟨_,rfl⟩;rw [hf] at cx cy;obtain ⟨x0,x1,x2,x3,x4,x5,x6,x7,x8,x9,x10,x11⟩:=cx;obtain ⟨y0,y1,y2,y3',y4,y5,y6,y7,y8,y9,y10,y11⟩:=cy
     simp only at x0 y0 x1 y1 x2 y2 x3 y3' x4 y4 x5 y5 x6 y6 x7 y7 x8 y8 x9 y9 x10 y10 x11 y11
     clear hs hki0 hf hp1 hp2 hl1 hl2 hbr;go_upto_region 16 with fail
     go_quiet (fail)
     clear x0 y0 x1 y1 x2 y2 x3 y3' x4 y4 x5 y5 x6 y6 x7 y7 x8 y8 x9 y9 x10 y10 x11 y11 z3 y3;go_wp2
     go_roundw
     case rel=>exact ⟨k+1,e,by omega,by go_num,rfl,he1,fun h=>HE0.o (by omega),below_drewN HBR.o _⟩
     case measure=>simp [intOf];omega
   ·have hki:¬ (k:Int)<(n:Int):=by omega
    have hte:k=n:=by omega
    subst hte
    have hfin:d+e≤1:=by
     rcases (show d=0∨d=1 by omega) with rfl | rfl
     ·omega
     ·have:=HE0.o (HGR.o rfl)
      omega
    obtain ⟨y,hy⟩:∃ y:Nat,d+e=y:=⟨_,rfl⟩;rw [hy] at hfin ⊢
    have hyi:(y:Int)≤1:=by omega
    have HIO:Hid (∀ u,BW wr u→Calls prog 34 #[C5 b' q] u (qN u (Bl Jp b'.cs b'.cs.length))):=fun u h=>uM b' q u ((K2.o.below HBR.o).below h) HSM.o
    have HSO:Hid (∀ u,BW wr u→Calls prog 35 #[C5 b' q] u (qN u (Bl Jp b'.cs b'.cs.length))):=fun u h=>mV b' q u ((K2.o.below HBR.o).below h) HSM.o
    unfold C5 at HIO HSO
    have HLN:Hid ((Bl Jp b'.cs b'.cs.length).length≤1048576):=by have:=Iz Jp b'.cs b'.cs.length;have:=HSM.o.2.2.1;rw [Hid];omega
    obtain ⟨NS,hNS⟩:∃ x,Bl Jp b'.cs b'.cs.length=x:=⟨_,rfl⟩;rw [hNS] at HIO HSO HLN
    have HZ:Hid (∀ u,BW wr u→u.cell? ⟨X2,0,none⟩=some (.int .i64 b'.today)∧u.cell? ⟨X2,1,none⟩=some (.slice q.o b'.off.length q.oc)∧u.cell? ⟨X2,2,none⟩=some (.slice q.a b'.az.length q.ac)∧u.cell? ⟨X2,3,none⟩=some (.slice q.c b'.cs.length q.cc)∧u.cell? ⟨X2,4,none⟩=some (.slice q.l b'.ls.length q.lc)∧u.cell? ⟨X2,5,none⟩=some (.slice q.g b'.log.length q.gc)):=fun u h=>by
     have z:=Z6.below (Z6.below Z2.o HBR.o) h;exact ⟨z.c0,z.c1,z.c2,z.c3,z.c4,z.c5⟩
    have HB5:Hid (BW w wr):=next B4.o HBR.o;have k0:BW wr wr:=bR;clear hNS hy hbr y3 hms hd1 hm600 hfin he1 hlt hk;go_upto_region 18 with fail
    clear z3
    go_region_held3 (fun u=>u.cell? ⟨X2,0,none⟩=some (.int .i64 b'.today)∧u.cell? ⟨X2,1,none⟩=some (.slice q.o b'.off.length q.oc)∧u.cell? ⟨X2,2,none⟩=some (.slice q.a b'.az.length q.ac)∧u.cell? ⟨X2,3,none⟩=some (.slice q.c b'.cs.length q.cc)∧u.cell? ⟨X2,4,none⟩=some (.slice q.l b'.ls.length q.lc)∧u.cell? ⟨X2,5,none⟩=some (.slice q.g b'.log.length q.gc)) (first | with_reducible exact HZ.o _ k0 | with_reducible exact HZ.o _ k0.drew | with_reducible exact HZ.o _ k1 | with_reducible exact HZ.o _ k2 | with_reducible exact HZ.o _ k3) ((first
     | (go_at_call 34;(first | with_reducible refine Calls.mono (HIO.o _ k0) ?_ | with_reducible refine Calls.mono (HIO.o _ k0.drew) ?_);rintro e v1 ⟨bo1,c1,rfl,o1,b1⟩;have k1:BW wr v1:=(by first | exact b1 | exact (Below.trans (Below.refl wr.heap.size wr).drew b1)))
     | (go_at_call 35;(with_reducible refine Calls.mono (HSO.o _ k1) ?_);rintro e v2 ⟨bo2,c2,rfl,o2,b2⟩;have k2:BW wr v2:=next k1 b2)
     | (go_at_call 33;(with_reducible refine Calls.mono (tW bo1 bo2 c1 c2 NS NS v2 ((Hq o1).below b2) (Hq o2) (by have:=HLN.o;omega) (by have:=HLN.o;omega)) ?_);rintro e v3 ⟨rfl,b3⟩;have k3:BW wr v3:=next k2 b3)))
    all_goals
     have HEND:Hid (BW w v3):=next HB5.o k3;clear k0 k1 k2 k3 o1 o2 b1 b2 b3;go_wp2;go_ret
     exact ⟨by simp,HEND.o⟩
 ·have hne:(code != 0)=true:=by simpa using hc
  have e1:b'=b:=sP HDR.o hc;subst e1
  have HS2:Hid (Calls prog 32 #[C5 b' q,C5 b' p] u4 fun e w'=>e=.returned (.bool true)∧BW u4 w'):=mU b' q p u4 K2.o K1.o HSM.o
  unfold C5 at HS2;clear hc;go_wp2_with fail
  refine Calls.mono HS2.o ?_;rintro e u5 ⟨rfl,p5⟩;have B5:Hid (BW w u5):=next B4.o p5;clear p5;go_wp2;go_ret;exact ⟨rfl,B5.o⟩
end Go.Proofs.YtomiclakhjncbaaGreatDoor.Kb
