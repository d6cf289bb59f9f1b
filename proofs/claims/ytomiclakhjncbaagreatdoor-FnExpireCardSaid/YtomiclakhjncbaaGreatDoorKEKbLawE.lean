import Derived.Test.YtomiclakhjncbaaGreatDoorKEKbTwE
namespace Go.Proofs.YtomiclakhjncbaaGreatDoor.Kb
open Go.RowKit Go.Proofs.Tryz
set_option maxRecDepth 100000
set_option maxHeartbeats 12800000
theorem Ac7 {G:Nat} {A:Nat→Addr} (a:Option Addr) (len cap:Nat) (zs:List Int) (w:World) (hr:pZ .u8 w a len cap zs) (hE:E1 G A w) :
  Calls prog 7 #[.slice a len cap] w fun e w'=>e=.returned (.bool true)∧BW w w':=by
 by_cases hbig:(1048576:Int)<(len:Int)
 ·have hdec:decide ((1048576:Int)<(len:Int))=true:=decide_eq_true hbig
  clear hE
  go_enter func7,ntmps7
  go_wp2_with fail
  refine (wP _ _ _ _).mono ?_;rintro e w1 ⟨rfl,hw1⟩;rw [hw1,hdec];clear hw1;go_wp2;go_ret;exact ⟨rfl,bR⟩
 have hn:len≤1048576:=by omega
 have hdec:decide ((1048576:Int)<(len:Int))=false:=decide_eq_false hbig;have HE:Hid (E1 G A w):=hE;clear hE
 go_enter func7,ntmps7
 go_wp2_with fail
 refine (wP _ _ _ _).mono ?_;rintro e w1 ⟨rfl,hw1⟩;rw [hw1,hdec];clear hw1 w1 hdec hbig;go_wp2_with fail
 refine (Ac3 _ _ _ _ _ hr hn).mono ?_;rintro e u1 ⟨b,p,rfl,hI,hb,p1⟩;unfold C5;have HI:Hid (Z7 101 b):=hI;have HPR:Hid (Ej b):=xW hI.jw;obtain ⟨X1,hX1⟩:∃ X,u1.heap.size=X:=⟨_,rfl⟩;obtain ⟨W1,hW1⟩:∃ W,W=u1.alloc (.cells (qcB b p) 31):=⟨_,rfl⟩
 have b1:BW u1 W1:=by rw [hW1];exact bR.alloc nL _
 have Z1:Hid (Z6b X1 b p W1):=by rw [Hid,hW1,← hX1];exact Z6.new u1 _ _ _ _ _ _ _
 have K1:Hid (Aq W1 b p):=hb.below b1;have B1:Hid (BW w W1):=next p1 b1;have EQ1:Hid _:=hW1;have EX1:Hid _:=hX1
 have HDU:Hid (Calls prog 37 #[C5 b p] W1 (qN W1 ((Lg b).map fun i:Nat=>(i:Int)))):=Uw b p W1 K1.o HPR.o.sm
 unfold C5 at HDU
 obtain ⟨ds,hds⟩:∃ x:List Int,((Lg b).map fun i:Nat=>(i:Int))=x:=⟨_,rfl⟩
 have HDS:Hid (((Lg b).map fun i:Nat=>(i:Int))=ds):=hds
 have hdl:ds.length≤1048576:=by rw [← hds,← bK];have:=Iz (Ds b.today) b.cs b.cs.length;have:=HPR.o.sm.2.2.1;omega
 rw [hds] at HDU;clear hr hn hI hb p1 b1 hW1 hX1 hds;go_upto_region 4 with fail
 rw [← EQ1.o,EX1.o];clear EQ1 EX1;obtain ⟨c0,c1,c2,c3,c4,c5,-,-,-,-,-,-⟩:=Z1.o;go_wp2_with fail
 refine Calls.mono HDU.o ?_;rintro e u2 ⟨da,dk,rfl,od,p2⟩;have HD2:Hid (Aw u2 da ds):=Hq od;have Z2:Hid (Z6b X1 b p u2):=Z6.below Z1.o p2;have K2:Hid (Aq u2 b p):=K1.o.below p2;have B2:Hid (BW w u2):=next B1.o p2;have HIE:Hid (Calls prog 27 #[C5 b p] u2 (IxR b u2)):=Oj b p u2 K2.o HPR.o HI.o.jw.gl (Gx _ _ HE.o (B2.o.mono HE.o.big));unfold C5 at HIE;clear od p2 c0 c1 c2 c3 c4 c5 HDU Z1 K1 B1;obtain ⟨c0,c1,c2,c3,c4,c5,-,-,-,-,-,-⟩:=Z2.o;go_wp2_with fail
 refine Calls.mono HIE.o ?_;rintro e u3 ⟨n,b',q,rfl,hex,-,o3,p3⟩
 simp only [C5]
 obtain ⟨hjw,hnl,hlg,hnd⟩:=Add HI.o.jw hex;have HEX:Hid (Ka (D9 F0) b (Lg b) b' n):=hex;have HJ:Hid (JW b'):=hjw
 have hdn:(Lg b).length=ds.length:=by rw [← HDS.o,List.length_map]
 rw [hdn] at hnl hnd;have HND:Hid (n=ds.length→Lg b'=[]):=hnd;have HLG:Hid (b'.log.length=b.log.length+n):=hlg;obtain ⟨X3,hX3⟩:∃ X,u3.heap.size=X:=⟨_,rfl⟩;obtain ⟨W3,hW3⟩:∃ W,W=u3.alloc (.cells (qcB b' q) 31):=⟨_,rfl⟩
 have b3:BW u3 W3:=by rw [hW3];exact bR.alloc nL _
 have Z3:Hid (Z6b X3 b' q W3):=by rw [Hid,hW3,← hX3];exact Z6.new u3 _ _ _ _ _ _ _
 have K3:Hid (Aq W3 b' q):=o3.at.below b3;have B23:Hid (BW u2 W3):=next p3 b3;have Z23:Hid (Z6b X1 b p W3):=Z6.below Z2.o B23.o;have K23:Hid (Aq W3 b p):=K2.o.below B23.o;have HD3:Hid (Aw W3 da ds):=HD2.o.below B23.o;have B3:Hid (BW w W3):=next B2.o B23.o;have EQ3:Hid _:=hW3;have EX3:Hid _:=hX3;have HSE:Hid (Calls prog 25 #[C5 b p] W3 (SxR b W3)):=J4 b p W3 K23.o HPR.o;unfold C5 at HSE;clear hex hjw hnd hdn hlg o3 p3 b3 hW3 hX3 HIE c0 c1 c2 c3 c4 c5 Z2 K2 HD2 B23 B2;go_upto_region 6 with fail
 rw [← EQ3.o,EX3.o];clear EQ3 EX3;obtain ⟨c0,c1,c2,c3,c4,c5,-,-,-,-,-,-⟩:=Z23.o;go_wp2_with fail
 refine Calls.mono HSE.o ?_;rintro e u4 ⟨n4,b4,q4,rfl,hex4,hb4,p4⟩
 simp only [C5]
 obtain ⟨e1,e2⟩:=Ns HEX.o hex4;subst e1;subst e2;obtain ⟨X4,hX4⟩:∃ X,u4.heap.size=X:=⟨_,rfl⟩;obtain ⟨W4,hW4⟩:∃ W,W=u4.alloc (.cells (qcB b' q4) 31):=⟨_,rfl⟩
 have b4':BW u4 W4:=by rw [hW4];exact bR.alloc nL _
 have Z4:Hid (Z6b X4 b' q4 W4):=by rw [Hid,hW4,← hX4];exact Z6.new u4 _ _ _ _ _ _ _
 have K4:Hid (Aq W4 b' q4):=hb4.below b4';have B34:Hid (BW W3 W4):=next p4 b4';have Z34:Hid (Z6b X3 b' q W4):=Z6.below Z3.o B34.o;have Z14:Hid (Z6b X1 b p W4):=Z6.below Z23.o B34.o;have K34:Hid (Aq W4 b' q):=K3.o.below B34.o;have K14:Hid (Aq W4 b p):=K23.o.below B34.o;have HD4:Hid (Aw W4 da ds):=HD3.o.below B34.o;have B4:Hid (BW w W4):=next B3.o B34.o;have HSM:Hid (D0 b'):=(xW HJ.o).sm
 have HS1:Hid (Calls prog 32 #[C5 b' q,C5 b' q4] W4 fun e w'=>e=.returned (.bool true)∧BW W4 w'):=mU b' q q4 W4 K34.o K4.o HSM.o
 unfold C5 at HS1;have EQ4:Hid _:=hW4;have EX4:Hid _:=hX4;clear hex4 hb4 p4 b4' hW4 hX4 HSE c0 c1 c2 c3 c4 c5 Z3 Z23 K3 K23 HD3 B3 B34 HEX;go_upto_region 7 with fail
 rw [← EQ4.o,EX4.o];clear EQ4 EX4;obtain ⟨c0,c1,c2,c3,c4,c5,-,-,-,-,-,-⟩:=Z34.o;obtain ⟨d0,d1,d2,d3,d4,d5,-,-,-,-,-,-⟩:=Z4.o
 have hcc:((n:Int) != (n:Int))=false:=by simp
 go_wp2_with fail
 refine Calls.mono HS1.o ?_;rintro e u5 ⟨rfl,p5⟩;have Z5:Hid (Z6b X3 b' q u5):=Z6.below Z34.o p5;have Y5:Hid (Z6b X1 b p u5):=Z6.below Z14.o p5;have K5:Hid (Aq u5 b' q):=K34.o.below p5;have L5:Hid (Aq u5 b p):=K14.o.below p5;have HD5:Hid (Aw u5 da ds):=HD4.o.below p5;have B5:Hid (BW w u5):=next B4.o p5
 have HSD:Hid (Calls prog 38 #[C5 b p] u5 (qN u5 ((Lg b).map fun i:Nat=>(i:Int)))):=T2 b p u5 L5.o HPR.o.sm
 unfold C5 at HSD;rw [HDS.o] at HSD;clear c0 c1 c2 c3 c4 c5 d0 d1 d2 d3 d4 d5 p5 HS1 Z34 Z14 Z4 K34 K14 K4 HD4 B4;obtain ⟨d0,d1,d2,d3,d4,d5,-,-,-,-,-,-⟩:=Y5.o;go_wp2_with fail
 refine Calls.mono HSD.o ?_;rintro e u6 ⟨sa,sk,rfl,os,p6⟩
 have HS2:Hid (Calls prog 33 #[.slice da ds.length dk,.slice sa ds.length sk] u6 fun e w'=>e=.returned (.bool (decide (ds=ds)))∧BW u6 w'):=tW da sa dk sk ds ds u6 (HD5.o.below p6) (Hq os) (by omega) (by omega)
 rw [decide_eq_true (rfl:ds=ds)] at HS2;have P6:Hid (BW u5 u6):=p6;clear d0 d1 d2 d3 d4 d5 os p6 HSD;go_wp2_with fail
 refine Calls.mono HS2.o ?_;rintro e u7 ⟨rfl,p7⟩;have P7:Hid (BW u5 u7):=next P6.o p7;have Z7:Hid (Z6b X3 b' q u7):=Z6.below Z5.o P7.o;have Y7:Hid (Z6b X1 b p u7):=Z6.below Y5.o P7.o;have K7:Hid (Aq u7 b' q):=K5.o.below P7.o;have B7:Hid (BW w u7):=next B5.o P7.o;have hlog6:=HJ.o.log
 have HLO:Hid (Calls prog 39 #[.agg #[.slice q.l b'.ls.length q.lc]] u7 fun e w'=>e=.returned (.bool (At b'.ls))∧BW u7 w'):=Ij q.l q.lc b'.ls u7 K7.o.ls (by have:=HSM.o.2.2.2.1;omega) (xW HJ.o).lb
 rw [show At b'.ls=true from HJ.o.jc.led] at HLO
 have c4:=Z7.o.c4;have c5:=Z7.o.c5;have d5:=Y7.o.c5;have hlg:=HLG.o;rw [hlg] at c5;obtain ⟨m,hm⟩:∃ m,b.log.length=m:=⟨_,rfl⟩;rw [hm] at c5 d5
 have hmn:m+n≤600:=by omega
 have hgt:¬ (ds.length:Int)<(n:Int):=by omega
 clear p7 HS2 P6 P7 Z5 Y5 K5 L5 HD5 B5 Y7 hlog6 hlg hm;go_wp2_with fail
 refine Calls.mono HLO.o ?_;rintro e u8 ⟨rfl,p8⟩;have B8:Hid (BW w u8):=next B7.o p8;have Z8:Hid (Z6b X3 b' q u8):=Z6.below Z7.o p8;have K8:Hid (Aq u8 b' q):=K7.o.below p8;clear c4 c5 d5 p8 HLO Z7 K7 B7 hgt
 by_cases hnn:n<ds.length
 ·have hni:(n:Int)<(ds.length:Int):=by omega
  clear hnn;go_wp2;go_ret;exact ⟨rfl,B8.o⟩
 ·have hne:n=ds.length:=by omega
  have hni:¬ (n:Int)<(ds.length:Int):=by omega
  have HD0:Hid (Lg b'=[]):=HND.o hne
  have HBD:Hid (Calls prog 37 #[C5 b' q] u8 (qN u8 ((Lg b').map fun i:Nat=>(i:Int)))):=Uw b' q u8 K8.o HSM.o
  rw [HD0.o,List.map_nil] at HBD;unfold C5 at HBD;clear hnn hne;obtain ⟨c0,c1,c2,c3,c4,c5,-,-,-,-,-,-⟩:=Z8.o;go_wp2_with fail
  refine Calls.mono HBD.o ?_;rintro e u9 ⟨ea,ek,rfl,-,p9⟩;have B9:Hid (BW w u9):=next B8.o p9;clear c0 c1 c2 c3 c4 c5 p9;go_wp2;go_ret;exact ⟨rfl,B9.o⟩
end Go.Proofs.YtomiclakhjncbaaGreatDoor.Kb
