import Derived.Test.YtomiclakhjncbaaGreatDoorJC7a
import Derived.Test.YtomiclakhjncbaaGreatDoorKCSameB
namespace Go.Proofs.YtomiclakhjncbaaGreatDoor.Kb
open Go.RowKit Go.Proofs.Tryz
set_option maxRecDepth 100000
set_option maxHeartbeats 12800000
theorem Aca {u:World} {base n cap:Nat} {a:Option Addr} {rs:Be} (h:u.ownsRow base 9 1 (.slice a n cap) n (Am rs)) (hl:rs.length=n) (k:Nat) (hk:k≤n) :
  ∃ (A:Option Addr) (C:Nat),(∀ W,(Instr.slice 23 (.slice a n cap) none (some (.int .i64 k)) none).run prog W=.ok (.slice A k C) W)∧∀ u',Bh u' a rs→Bh u' A (rs.take k):=by
 rcases h.2 with ⟨hv,h0⟩ | ⟨g,c,cQ,hv,hrest⟩
 ·have hn:n=0:=h0
  subst hn
  obtain rfl:k=0:=by omega
  injection hv with h1 h2 h3
  subst h1 h3
  refine ⟨none,0,fun W=>?_,fun u' _=>.inl (by simp)⟩
  rfl
 ·injection hv with h1 h2 h3
  subst h1 h3;have hnc:n≤cap:=hrest.2.2.1
  refine ⟨some ⟨g,0,none⟩,cap,fun W=>?_,fun u' ht=>?_⟩
  ·rw [run_slice_h W _ _ _ _ cU .i64 _ (by omega) (by omega),aG,kX]
   simp [Result.andThen,sliced,Addr.add]
  ·rcases ht with ht | ⟨g2,off,h1,h2,h3⟩
   ·exact .inl (by rw [ht];simp)
   ·refine .inr ⟨g2,off,h1,h2,fun i hi=>?_⟩
    rw [List.length_take] at hi
    have e:=h3 i (by omega)
    rw [show Al (rs.take k) i=Al rs i from by simp only [Al,List.getD_eq_getElem?_getD,List.getElem?_take];rw [if_pos (by omega)]]
    exact e
theorem Acr {w:World} {ao:Option Addr} {rs:Be} (h:Bh w ao rs) {i:Nat} (hi:i<rs.length):∃ g off,ao=some ⟨g,off,none⟩∧w.cell? ⟨g,off+i,none⟩=some (.string ⟨(Al rs i).toArray⟩):=by
 rcases h with h | ⟨g,off,h1,h2,h3⟩
 ·rw [h] at hi;simp at hi
 ·exact ⟨g,off,h1,h3 i hi⟩
theorem Acc {B:Nat} {b:Bk} {q:Bp} {u:World} (h:Gc B b q u):FrB q B:=⟨Cw h.off,Cw h.az,Cw h.cs,Cw h.ls,Cw h.log⟩
theorem Abz {B X:Nat} {b:Bk} {q:Bp} {u:World} (h:Gc B b q u) (hX:u.heap.size≤X):Wq q X :=
 ⟨fun x hx e=>by have:=G8 h.off nL x hx;omega,fun x hx e=>by have:=G8 h.az nL x hx;omega,fun x hx e=>by have:=G8 h.cs nL x hx;omega,fun x hx e=>by have:=G8 h.ls nL x hx;omega,fun x hx e=>by have:=G8 h.log nL x hx;omega⟩
structure CT (X6 X11 X13:Nat) (b part m:Bk) (q q6 pm:Bp) (w u:World):Prop where
 z6:Z6b X6 b q u
 z11:Z6b X11 part q6 u
 z13:Z6b X13 m pm u
 kb:Aq u b q
 kp:Aq u part q6
 km:Aq u m pm
 ob:Wq q X13
 op:Wq q6 X13
 hb:BW w u
 hX:w.heap.size≤X13
 n6:X13≠X6
 n11:X13≠X11
theorem CT.below {X6 X11 X13:Nat} {b part m:Bk} {q q6 pm:Bp} {w u u':World} (h:CT X6 X11 X13 b part m q q6 pm w u) (k:BW u u'):CT X6 X11 X13 b part m q q6 pm w u' :=
 ⟨Z6.below h.z6 k,Z6.below h.z11 k,Z6.below h.z13 k,h.kb.below k,h.kp.below k,h.km.below k,h.ob,h.op,next h.hb k,h.hX,h.n6,h.n11⟩
theorem CT.put {X6 X11 X13 n:Nat} {b part m m2:Bk} {q q6 pm pm2:Bp} {w u:World} (h:CT X6 X11 X13 b part m q q6 pm w u) (hk:Aq u m2 pm2) (hf:FrB pm2 n) (hn:X13<n) :
  CT X6 X11 X13 b part m2 q q6 pm2 w ((((((u.setCell ⟨X13,0,none⟩ (.int .i64 m2.today)).setCell ⟨X13,1,none⟩ (.slice pm2.o m2.off.length pm2.oc)).setCell ⟨X13,2,none⟩ (.slice pm2.a m2.az.length pm2.ac)).setCell ⟨X13,3,none⟩ (.slice pm2.c m2.cs.length pm2.cc)).setCell ⟨X13,4,none⟩ (.slice pm2.l m2.ls.length pm2.lc)).setCell ⟨X13,5,none⟩ (.slice pm2.g m2.log.length pm2.gc)) :=
 ⟨Z6.far6 h.z6 h.n6 _ _ _ _ _ _,Z6.far6 h.z11 h.n11 _ _ _ _ _ _,(((((Z6.set0 h.z13 _).set1 _).set2 _).set3 _).set4 _).set5 _,h.kb.put6 h.ob _ _ _ _ _ _,h.kp.put6 h.op _ _ _ _ _ _,hk.put6 (Q4 hf hn) _ _ _ _ _ _,h.ob,h.op,Ax h.hX h.hb _ _ _ _ _ _,h.hX,h.n6,h.n11⟩
theorem Acy (a:Option Addr) (len cap:Nat) (zs:List Int) (w:World) (hr:pZ .u8 w a len cap zs) (hE:E0 w) (hg:R4 w) :
  Calls prog 8 #[.slice a len cap] w fun e w'=>e=.returned (.bool true)∧BW w w':=by
 by_cases hbig:(1048576:Int)<(len:Int)
 ·have hdec:decide ((1048576:Int)<(len:Int))=true:=decide_eq_true hbig
  clear hE hg
  go_enter func8,ntmps8
  go_wp2_with fail
  refine (wP _ _ _ _).mono ?_;rintro e w1 ⟨rfl,hw1⟩;rw [hw1,hdec];clear hw1;go_wp2;go_ret;exact ⟨rfl,bR⟩
 have hn:len≤1048576:=by omega
 have hdec:decide ((1048576:Int)<(len:Int))=false:=decide_eq_false hbig;have HE:Hid (E0 w):=hE;have HG:Hid (R4 w):=hg;have HRW:Hid (pZ .u8 w a len cap zs):=hr;have HN:Hid (len≤1048576):=hn;clear hE hg
 go_enter func8,ntmps8
 go_wp2_with fail
 refine (wP _ _ _ _).mono ?_;rintro e w1 ⟨rfl,hw1⟩;rw [hw1,hdec];clear hw1 w1 hdec hbig;go_wp2_with fail
 refine (Ab5 _ _ _ _ _ hr hn).mono ?_;rintro e u1 ⟨ao,c,xs,l,rfl,hok,hxl,hll,hx,p1⟩;have HOK:Hid (Sx 9000 xs=true):=hok;have HX1:Hid (Aw u1 ao xs):=hx;have B1:Hid (BW w u1):=p1;have HXL:Hid (xs.length≤10):=hxl
 have HLS:Hid (∀ r ∈ K2 l,r.length<1048576):=fun r h=>by have:=Aba l r h;omega
 have HIR:Hid (Calls prog 23 #[.int .i64 9000,.slice ao xs.length c,.string ⟨l.toArray⟩] u1 (AlR 9000 xs (K2 l) u1)):=Aci 9000 ao c xs l u1 hx (by omega) hll (dK _ _ HE.o (p1.mono HE.o.size))
 have HSR:Hid (∀ u,BW u1 u→Calls prog 22 #[.int .i64 9000,.slice ao xs.length c,.string ⟨l.toArray⟩] u (SlR 9000 xs (K2 l) u)):=fun u h=>Ach 9000 ao c xs l u (HX1.o.below h) (by have:=HXL.o;omega) hll
 obtain ⟨LN,hLN⟩:∃ x,K2 l=x:=⟨_,rfl⟩;rw [hLN] at HIR HSR HLS;obtain ⟨xn,hxn⟩:∃ x,xs.length=x:=⟨_,rfl⟩;have HXN:Hid (xs.length=xn):=hxn;rw [hxn] at HIR HSR ⊢;clear hLN hxn hr hn hok hx hxl p1;go_wp2_with fail
 refine Calls.mono HIR.o ?_;rintro e u2 ⟨b,n,q,rfl,hal,hj,o2,p2⟩
 simp only [C5]
 have HAL:Hid (Aa7 9000 xs LN b n):=hal;have HJ:Hid (JW b):=hj;obtain ⟨X6,hX6⟩:∃ X,u2.heap.size=X:=⟨_,rfl⟩;obtain ⟨W2,hW2⟩:∃ W,W=u2.alloc (.cells #[.int .i64 b.today,.slice q.o b.off.length q.oc,.slice q.a b.az.length q.ac,.slice q.c b.cs.length q.cc,.slice q.l b.ls.length q.lc,.slice q.g b.log.length q.gc] 31):=⟨_,rfl⟩
 have b2:BW u2 W2:=by rw [hW2];exact bR.alloc nL _
 have Z2:Hid (Z6b X6 b q W2):=by rw [Hid,hW2,← hX6];exact Z6.new u2 _ _ _ _ _ _ _
 have O2:Hid (Gc u1.heap.size b q W2):=o2.below b2;have B12:Hid (BW u1 W2):=next p2 b2;have EQ2:Hid _:=hW2;have EX2:Hid _:=hX6;have HSP:=HSR.o W2 B12.o;have HSP2:Hid (Calls prog 22 #[.int .i64 9000,.slice ao xn c,.string ⟨l.toArray⟩] W2 (SlR 9000 xs LN W2)):=HSP;clear hal hj o2 p2 b2 hW2 hX6 HIR HSP;go_upto_region 5 with fail
 rw [← EQ2.o,EX2.o];clear EQ2 EX2;go_wp2_with fail
 refine Calls.mono HSP2.o ?_;rintro e u3 ⟨b3,n3,q3,rfl,hal3,hb3,p3⟩
 simp only [C5]
 obtain ⟨e1,e2⟩:=Acf HAL.o hal3;subst e1;subst e2;obtain ⟨X8,hX8⟩:∃ X,u3.heap.size=X:=⟨_,rfl⟩;obtain ⟨W3,hW3⟩:∃ W,W=u3.alloc (.cells #[.int .i64 b.today,.slice q3.o b.off.length q3.oc,.slice q3.a b.az.length q3.ac,.slice q3.c b.cs.length q3.cc,.slice q3.l b.ls.length q3.lc,.slice q3.g b.log.length q3.gc] 31):=⟨_,rfl⟩
 have b3':BW u3 W3:=by rw [hW3];exact bR.alloc nL _
 have Z3:Hid (Z6b X8 b q3 W3):=by rw [Hid,hW3,← hX8];exact Z6.new u3 _ _ _ _ _ _ _
 have K3:Hid (Aq W3 b q3):=hb3.below b3';have B23:Hid (BW W2 W3):=next p3 b3';have Z23:Hid (Z6b X6 b q W3):=Z6.below Z2.o B23.o;have O23:Hid (Gc u1.heap.size b q W3):=O2.o.below B23.o;have HSM:Hid (D0 b):=(xW HJ.o).sm
 have HS1:Hid (Calls prog 32 #[C5 b q,C5 b q3] W3 fun e w'=>e=.returned (.bool true)∧BW W3 w'):=mU b q q3 W3 O23.o.at K3.o HSM.o
 unfold C5 at HS1;have B3:Hid (BW u1 W3):=next B12.o B23.o;have EQ3:Hid _:=hW3;have EX3:Hid _:=hX8;clear hal3 hb3 p3 b3' hW3 hX8 HSP2 HSR B12 B23 Z2 O2;go_upto_region 6 with fail
 rw [← EQ3.o,EX3.o];clear EQ3 EX3;obtain ⟨c0,c1,c2,c3,c4,c5,-,-,-,-,-,-⟩:=Z23.o;obtain ⟨d0,d1,d2,d3,d4,d5,-,-,-,-,-,-⟩:=Z3.o
 have hcc:(n != n)=false:=by simp
 go_wp2_with fail
 refine Calls.mono HS1.o ?_;rintro e u4 ⟨rfl,p4⟩;have Z4:Hid (Z6b X6 b q u4):=Z6.below Z23.o p4;have O4:Hid (Gc u1.heap.size b q u4):=O23.o.below p4;have B4:Hid (BW u1 u4):=next B3.o p4;have HR4:Hid (pZ .u8 u4 a len cap zs):=wZ HRW.o (next B1.o B4.o);have HR4d:Hid (pZ .u8 u4.drew a len cap zs):=wZ HR4.o (bR.drew);clear c0 c1 c2 c3 c4 c5 d0 d1 d2 d3 d4 d5 p4 HS1 Z23 Z3 O23 K3 B3 hcc HRW;obtain ⟨m,hm⟩:∃ m,b.log.length=m:=⟨_,rfl⟩;have HM:Hid (b.log.length=m):=hm
 have hm6:m≤600:=by rw [← hm];exact HJ.o.log
 have c5:=Z4.o.c5;rw [hm] at c5
 have hmz:¬ ((m:Int)+1=0):=by omega
 have hmb:((m:Int)+1 == 0)=false:=by simpa using hmz
 have hwr:IntKind.i64.wrap ((m:Int)+1)=(m:Int)+1:=by rw [IntKind.wrap_i64];omega
 clear hm;go_upto_region 8 with fail
 go_cut [10] (fun v wz=>∃ k:Nat,v=.int .i64 k∧k≤m∧BW u4 wz)
 case first =>
  have HC5:Hid (u4.cell? ⟨X6,5,none⟩=some (.slice q.g m q.gc)):=c5
  go_region_held3 (fun u=>u.cell? ⟨X6,5,none⟩=some (.slice q.g m q.gc)) (first | with_reducible exact HC5.o | exact HC5.o) ((first | (go_at_call 41;with_reducible refine Calls.mono (Acp _ _ _ _ _ HR4.o HN.o) ?_;rintro e v1 ⟨k,hk,rfl,hv⟩;subst hv) | (go_at_call 41;with_reducible refine Calls.mono (Acp _ _ _ _ _ HR4d.o HN.o) ?_;rintro e v1 ⟨k,hk,rfl,hv⟩;subst hv)))
  all_goals
   go_wp2_with fail
   go_meet
   exact ⟨k % (m+1),by congr 1,by have:=Nat.mod_lt k (show 0<m+1 by omega);omega,by first | exact bR | exact bR.drew | exact (bR.drew).drew⟩
 case rest =>
  obtain ⟨V,hV⟩:∃ x,x=wc:=⟨_,rfl⟩;subst hV;obtain ⟨k,rfl,hk,pV⟩:=hcut;have ZV:Hid (Z6b X6 b q V):=Z6.below Z4.o pV;have OV:Hid (Gc u1.heap.size b q V):=O4.o.below pV;have BV:Hid (BW u1 V):=next B4.o pV
  obtain ⟨A,C,hsl,hta⟩:=Aca OV.o.log rfl k (by rw [HM.o];exact hk)
  rw [HM.o] at hsl
  have hlk:(b.log.take k).length=k:=by rw [List.length_take,HM.o];omega
  have HSH:Hid (∀ r ∈ b.log,r.length<1048576):=fun r h=>by
   have h2:=Acv HOK.o HAL.o r h;exact HLS.o r h2
  have HBA:=Ab0 9000 ao c xs A C (b.log.take k) V (HX1.o.below BV.o) (by have:=HXL.o;omega) (hta V OV.o.at.log) (by omega) (fun r h=>HSH.o r (List.mem_of_mem_take h)) (dK _ _ HE.o ((next B1.o BV.o).mono HE.o.size))
  rw [HXN.o,hlk] at HBA;have HBA2:Hid (Calls prog 14 #[.int .i64 9000,.slice ao xn c,.slice A k C] V (AlR 9000 xs (b.log.take k) V)):=HBA;have HK:Hid (k≤m):=hk;have HTA:Hid (∀ u',Bh u' q.g b.log→Bh u' A (b.log.take k)):=hta;have HTL:Hid ((b.log.take k).length=k):=hlk;have c5:=ZV.o.c5;rw [HM.o] at c5;clear hta hlk HBA hk pV Z4 O4 B4 HR4 HR4d;go_wp2_with fail
  refine Calls.mono HBA2.o ?_;rintro e u6 ⟨part,done,q6,rfl,hal6,hj6,o6,p6⟩
  simp only [C5]
  obtain ⟨e1,e2,hdid⟩:=Acw HOK.o HAL.o (by rw [HM.o];exact HK.o) hal6
  subst e1;have HPL:Hid (part.log=b.log.take k):=e2;have HDD:Hid (Did F0 part (b.log.drop k) b):=hdid;have HJ6:Hid (JW part):=hj6;obtain ⟨X11,hX11⟩:∃ X,u6.heap.size=X:=⟨_,rfl⟩;obtain ⟨W11,hW11⟩:∃ W,W=u6.alloc (.cells #[.int .i64 part.today,.slice q6.o part.off.length q6.oc,.slice q6.a part.az.length q6.ac,.slice q6.c part.cs.length q6.cc,.slice q6.l part.ls.length q6.lc,.slice q6.g part.log.length q6.gc] 31):=⟨_,rfl⟩
  have b11:BW u6 W11:=by rw [hW11];exact bR.alloc nL _
  have Z11:Hid (Z6b X11 part q6 W11):=by rw [Hid,hW11,← hX11];exact Z6.new u6 _ _ _ _ _ _ _
  have O11:Hid (Gc V.heap.size part q6 W11):=o6.below b11;have BV11:Hid (BW V W11):=next p6 b11;obtain ⟨X13,hX13⟩:∃ X,W11.heap.size=X:=⟨_,rfl⟩;obtain ⟨W13,hW13⟩:∃ W,W=W11.alloc (.cells #[.int .i64 part.today,.slice q6.o part.off.length q6.oc,.slice q6.a part.az.length q6.ac,.slice q6.c part.cs.length q6.cc,.slice q6.l part.ls.length q6.lc,.slice q6.g part.log.length q6.gc] 31):=⟨_,rfl⟩
  have b13:BW W11 W13:=by rw [hW13];exact bR.alloc nL _
  have HCT:Hid (CT X6 X11 X13 b part part q q6 q6 w W13):=by
   have h1:=Z6.lt ZV.o;have h2:=BV11.o.size;have h3:=Z6.lt Z11.o;have h4:=(next B1.o BV.o).size
   refine ⟨Z6.below (Z6.below ZV.o BV11.o) b13,Z6.below Z11.o b13,?_,(OV.o.at.below BV11.o).below b13,O11.o.at.below b13,O11.o.at.below b13,Abz OV.o (by omega),Abz O11.o (by omega),next (next (next B1.o BV.o) BV11.o) b13,by omega,by omega,by omega⟩
   rw [hW13,← hX13];exact Z6.new W11 _ _ _ _ _ _ _
  have EQ11:Hid _:=hW11;have EX11:Hid _:=hX11;have EQ13:Hid _:=hW13;have EX13:Hid _:=hX13;clear hal6 hj6 o6 p6 b11 b13 hW11 hX11 hW13 hX13 HBA2 c5 e2 hdid;go_upto_region 10 with fail
  rw [← EQ11.o,EX11.o];obtain ⟨c0,c1,c2,c3,c4,c5,-,-,-,-,-,-⟩:=Z11.o;go_upto_region 11 with fail
  rw [← EQ13.o,EX13.o];clear EQ11 EX11 EQ13 EX13 c0 c1 c2 c3 c4 c5 Z11 O11 BV11 ZV OV BV;go_wp2
  go_loopw [14] (fun i wr=>∃ (j:Nat) (mb:Bk) (pm:Bp),k≤j∧j≤m∧i=.int .i64 (j:Int)∧Did F0 mb (b.log.drop j) b∧JW mb∧CT X6 X11 X13 b part mb q q6 pm w wr) (fun i _=>m - (intOf i).toNat)
  case atStart=>exact ⟨k,part,q6,nL,HK.o,rfl,HDD.o,HJ6.o,HCT.o⟩
  case round =>
   obtain ⟨j,mb,pm,hkj,hjm,rfl,hdj,hjw,hct⟩:=hrel;have HCR:Hid (CT X6 X11 X13 b part mb q q6 pm w wr):=hct;have HDJ:Hid (Did F0 mb (b.log.drop j) b):=hdj;have HJM:Hid (JW mb):=hjw;clear hdj hjw hct HDD HJ6 HCT;have z5:=HCR.o.z6.c5;rw [HM.o] at z5
   by_cases hlt:j<m
   ·have hji:(j:Int)<(m:Int):=by omega
    have hjl:j<b.log.length:=by rw [HM.o];exact hlt
    obtain ⟨gb,off,hqg,hcell⟩:=Acr HCR.o.kb.log hjl;have hgb:gb<wr.heap.size:=World.block_lt_of_cell? wr _ hcell;rw [hqg] at z5
    have HDC:Hid (∀ u,BW wr u→Calls prog 30 #[.agg #[.int .i64 mb.today,.slice pm.o mb.off.length pm.oc,.slice pm.a mb.az.length pm.ac,.slice pm.c mb.cs.length pm.cc,.slice pm.l mb.ls.length pm.lc,.slice pm.g mb.log.length pm.gc],.string ⟨(Al b.log j).toArray⟩] u (Aax mb (Al b.log j) u)):=fun u h=>vM mb pm (Al b.log j) u (HCR.o.km.below h) HJM.o (dK _ _ HE.o ((next HCR.o.hb h).mono HE.o.size)) (HG.o.below (next HCR.o.hb h)) (HSH.o _ (F7 hjl))
    have HNX:Hid (∀ r,D9 F0 mb (Al b.log j) r→r.2=0∧Did F0 r.1 (b.log.drop (j+1)) b∧JW r.1):=fun r h=>by
     obtain ⟨h1,h2⟩:=Ack hjl HDJ.o h;obtain ⟨x,y⟩:=r
     simp only at h1 h2
     subst h1;exact ⟨rfl,h2,Acd mb _ x (HSH.o _ (F7 hjl)) HJM.o h (iM _ _ h)⟩
    obtain ⟨ln,hln⟩:∃ x,Al b.log j=x:=⟨_,rfl⟩;rw [hln] at hcell HDC HNX
    have HSS:Hid (∀ u,BW wr u→u.cell? ⟨X13,0,none⟩=some (.int .i64 mb.today)∧u.cell? ⟨X13,1,none⟩=some (.slice pm.o mb.off.length pm.oc)∧u.cell? ⟨X13,2,none⟩=some (.slice pm.a mb.az.length pm.ac)∧u.cell? ⟨X13,3,none⟩=some (.slice pm.c mb.cs.length pm.cc)∧u.cell? ⟨X13,4,none⟩=some (.slice pm.l mb.ls.length pm.lc)∧u.cell? ⟨X13,5,none⟩=some (.slice pm.g mb.log.length pm.gc)∧u.cell? ⟨X6,5,none⟩=some (.slice (some ⟨gb,off,none⟩) m q.gc)∧u.cell? ⟨gb,off+j,none⟩=some (.string ⟨ln.toArray⟩)):=fun u h=>by
     have z:=Z6.below HCR.o.z13 h;exact ⟨z.c0,z.c1,z.c2,z.c3,z.c4,z.c5,(h.cell (p:=⟨X6,5,none⟩) (Z6.lt HCR.o.z6)).trans z5,(h.cell (p:=⟨gb,off+j,none⟩) hgb).trans hcell⟩
    have k0:BW wr wr:=bR;have HP1:Hid (BW wr wr.drew):=bR.drew;have HP2:Hid (Below wr.heap.size wr (wr.alloc (.cells #[.int .i64 0,.slice none 0 0,.slice none 0 0,.slice none 0 0,.slice none 0 0,.slice none 0 0] 31)).drew):=((Below.refl wr.heap.size wr).alloc nL _).drew;clear hln hqg hcell;go_upto_region 14 with fail
    go_cut [15,16] (fun v15 v16 wc=>∃ (Y:Nat) (b2:Bk) (q2:Bp) (code:Int),v15=.pointer (some ⟨Y,0,none⟩)∧v16=.int .i64 code∧D9 F0 mb ln (b2,code)∧ZQ Y b2 q2 wc∧Aq wc b2 q2∧FrB q2 wr.heap.size∧BW wr wc)
    case first =>
     go_region_held3 (fun u=>u.cell? ⟨X13,0,none⟩=some (.int .i64 mb.today)∧u.cell? ⟨X13,1,none⟩=some (.slice pm.o mb.off.length pm.oc)∧u.cell? ⟨X13,2,none⟩=some (.slice pm.a mb.az.length pm.ac)∧u.cell? ⟨X13,3,none⟩=some (.slice pm.c mb.cs.length pm.cc)∧u.cell? ⟨X13,4,none⟩=some (.slice pm.l mb.ls.length pm.lc)∧u.cell? ⟨X13,5,none⟩=some (.slice pm.g mb.log.length pm.gc)∧u.cell? ⟨X6,5,none⟩=some (.slice (some ⟨gb,off,none⟩) m q.gc)∧u.cell? ⟨gb,off+j,none⟩=some (.string ⟨ln.toArray⟩)) (first | with_reducible exact HSS.o _ hb2 | with_reducible exact HSS.o _ k0 | with_reducible exact HSS.o _ k0.drew | with_reducible exact HSS.o _ (k0.alloc nL _) | with_reducible exact HSS.o _ ((k0.alloc nL _).drew) | with_reducible exact HSS.o _ (hb2.alloc hb2.size _) | with_reducible exact HSS.o _ (Ax nL hb2 _ _ _ _ _ _)) ((first
      | (go_at_call 30;(with_reducible refine Calls.mono (HDC.o wr.drew HP1.o) ?_);rintro e u2 ⟨⟨b2,code⟩,q2,hdo,rfl,how,bb⟩;have hb2:BW wr u2:=Below.trans ((Below.refl wr.heap.size wr).drew) bb;unfold C5;simp only)
      | (go_at_call 30;(with_reducible refine Calls.mono (HDC.o (wr.alloc (.cells #[.int .i64 0,.slice none 0 0,.slice none 0 0,.slice none 0 0,.slice none 0 0,.slice none 0 0] 31)).drew HP2.o) ?_);rintro e u2 ⟨⟨b2,code⟩,q2,hdo,rfl,how,bb⟩;obtain ⟨hzy,hb2⟩:=nZ bb;have HZY:Hid _:=hzy;obtain ⟨g0,g1,g2,g3,g4,g5,m0,m1,m2,m3,m4,m5⟩:=hzy;unfold C5;simp only)))
     ·go_wp2_with fail
      go_meet;have h1:=hb2.alloc hb2.size (.cells #[.int .i64 b2.today,.slice q2.o b2.off.length q2.oc,.slice q2.a b2.az.length q2.ac,.slice q2.c b2.cs.length q2.cc,.slice q2.l b2.ls.length q2.lc,.slice q2.g b2.log.length q2.gc] 31);have hfr:=Acc how;exact ⟨u2.heap.size,b2,q2,code,rfl,rfl,hdo,Z6.new u2 _ _ _ _ _ _ _,how.at.below (bR.alloc nL _),⟨hfr.o,hfr.a,hfr.c,hfr.l,hfr.g⟩,h1⟩
     ·go_wp2_with fail
      go_meet
      have hf2:FrB q2 (wr.heap.size+1):=by simpa using Acc how
      exact ⟨wr.heap.size,b2,q2,code,rfl,rfl,hdo,(((((HZY.o.set0 _).set1 _).set2 _).set3 _).set4 _).set5 _,how.at.put6 (Q4 hf2 (Nat.lt_succ_self _)) _ _ _ _ _ _,⟨Ey hf2.o (Nat.le_succ _),Ey hf2.a (Nat.le_succ _),Ey hf2.c (Nat.le_succ _),Ey hf2.l (Nat.le_succ _),Ey hf2.g (Nat.le_succ _)⟩,Ax nL hb2 _ _ _ _ _ _⟩
    case rest =>
     obtain ⟨U,hU⟩:∃ x,x=wc:=⟨_,rfl⟩;subst hU;obtain ⟨Y,b2,q2,code,rfl,rfl,hdo,hzy,hbk,hfr,hbU⟩:=hcut;have HCU:Hid (CT X6 X11 X13 b part mb q q6 pm w U):=HCR.o.below hbU;have HXL13:Hid (X13<wr.heap.size):=Z6.lt HCR.o.z13;obtain ⟨x0,x1,x2,x3,x4,x5,y0,y1,y2,y3,y4,y5⟩:=HCU.o.z13;obtain ⟨h0,d2,j2⟩:=HNX.o _ hdo
     simp only at h0
     subst h0;have HJ2:Hid (JW b2):=j2;have HD2:Hid (Did F0 b2 (b.log.drop (j+1)) b):=d2;have HA2:Hid _:=HCU.o.put hbk hfr HXL13.o;obtain ⟨n0,n1,n2,n3,n4,n5,-,-,-,-,-,-⟩:=hzy;clear hbU HDC HSS HP1 HP2 k0 j2 d2 hdo hbk hfr HNX;go_wp2
     go_roundw
     case rel=>exact ⟨j+1,b2,q2,by omega,by omega,by go_num,HD2.o,HJ2.o,HA2.o⟩
     case measure=>simp [intOf];omega
   ·have hji:¬ (j:Int)<(m:Int):=by omega
    have hje:j=m:=by omega
    subst hje
    have hbm:b=mb:=by
     have h:=HDJ.o
     rw [List.drop_of_length_le (by rw [HM.o];exact nL),Did] at h
     exact h
    subst hbm
    have HSB:Hid (∀ z:W7 wr,Calls prog 32 #[C5 b pm,C5 b q] z.x fun e w'=>e=.returned (.bool true)∧Below z.x.heap.size z.x w'):=fun z=>mU b pm q z.x (HCR.o.km.below z.h) (HCR.o.kb.below z.h) HSM.o
    have HST:Hid (∀ z:W7 wr,Calls prog 42 #[.slice q6.g k q6.gc,.slice A k C] z.x fun e w'=>e=.returned (.bool true)∧Below z.x.heap.size z.x w'):=fun z=>by
     have h1:Bh z.x q6.g part.log:=HCR.o.kp.log.below z.h;have h2:Bh z.x A (b.log.take k):=HTA.o _ (HCR.o.kb.log.below z.h);rw [HPL.o] at h1
     have h3:=uN q6.g A q6.gc C (b.log.take k) (b.log.take k) z.x h1 h2 (by have:=HTL.o;omega) (by have:=HTL.o;omega)
     rw [HTL.o,decide_eq_true rfl] at h3;exact h3
    unfold C5 at HSB;obtain ⟨x0,x1,x2,x3,x4,x5,-,-,-,-,-,-⟩:=HCR.o.z13;obtain ⟨y0,y1,y2,y3,y4,y5,-,-,-,-,-,-⟩:=HCR.o.z6;have w5:=HCR.o.z11.c5;rw [HPL.o,HTL.o] at w5;rw [HM.o] at x5 y5;have hne:=K0 wr;have o0:=As x0;have o1:=As x1;have o2:=As x2;have o3:=As x3;have o4:=As x4;have o5:=As x5;have o6:=As y0;have o7:=As y1;have o8:=As y2;have o9:=As y3;have o10:=As y4;have o11:=As y5;have o12:=As w5
    have hkk:((k:Int) == (k:Int))=true:=by simp
    have HB9:Hid (BW w wr):=HCR.o.hb;rw [HM.o] at HSB;clear x0 x1 x2 x3 x4 x5 y0 y1 y2 y3 y4 y5 w5 hji hlt hkj;go_upto_region 18 with fail
    refine B6 (by kernel_rfl) (by kernel_rfl) ?_
    repeat (go_big_quiet_step (first | exact F8 (HSB.o _) | exact F8 (HST.o _)))
    refine wpQuiet_nil ?_;rintro _ ⟨⟨w9,b9⟩,hw9⟩;subst hw9;go_wp2;go_ret;exact ⟨rfl,HB9.o.trans (b9.mono HB9.o.size)⟩
end Go.Proofs.YtomiclakhjncbaaGreatDoor.Kb
