import Derived.Test.YtomiclakhjncbaaGreatDoorJX0a
import Derived.Test.YtomiclakhjncbaaGreatDoorKXKbExpS
import Derived.Test.YtomiclakhjncbaaGreatDoorJX7a
import Derived.Test.YtomiclakhjncbaaGreatDoorJX2a
import Derived.Test.YtomiclakhjncbaaGreatDoorJX2b
namespace Go.Proofs.YtomiclakhjncbaaGreatDoor.Kb
open Go.RowKit Go.Proofs.Tryz
set_option maxRecDepth 100000
set_option maxHeartbeats 12800000
theorem jA {base g:Nat} {b:Bk} {q:Bp} {u:World} (h:Ih base b q u) (hg:q.has g):base≤g∧g<u.heap.size:=by
 rcases hg with e | e | e | e | e
 ·exact h.off.lt g (by rw [e];rfl)
 ·exact h.az.lt g (by rw [e];rfl)
 ·exact h.cs.lt g (by rw [e];rfl)
 ·exact h.ls.lt g (by rw [e];rfl)
 ·exact h.log.lt g (by rw [e];rfl)
theorem qB {b:Bk} (h:bX b) (hd:fM b):Ej b∧∀ l ∈ b.log,l.length≤1048576 :=
 ⟨⟨h.1.1,h.2,fun a ha=>(hd.az.2 a ha).2.2.1,fun c hc=>hd.cs.2 c hc,fun x hx=>hd.ls.2 x hx,hd.td⟩,fun l hl=>by have:=jG hl;have:=h.1.2;omega⟩
theorem qR {A:Nat→Addr} (b:Bk) (p:Bp) (w:World) (w0:Aq w b p∧fM b) (hE:E1 w.heap.size A w) :
  Calls prog 5 #[C5 b p] w fun e w'=>e=.returned (.bool true)∧BW w w':=by
 obtain ⟨hx,hd⟩:=w0;obtain ⟨W,hW⟩:∃ W,W=w.alloc (.cells #[.int .i64 b.today,.slice p.o b.off.length p.oc,.slice p.a b.az.length p.ac,.slice p.c b.cs.length p.cc,.slice p.l b.ls.length p.lc,.slice p.g b.log.length p.gc] 50):=⟨_,rfl⟩
 have bW:BW w W:=by rw [hW];exact bR.alloc nL _
 have s1:S6 w.heap.size b p W:=by rw [hW];exact S6.new w b p _
 have HSZ:Hid (Calls prog 24 #[C5 b p,.int .i64 1048576] W fun e w'=>∃ n:Int,e=.returned (.int .i64 n)∧(0≤n→bX b)∧BW W w'):=Vc b p W (hx.below bW) hd
 have HTO:Hid (∀ u,BW w u→D0 b→Calls prog 26 #[C5 b p] u fun e w'=>∃ q,e=.returned (C5 b q)∧Ih u.heap.size b q w'∧BW u w'):=fun u h hn=>aZ b p u (hx.below h) hn
 have HBD:Hid (fM b):=hd
 have HE:Hid (∀ u,BW w u→E1 w.heap.size A u):=fun u h=>Gx _ _ hE h
 have HW:Hid _:=hW;have HBW:Hid (BW w W):=bW;have HS:Hid (S6 w.heap.size b p W):=s1;clear hW hx hd bW hE;obtain ⟨c0,c1,c2,c3,c4,c5⟩:=s1
 have HV:∀ (b:Bk) (q:Bp),Hid (C5 b q=.agg #[.int .i64 b.today,.slice q.o b.off.length q.oc,.slice q.a b.az.length q.ac,.slice q.c b.cs.length q.cc,.slice q.l b.ls.length q.lc,.slice q.g b.log.length q.gc]):=fun b q=>rfl
 rw [(HV b p).out]
 go_enter func5,ntmps5
 go_upto_region 2 with fail
 rw [← HW.o];clear HW;go_wp2_with fail
 refine Calls.mono HSZ.o ?_;rintro e u1 ⟨n0,rfl,hg,b1⟩;have HB1:Hid (BW w u1):=next HBW.o b1;have HS1:Hid (S6 w.heap.size b p u1):=HS.o.below b1;clear c0 c1 c2 c3 c4 c5 b1 HBW HS HSZ
 by_cases hneg:n0<0
 ·go_wp2
  go_ret;exact ⟨rfl,HB1.o⟩
 have HLG:=qB (hg (by omega)) HBD.o
 have HP:Hid (Ej b):=HLG.1;have HG:Hid (∀ l ∈ b.log,l.length≤1048576):=HLG.2;have HN:Hid (D0 b):=HLG.1.sm;clear hg HLG;obtain ⟨c0,c1,c2,c3,c4,c5⟩:=HS1.o;go_wp2_with fail
 refine Calls.mono (HTO.o _ HB1.o HN.o) ?_;rintro e u2 ⟨q2,rfl,o2,b2⟩;have HB2:Hid (BW w u2):=next HB1.o b2;have HS2:Hid (S6 w.heap.size b p u2):=HS1.o.below b2;have HSP:Hid (Calls prog 25 #[C5 b q2] u2 (SxR b u2)):=J4 b q2 u2 o2.at HP.o;clear c0 c1 c2 c3 c4 c5 b2 o2 HB1 HS1;go_wp2_with fail
 refine Calls.mono HSP.o ?_;rintro e u3 ⟨n,b',ps,rfl,hal,hbk,p3⟩;rw [(HV b' ps).out];have HAL:Hid (Ka (Fg Fu) b (Lg b) b' n):=hal;obtain ⟨X8,hX8⟩:∃ X,u3.heap.size=X:=⟨_,rfl⟩;obtain ⟨W8,hW8⟩:∃ W,W=u3.alloc (.cells #[.int .i64 b'.today,.slice ps.o b'.off.length ps.oc,.slice ps.a b'.az.length ps.ac,.slice ps.c b'.cs.length ps.cc,.slice ps.l b'.ls.length ps.lc,.slice ps.g b'.log.length ps.gc] 31):=⟨_,rfl⟩
 have b8:BW u3 W8:=by rw [hW8];exact bR.alloc nL _
 have Z8:Hid (ZQ X8 b' ps W8):=by rw [Hid,hW8,← hX8];exact Z6.new u3 _ _ _ _ _ _ _
 have K8:Hid (Aq W8 b' ps):=hbk.below b8;have B8:Hid (BW w W8):=next (next HB2.o p3) b8;have S8:Hid (S6 w.heap.size b p W8):=HS2.o.below (next p3 b8)
 have V8:Hid (∀ u,BW W8 u→BW w u):=fun u h=>next B8.o h
 have S8U:Hid (∀ u,BW W8 u→S6 w.heap.size b p u):=fun u h=>S8.o.below h
 have Z8U:Hid (∀ u,BW W8 u→ZQ X8 b' ps u):=fun u h=>Z8.o.below h
 have EQ8:Hid _:=hW8;have EX8:Hid _:=hX8;clear hal hbk p3 b8 hW8 hX8 HSP HB2 HS2;go_upto_region 6 with fail
 rw [← EQ8.o,EX8.o];clear EQ8 EX8;obtain ⟨c0,c1,c2,c3,c4,c5⟩:=S8.o;go_wp2_with fail
 refine Calls.mono (HTO.o _ B8.o HN.o) ?_;rintro e u4 ⟨q4,rfl,o4,b4⟩;rw [(HV b q4).out];obtain ⟨V,hV⟩:∃ V,V=u4.alloc (.cells #[.int .i64 b.today,.slice q4.o b.off.length q4.oc,.slice q4.a b.az.length q4.ac,.slice q4.c b.cs.length q4.cc,.slice q4.l b.ls.length q4.lc,.slice q4.g b.log.length q4.gc] 31):=⟨_,rfl⟩
 have bV:BW u4 V:=by rw [hV];exact bR.alloc nL _
 obtain ⟨X,hX⟩:∃ x,u4.heap.size=x:=⟨_,rfl⟩
 have HY:Hid (S6 X b q4 V):=by rw [Hid,hV,← hX];exact S6.new u4 b q4 _
 obtain ⟨base4,hb4⟩:∃ x,W8.heap.size=x:=⟨_,rfl⟩
 have HOB:Hid (Ih base4 b q4 V):=by rw [Hid,← hb4];exact o4.below bV
 have HGB:Hid (∀ g,q4.has g→base4≤g∧g<X):=fun g hg=>by rw [← hb4,← hX];exact jA o4 hg
 have HB4:Hid (BW W8 V):=next b4 bV
 have HLV:Hid (W8.heap.size=base4∧base4≤X∧X<V.heap.size):=⟨hb4,by rw [← hb4,← hX];exact b4.size,HY.o.lt⟩
 have HV0:Hid _:=hV;have HXE:Hid _:=hX;have HIM:Hid (Calls prog 27 #[C5 b q4] V (IxR b V)):=Oj b q4 V HOB.o.at HP.o HG.o (HE.o V (V8.o V HB4.o));rw [(HV b q4).out] at HIM;clear b4 bV o4 hV hb4 c0 c1 c2 c3 c4 c5 hX;go_upto_region 7 with fail
 rw [← HV0.o,HXE.o];clear HV0 HXE;obtain ⟨d0,d1,d2,d3,d4,d5⟩:=HY.o;go_wp2_with fail
 refine Calls.mono HIM.o ?_;rintro e u6 ⟨n',bb,q,rfl,hai,hj,how,p6⟩;obtain ⟨hbb,hnn⟩:=Ns hai HAL.o
 have HALF:Hid (Ka (Fg Fu) b (Lg b) bb n'):=by rw [hbb,hnn];exact HAL.o
 subst hbb;subst hnn;rw [(HV bb q).out];have HSM:Hid (D0 bb):=hj.sm;obtain ⟨X12,hX12⟩:∃ X,u6.heap.size=X:=⟨_,rfl⟩;obtain ⟨W12,hW12⟩:∃ W,W=u6.alloc (.cells #[.int .i64 bb.today,.slice q.o bb.off.length q.oc,.slice q.a bb.az.length q.ac,.slice q.c bb.cs.length q.cc,.slice q.l bb.ls.length q.lc,.slice q.g bb.log.length q.gc] 31):=⟨_,rfl⟩
 have b12:BW u6 W12:=by rw [hW12];exact bR.alloc nL _
 have Z12:Hid (ZQ X12 bb q W12):=by rw [Hid,hW12,← hX12];exact Z6.new u6 _ _ _ _ _ _ _
 have O12:Hid (Gc V.heap.size bb q W12):=how.below b12
 have HROW:Hid (∀ r,Vf bb q r→∀ u u':World,u.grownBy u' r→LQ W8 X12 bb q u→LQ W8 X12 bb q u'):=oG how (by have:=HB4.o.size;exact this) (by rw [hX12];exact nL)
 have B12:Hid (BW W8 W12):=next (next HB4.o p6) b12;have Y12:Hid (S6 X b q4 W12):=HY.o.below (next p6 b12);have OB12:Hid (Ih base4 b q4 W12):=HOB.o.below (next p6 b12)
 have HTX:Hid (V.heap.size≤X12):=by rw [Hid,← hX12];exact p6.size
 have EQ12:Hid _:=hW12;have EX12:Hid _:=hX12;clear hai hj how p6 b12 hW12 hX12 HIM HY HOB HAL HB4 d0 d1 d2 d3 d4 d5;go_upto_region 8 with fail
 rw [← EQ12.o,EX12.o];clear EQ12 EX12
 have HEQ:Hid (∀ (u:World) (q':Bp),BW W8 u→Aq u bb q'→Calls prog 15 #[C5 bb q',C5 bb ps] u fun e w'=>e=.returned (.bool true)∧BW u w'):=fun u q' h hk=>Ow bb q' ps u hk (K8.o.below h) HSM.o
 unfold C5 at HEQ;obtain ⟨c0,c1,c2,c3,c4,c5,-,-,-,-,-,-⟩:=Z12.o;obtain ⟨d0,d1,d2,d3,d4,d5,-,-,-,-,-,-⟩:=Z8U.o W12 B12.o
 have hnn:((n':Int) != (n':Int))=false:=by simp
 go_wp2_with fail
 refine Calls.mono (HEQ.o W12 q B12.o O12.o.at) ?_;rintro e u7 ⟨rfl,p7⟩;have B7:Hid (BW W8 u7):=next B12.o p7;have Z7:Hid (ZQ X12 bb q u7):=Z12.o.below p7;have O7:Hid (Gc V.heap.size bb q u7):=O12.o.below p7;have Y7:Hid (S6 X b q4 u7):=Y12.o.below p7;have OB7:Hid (Ih base4 b q4 u7):=OB12.o.below p7;clear p7 c0 c1 c2 c3 c4 c5 d0 d1 d2 d3 d4 d5 Z12 O12 Y12 OB12 B12;go_upto_region 10 with fail
 go_cut [45] (fun v wc=>v=.bool false∧BW u7 wc)
 case first =>
  obtain ⟨c0,c1,c2,c3,c4,c5⟩:=S8U.o u7 B7.o;obtain ⟨d0,d1,d2,d3,d4,d5⟩:=Y7.o
  go_region_with (first
   | (go_at_call 26;refine Calls.mono (HTO.o _ ((V8.o u7 B7.o).trans ((bR.drew).mono ((V8.o u7 B7.o).size))) HN.o) ?_;rintro e u8 ⟨q8,rfl,o8,b8'⟩;have b8:BW u7 u8:=(bR.drew).trans b8';obtain ⟨f0,f1,f2,f3,f4,f5⟩:=Y7.o.below b8)
   | (go_at_call 15;refine Calls.mono (Ow b q4 q8 _ (OB7.o.at.below b8) o8.at HN.o) ?_;rintro e u9 ⟨rfl,b9⟩))
  all_goals
   go_wp2_with fail
   go_meet;exact ⟨rfl,next b8 b9⟩
 case rest =>
  obtain ⟨rfl,b9⟩:=hcut;have B9:Hid (BW W8 wc):=next B7.o b9;have Z9:Hid (ZQ X12 bb q wc):=Z7.o.below b9;have O9:Hid (Gc V.heap.size bb q wc):=O7.o.below b9;have Y9:Hid (S6 X b q4 wc):=Y7.o.below b9;have OB9:Hid (Ih base4 b q4 wc):=OB7.o.below b9;clear b9 B7 Z7 O7 Y7 OB7;obtain ⟨d0,d1,d2,d3,d4,d5⟩:=Y9.o
  have HMX:Hid (Calls prog 20 #[C5 b q4,.int .i64 1] wc fun e w'=>∃ n:Int,e=.returned (.int .i64 n)∧0≤n∧(Gc V.heap.size bb q w'∧LQ W8 X12 bb q w')):=T9 b q4 base4 wc OB9.o HN.o (fun u=>Gc V.heap.size bb q u∧LQ W8 X12 bb q u) (fun g hg u u' hgr hQ=>by
   have hg1:=HGB.o g hg;have hlv:=HLV.o;have htx:=HTX.o
   refine ⟨hQ.1.far hgr (by omega),hQ.2.1.grown hgr hQ.2.1.size (fun x hx=>by injection hx with hx;omega),hQ.2.2.grown hgr (fun e=>by injection e with e;omega)⟩) ⟨O9.o,B9.o,Z9.o⟩
  rw [(HV b q4).out] at HMX;clear B9 Z9 O9 OB9;go_wp2_with fail
  refine Calls.mono HMX.o ?_;rintro e u12 ⟨m9,rfl,hm9,o12,b12,z12⟩;have B12:Hid (BW W8 u12):=b12;have Z12:Hid (ZQ X12 bb q u12):=z12;have O12:Hid (Gc V.heap.size bb q u12):=o12
  have hm9':¬ m9<0:=by omega
  clear d0 d1 d2 d3 d4 d5 o12 b12 z12 Y9 hm9 HMX;obtain ⟨c0,c1,c2,c3,c4,c5,-,-,-,-,-,-⟩:=Z12.o;obtain ⟨d0,d1,d2,d3,d4,d5,-,-,-,-,-,-⟩:=Z8U.o u12 B12.o;go_wp2_with fail
  refine Calls.mono (HEQ.o u12 q B12.o O12.o.at) ?_;rintro e u14 ⟨rfl,p14⟩;have B14:Hid (BW W8 u14):=next B12.o p14;have Z14:Hid (ZQ X12 bb q u14):=Z12.o.below p14;have O14:Hid (Gc V.heap.size bb q u14):=O12.o.below p14
  have HMB:Hid (Calls prog 20 #[C5 bb q,.int .i64 1] u14 fun e w'=>e=.returned (.int .i64 (mT bb:Int))∧iB V.heap.size bb q w'∧LQ W8 X12 bb q w'):=fJ bb q _ u14 O14.o HSM.o (LQ W8 X12 bb q) HROW.o ⟨B14.o,Z14.o⟩
  have HHB:Hid (∀ u,iB V.heap.size bb q u→Calls prog 21 #[C5 bb q,.int .i64 1] u fun e w'=>e=.returned (.int .i64 (mT bb:Int))∧BW u w'):=fun u h=>fW bb q _ u h HSM.o
  unfold C5 at HMB HHB;obtain ⟨K6,hK6⟩:∃ k:Nat,mT bb=k:=⟨_,rfl⟩;rw [hK6] at HMB HHB
  have hkn:¬ (K6:Int)<0:=by omega
  have hkk:((K6:Int) != (K6:Int))=false:=by simp
  clear p14 c0 c1 c2 c3 c4 c5 d0 d1 d2 d3 d4 d5 B12 Z12 O12 hK6 HROW;obtain ⟨c0,c1,c2,c3,c4,c5,-,-,-,-,-,-⟩:=Z14.o;go_wp2_with fail
  refine Calls.mono HMB.o ?_;rintro e u15 ⟨rfl,mk15,lq15⟩;have B15:Hid (BW W8 u15):=lq15.1;have Z15:Hid (ZQ X12 bb q u15):=lq15.2;have M15:Hid (iB V.heap.size bb q u15):=mk15;clear mk15 lq15 c0 c1 c2 c3 c4 c5 Z14 O14 B14 HMB;obtain ⟨c0,c1,c2,c3,c4,c5,-,-,-,-,-,-⟩:=Z15.o;go_wp2_with fail
  refine Calls.mono (HHB.o u15 M15.o) ?_;rintro e u16 ⟨rfl,p16⟩;have B16:Hid (BW W8 u16):=next B15.o p16;have Z16:Hid (ZQ X12 bb q u16):=Z15.o.below p16;have M16:Hid (iB V.heap.size bb q u16):=M15.o.below p16;clear p16 c0 c1 c2 c3 c4 c5 Z15 M15 B15;obtain ⟨c0,c1,c2,c3,c4,c5⟩:=S8U.o u16 B16.o;go_wp2_with fail
  refine Calls.mono (HTO.o u16 (V8.o u16 B16.o) HN.o) ?_;rintro e u17 ⟨q7,rfl,o17,p17⟩;have P17:Hid (BW u16 u17):=p17;have B17:Hid (BW W8 u17):=next B16.o p17
  have HIM2:Hid (Calls prog 27 #[C5 b q7] u17 fun e w'=>∃ q2,e=.returned (.tuple #[C5 bb q2,.int .i64 (n':Int)])∧Aq w' bb q2∧BW u17 w'):=(Oj b q7 u17 o17.at HP.o HG.o (HE.o u17 (V8.o u17 B17.o))).mono (fun e w' h=>by
   obtain ⟨n2,b2,q2,h1,h2,_,h4,h5⟩:=h;obtain ⟨e1,e2⟩:=Ns h2 HALF.o;subst e1;subst e2;exact ⟨q2,h1,h4.at,h5⟩)
  unfold C5 at HIM2;clear o17 p17 c0 c1 c2 c3 c4 c5;rw [(HV b q7).out];go_wp2_with fail
  refine Calls.mono HIM2.o ?_;rintro e u19 ⟨q2,rfl,bk19,p19⟩;obtain ⟨X17,hX17⟩:∃ X,u19.heap.size=X:=⟨_,rfl⟩;obtain ⟨W17,hW17⟩:∃ W,W=u19.alloc (.cells #[.int .i64 bb.today,.slice q2.o bb.off.length q2.oc,.slice q2.a bb.az.length q2.ac,.slice q2.c bb.cs.length q2.cc,.slice q2.l bb.ls.length q2.lc,.slice q2.g bb.log.length q2.gc] 31):=⟨_,rfl⟩
  have b17:BW u19 W17:=by rw [hW17];exact bR.alloc nL _
  have Z17:Hid (ZQ X17 bb q2 W17):=by rw [Hid,hW17,← hX17];exact Z6.new u19 _ _ _ _ _ _ _
  have K17:Hid (Aq W17 bb q2):=bk19.below b17;have P19:Hid (BW u16 W17):=next (next P17.o p19) b17;have B19:Hid (BW W8 W17):=next (next B17.o p19) b17;have EQ17:Hid _:=hW17;have EX17:Hid _:=hX17;clear bk19 p19 b17 hW17 hX17 HIM2 P17 B17;go_upto_region 25 with fail
  rw [← EQ17.o,EX17.o];clear EQ17 EX17;obtain ⟨c0,c1,c2,c3,c4,c5,-,-,-,-,-,-⟩:=Z17.o;obtain ⟨d0,d1,d2,d3,d4,d5,-,-,-,-,-,-⟩:=Z8U.o W17 B19.o;go_wp2_with fail
  refine Calls.mono (HEQ.o W17 q2 B19.o K17.o) ?_;rintro e u20 ⟨rfl,p20⟩;have P20:Hid (BW u16 u20):=next P19.o p20;have B20:Hid (BW W8 u20):=next B19.o p20;have Z20:Hid (ZQ X12 bb q u20):=Z16.o.below P20.o;have M20:Hid (iB V.heap.size bb q u20):=M16.o.below P20.o;clear p20 c0 c1 c2 c3 c4 c5 d0 d1 d2 d3 d4 d5 Z17 K17 P19 B19 P20;obtain ⟨c0,c1,c2,c3,c4,c5,-,-,-,-,-,-⟩:=Z20.o;go_wp2_with fail
  refine Calls.mono (HHB.o u20 M20.o) ?_;rintro e u21 ⟨rfl,p21⟩;have HFIN:Hid (BW w u21):=V8.o u21 (next B20.o p21);clear p21 c0 c1 c2 c3 c4 c5;go_wp2;go_ret;exact ⟨rfl,HFIN.o⟩
end Go.Proofs.YtomiclakhjncbaaGreatDoor.Kb
