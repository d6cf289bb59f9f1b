import Derived.Test.YtomiclakhjncbaaGreatDoorJX0a
import Derived.Test.YtomiclakhjncbaaGreatDoorJX7a
import Derived.Test.YtomiclakhjncbaaGreatDoorJX2a
namespace Go.Proofs.YtomiclakhjncbaaGreatDoor.Kb
open Go.RowKit Go.Proofs.Tryz
set_option maxRecDepth 100000
set_option maxHeartbeats 12800000
theorem Ns:∀ {ds:List Nat} {b b1 b2:Bk} {n1 n2:Nat},Ka (D9 F0) b ds b1 n1→Ka (Fg Fu) b ds b2 n2→b1=b2∧n1=n2
 | [],b,b1,b2,n1,n2,h,h'=>by
  simp only [Ka] at h h'
  exact ⟨h.1.trans h'.1.symm,h.2.trans h'.2.symm⟩
 | d::ds,b,b1,b2,n1,n2,h,h'=>by
  obtain ⟨r,hr,h⟩:=h;obtain ⟨r',hr',h'⟩:=h';have ha:=W4 hr hr';have hz:=mS ha
  rcases h with ⟨hc,m,rfl,h⟩ | ⟨hc,h⟩
  ·rcases h' with ⟨hc',m',rfl,h'⟩ | ⟨hc',h'⟩
   ·rw [← ha.1] at h'
    obtain ⟨e1,e2⟩:=Ns h h'
    exact ⟨e1,by rw [e2]⟩
   ·exact absurd (hz.1 hc) hc'
  ·rcases h' with ⟨hc',m',rfl,h'⟩ | ⟨hc',h'⟩
   ·exact absurd (hz.2 hc') hc
   ·exact Ns h h'
structure ES (R X:Nat) (b:Bk) (p:Bp) (w u:World):Prop where
 z:ZQ X b p u
 r:Z0 R u
 bk:Aq u b p
 oR:Wq p R
 hb:BW w u
 hR:w.heap.size≤R
 hX:w.heap.size≤X
 ne:X≠R
theorem ES.below {R X:Nat} {b:Bk} {p:Bp} {w u u':World} (h:ES R X b p w u) (hb:BW u u'):ES R X b p w u':=⟨h.z.below hb,h.r.below hb,h.bk.below hb,h.oR,next h.hb hb,h.hR,h.hX,h.ne⟩
theorem ES.put {R X n:Nat} {b b2:Bk} {p q:Bp} {w u:World} (h:ES R X b p w u) (hk:Aq u b2 q) (hf:FrB q n) (hn:X<n) (hm:R<n) :
  ES R X b2 q w ((((((u.setCell ⟨X,0,none⟩ (.int .i64 b2.today)).setCell ⟨X,1,none⟩ (.slice q.o b2.off.length q.oc)).setCell ⟨X,2,none⟩ (.slice q.a b2.az.length q.ac)).setCell ⟨X,3,none⟩ (.slice q.c b2.cs.length q.cc)).setCell ⟨X,4,none⟩ (.slice q.l b2.ls.length q.lc)).setCell ⟨X,5,none⟩ (.slice q.g b2.log.length q.gc)) :=
 ⟨(((((h.z.set0 _).set1 _).set2 _).set3 _).set4 _).set5 _,h.r.far6 h.ne _ _ _ _ _ _,hk.put6 (Q4 hf hn) _ _ _ _ _ _,Q4 hf hm,Ax h.hX h.hb _ _ _ _ _ _,h.hR,h.hX,h.ne⟩
theorem fQ {u:World} {a:Option Addr} {zs:List Int} {R:Nat} (h:Aw u a zs) (n:Im a R) (x0 x1 x2 x3 x4 x5:Value) :
  Aw ((((((u.setCell ⟨R,0,none⟩ x0).setCell ⟨R,1,none⟩ x1).setCell ⟨R,2,none⟩ x2).setCell ⟨R,3,none⟩ x3).setCell ⟨R,4,none⟩ x4).setCell ⟨R,5,none⟩ x5) a zs:=by
 have s:∀ (v:World) (i:Nat) (x:Value),Aw v a zs→Aw (v.setCell ⟨R,i,none⟩ x) a zs:=fun v i x hv=>hv.far (An _ _ _ _) (fun Q hQ=>by cases hQ;exact n)
 exact s _ _ _ (s _ _ _ (s _ _ _ (s _ _ _ (s _ _ _ (s _ _ _ h)))))
theorem tE {d:Nat} (h:d<1000000000000000000):∃ C1:ByteArray,(∀ w,(Op.stringOp .add ⟨#[97,99,116,32]⟩ ⟨(Lib.decDigits d).toArray⟩).run prog w=.ok (.string C1) w)∧(∀ w,(Op.stringOp .add C1 ⟨#[32,101,120,112,105,114,101,32,48,32,48]⟩).run prog w=.ok (.string ⟨(Gj d).toArray⟩) w):=by
 have h1:=N0 h
 have e:Gj d=([97,99,116,32]++Lib.decDigits d)++[32,101,120,112,105,114,101,32,48,32,48]:=by
  have:Al Dm 8=[101,120,112,105,114,101]:=by decide
  unfold Gj;rw [this]
  simp
 rw [e]
 exact ⟨_,fun w=>Kr [97,99,116,32] _ (by simp;omega) w,fun w=>Kr _ [32,101,120,112,105,114,101,32,48,32,48] (by simp;omega) w⟩
def SxR (b:Bk) (w:World) (e:Ending) (w':World):Prop :=
 ∃ (n:Nat) (b':Bk) (q:Bp),e=.returned (.tuple #[C5 b' q,.int .i64 (n:Int)])∧Ka (Fg Fu) b (Lg b) b' n∧Aq w' b' q∧BW w w'
theorem J4 (b:Bk) (p:Bp) (w:World) (hx:Aq w b p) (hP:Ej b) :
  Calls prog 25 #[C5 b p] w (SxR b w):=by
 obtain ⟨X,hX⟩:∃ X,w.heap.size=X:=⟨_,rfl⟩;obtain ⟨R,hR⟩:∃ R,X+1=R:=⟨_,rfl⟩;obtain ⟨U,hU⟩:∃ U,U=(w.alloc (.cells #[.int .i64 b.today,.slice p.o b.off.length p.oc,.slice p.a b.az.length p.ac,.slice p.c b.cs.length p.cc,.slice p.l b.ls.length p.lc,.slice p.g b.log.length p.gc] 31)).alloc (.cells #[.int .i64 0,.slice none 0 0,.slice none 0 0,.slice none 0 0,.slice none 0 0,.slice none 0 0] 31):=⟨_,rfl⟩
 have HBU:Hid (BW w U):=by rw [Hid,hU];go_grown
 have HZU:Hid (ZQ X b p U):=by rw [Hid,hU,← hX];exact (Z6.new w _ _ _ _ _ _ _).below (bR.alloc nL _)
 have HRU:Hid (Z0 R U):=by
  have h:=Z6.new (w.alloc (.cells #[.int .i64 b.today,.slice p.o b.off.length p.oc,.slice p.a b.az.length p.ac,.slice p.c b.cs.length p.cc,.slice p.l b.ls.length p.lc,.slice p.g b.log.length p.gc] 31)) (.int .i64 0) (.slice none 0 0) (.slice none 0 0) (.slice none 0 0) (.slice none 0 0) (.slice none 0 0) 31
  rw [Hid,hU,← hR,← hX];simpa using h
 have HRL:Hid (R<U.heap.size):=HRU.o.lt;have HXL:Hid (X<U.heap.size):=HZU.o.lt;have HCP:Hid (Calls prog 71 #[C5 b p] U (CpR U b)):=Oq b p U (hx.below HBU.o) hP.sm;have HPR:Hid (Ej b):=hP;have HXX:Hid _:=hX;have HRR:Hid _:=hR;have HUU:Hid _:=hU;unfold C5 at HCP ⊢;clear hx hP hX hR hU
 go_enter func25,ntmps25
 go_upto_region 1 with fail
 rw [← HUU.o,HXX.o,HRR.o];clear HUU;obtain ⟨x0,x1,x2,x3,x4,x5,s0,s1,s2,s3,s4,s5⟩:=HZU.o;go_wp2_with fail
 refine Calls.mono HCP.o ?_;rintro e w1 ⟨⟨q1,base,rfl,hb1,ho1,hbs,hbz,hah,hfr⟩,p1⟩;have HF1:Hid (FrB q1 U.heap.size):=⟨hfr.1,hfr.2.1,hfr.2.2.1,hfr.2.2.2.1,hfr.2.2.2.2⟩;have HK1:Hid (Aq w1 b q1):=hb1;have HB1:Hid (BW w w1):=next HBU.o p1;have HZ1:Hid (ZQ X b p w1):=HZU.o.below p1;have HR1:Hid (Z0 R w1):=HRU.o.below p1;clear hb1 ho1 hbs hbz hah hfr p1 HCP x0 x1 x2 x3 x4 x5 s0 s1 s2 s3 s4 s5;obtain ⟨x0,x1,x2,x3,x4,x5,s0,s1,s2,s3,s4,s5⟩:=HZ1.o;unfold C5;go_upto_region 2 with fail
 obtain ⟨W2,hW2⟩:∃ W,W=(((((w1.setCell ⟨X,0,none⟩ (.int .i64 b.today)).setCell ⟨X,1,none⟩ (.slice q1.o b.off.length q1.oc)).setCell ⟨X,2,none⟩ (.slice q1.a b.az.length q1.ac)).setCell ⟨X,3,none⟩ (.slice q1.c b.cs.length q1.cc)).setCell ⟨X,4,none⟩ (.slice q1.l b.ls.length q1.lc)).setCell ⟨X,5,none⟩ (.slice q1.g b.log.length q1.gc):=⟨_,rfl⟩;rw [← hW2]
 have HAA:Hid (ES R X b q1 w W2):=by
  have h1:=HXX.o;have h2:=HRR.o;rw [Hid,hW2]
  exact ⟨(((((HZ1.o.set0 _).set1 _).set2 _).set3 _).set4 _).set5 _,HR1.o.far6 (by omega) _ _ _ _ _ _,HK1.o.put6 (Q4 HF1.o HXL.o) _ _ _ _ _ _,Q4 HF1.o HRL.o,Ax (by omega) HB1.o _ _ _ _ _ _,by omega,by omega,by omega⟩
 have HDU:Hid (Calls prog 38 #[C5 b q1] W2 (qN W2 ((Lg b).map fun i:Nat=>(i:Int)))):=T2 b q1 W2 HAA.o.bk HPR.o.sm
 have HXW:Hid (X<W2.heap.size):=HAA.o.z.lt;unfold C5 at HDU;clear hW2 x0 x1 x2 x3 x4 x5 s0 s1 s2 s3 s4 s5 HF1 HK1 HB1 HZ1 HR1 HZU HRU HBU;obtain ⟨x0,x1,x2,x3,x4,x5,-,-,-,-,-,-⟩:=HAA.o.z;go_wp2_with fail
 refine Calls.mono HDU.o ?_;rintro e w3 ⟨a,k,rfl,o3,p3⟩;have HA3:Hid (ES R X b q1 w w3):=HAA.o.below p3;have HOX:Hid (Im a X):=Bb (Cw o3) HXW.o
 obtain ⟨zs,hzs⟩:∃ zs:List Int,(Lg b).map (fun i:Nat=>(i:Int))=zs:=⟨_,rfl⟩
 rw [hzs] at o3 ⊢;have HI3:Hid (Aw w3 a zs):=Hq o3;obtain ⟨ds,hds⟩:∃ ds,Lg b=ds:=⟨_,rfl⟩
 have HLT:Hid (∀ d ∈ ds,d<1000000000000000000):=fun d hd=>by rw [← hds] at hd;have:=cH hd;have:=HPR.o.sm.2.2.1;omega
 have HDS:Hid (Lg b=ds):=hds
 have HZS:Hid (zs=ds.map fun i:Nat=>(i:Int)):=by rw [Hid,← hzs,hds]
 have HLL:Hid (zs.length=ds.length):=by rw [Hid,HZS.o,List.length_map]
 have hzn:zs.length≤1048576:=by
  have h1:=HPR.o.sm.2.2.1
  have h2:zs.length≤b.cs.length:=by rw [← hzs,← bK];exact Iz _ _ _
  omega
 have HD0:Hid (Ka (Fg Fu) b (ds.take 0) b 0):=⟨rfl,rfl⟩;clear o3 p3 HDU x0 x1 x2 x3 x4 x5 HAA hzs hds;go_wp2
 go_loopw [5,6] (fun s i wr=>∃ (j n:Nat) (b2:Bk) (p2:Bp),j≤zs.length∧n≤j∧s=.int .i64 (n:Int)∧i=.int .i64 (j:Int)∧Ka (Fg Fu) b (ds.take j) b2 n∧Ej b2∧ES R X b2 p2 w wr∧Aw wr a zs) (fun _ i _=>zs.length - (intOf i).toNat)
 case atStart=>exact ⟨0,0,b,q1,Nat.zero_le _,nL,rfl,rfl,HD0.o,HPR.o,HA3.o,HI3.o⟩
 case round =>
  obtain ⟨j,n,b1,p1,hj,hnj,rfl,rfl,hdid,hjw,has,hin⟩:=hrel;have HAA:Hid (ES R X b1 p1 w wr):=has;have HDD:Hid (Ka (Fg Fu) b (ds.take j) b1 n):=hdid;have HJJ:Hid (Ej b1):=hjw;have HIN:Hid (Aw wr a zs):=hin;clear has hdid hjw hin HA3 HI3 HD0
  by_cases hlt:j<zs.length
  ·have hji:(j:Int)<(zs.length:Int):=by omega
   have hkd:j<ds.length:=by rw [← HLL.o];exact hlt
   obtain ⟨d,hdk⟩:∃ d,ds[j]=d:=⟨_,rfl⟩
   have hd18:d<1000000000000000000:=HLT.o d (by rw [← hdk];exact List.getElem_mem hkd)
   obtain ⟨gb,off,rfl,hgb,hcell⟩:∃ gb off,a=some ⟨gb,off,none⟩∧gb<wr.heap.size∧wr.cell? ⟨gb,off+j,none⟩=some (.int .i64 (d:Int)):=by
    rcases HIN.o with h | ⟨gb,off,h1,h2,h3⟩
    ·rw [h] at hlt;simp at hlt
    ·refine ⟨gb,off,h1,h2,(h3 j hlt).trans ?_⟩
     have:zs.getD j 0=(d:Int):=by rw [HZS.o,← hdk];simp [hkd]
     rw [this]
   have HTK:Hid (ds.take (j+1)=ds.take j++[d]):=by rw [Hid,← hdk];exact List.take_succ_eq_append_getElem hkd
   have HDC:Hid (∀ u,Aq u b1 p1→Calls prog 31 #[.agg #[.int .i64 b1.today,.slice p1.o b1.off.length p1.oc,.slice p1.a b1.az.length p1.ac,.slice p1.c b1.cs.length p1.cc,.slice p1.l b1.ls.length p1.lc,.slice p1.g b1.log.length p1.gc],.string ⟨(Gj d).toArray⟩] u (BoF Fu b1 (Gj d) u)):=fun u h=>T5 lO b1 p1 (Gj d) u h ⟨HJJ.o.sm,HJJ.o.ref,HJJ.o.day⟩ (by have:=Mk hd18;omega)
   have HNX:Hid (∀ b2,Fg Fu b1 (Gj d) (b2,0)→Ej b2∧Ka (Fg Fu) b (ds.take (j+1)) b2 (n+1)):=fun b2 h=>⟨Wv (by have:=Mk hd18;omega) HJJ.o h,by rw [HTK.o];exact Pw HDD.o h⟩
   have HNO:Hid (∀ r,Fg Fu b1 (Gj d) r→r.2≠0→Ka (Fg Fu) b (ds.take (j+1)) b1 n):=fun r h hc=>by rw [HTK.o];exact Qi HDD.o h hc
   have HDE:Hid (∀ u,Calls prog 72 #[.int .i64 (d:Int)] u fun e w'=>e=.returned (.string ⟨(Lib.decDigits d).toArray⟩)∧w'=u):=fun u=>Tg.dec_up d u (by omega)
   obtain ⟨C1,r1,r2⟩:=tE hd18;obtain ⟨ln,hln⟩:∃ x,Gj d=x:=⟨_,rfl⟩;obtain ⟨D,hD⟩:∃ L:ByteArray,⟨(Lib.decDigits d).toArray⟩=L:=⟨_,rfl⟩;rw [hln] at r2 HDC HNX HNO;rw [hD] at r1 HDE;clear hln hD hdk hkd
   have HSS:Hid (∀ u,BW wr u→u.cell? ⟨X,0,none⟩=some (.int .i64 b1.today)∧u.cell? ⟨X,1,none⟩=some (.slice p1.o b1.off.length p1.oc)∧u.cell? ⟨X,2,none⟩=some (.slice p1.a b1.az.length p1.ac)∧u.cell? ⟨X,3,none⟩=some (.slice p1.c b1.cs.length p1.cc)∧u.cell? ⟨X,4,none⟩=some (.slice p1.l b1.ls.length p1.lc)∧u.cell? ⟨X,5,none⟩=some (.slice p1.g b1.log.length p1.gc)∧u.cell? ⟨gb,off+j,none⟩=some (.int .i64 (d:Int))):=fun u h=>by
    have z:=HAA.o.z.below h;exact ⟨z.c0,z.c1,z.c2,z.c3,z.c4,z.c5,(h.cell (p:=⟨gb,off+j,none⟩) hgb).trans hcell⟩
   have k0:BW wr wr:=bR;have HP1:Hid (Aq wr.drew b1 p1):=HAA.o.bk.below (bR.drew);have HP2:Hid (Aq (wr.alloc (.cells #[.int .i64 0,.slice none 0 0,.slice none 0 0,.slice none 0 0,.slice none 0 0,.slice none 0 0] 31)).drew b1 p1):=HAA.o.bk.below (((Below.refl wr.heap.size wr).alloc nL _).drew);clear hcell;go_upto_region 7 with fail
   go_cut [7,8] (fun v7 v8 wc=>∃ (Y:Nat) (b2:Bk) (q2:Bp) (code:Int),v7=.pointer (some ⟨Y,0,none⟩)∧v8=.int .i64 code∧Fg Fu b1 ln (b2,code)∧ZQ Y b2 q2 wc∧Aq wc b2 q2∧FrB q2 wr.heap.size∧BW wr wc)
   case first =>
    go_region_held3 (fun u=>u.cell? ⟨X,0,none⟩=some (.int .i64 b1.today)∧u.cell? ⟨X,1,none⟩=some (.slice p1.o b1.off.length p1.oc)∧u.cell? ⟨X,2,none⟩=some (.slice p1.a b1.az.length p1.ac)∧u.cell? ⟨X,3,none⟩=some (.slice p1.c b1.cs.length p1.cc)∧u.cell? ⟨X,4,none⟩=some (.slice p1.l b1.ls.length p1.lc)∧u.cell? ⟨X,5,none⟩=some (.slice p1.g b1.log.length p1.gc)∧u.cell? ⟨gb,off+j,none⟩=some (.int .i64 (d:Int))) (first | with_reducible exact HSS.o _ hb2 | with_reducible exact HSS.o _ k0 | with_reducible exact HSS.o _ k0.drew | with_reducible exact HSS.o _ (k0.alloc nL _) | with_reducible exact HSS.o _ ((k0.alloc nL _).drew) | with_reducible exact HSS.o _ (hb2.alloc hb2.size _) | with_reducible exact HSS.o _ (Ax nL hb2 _ _ _ _ _ _)) ((first
     | (go_at_call 72;(with_reducible refine Calls.mono (HDE.o _) ?_);rintro e u1 ⟨rfl,rfl⟩)
     | (go_at_call 31;(with_reducible refine Calls.mono (HDC.o wr.drew HP1.o) ?_);rintro e u2 ⟨⟨b2,code⟩,q2,hrel,rfl,hbk,bb,hfr⟩;have hb2:BW wr u2:=Below.trans ((Below.refl wr.heap.size wr).drew) bb;unfold C5;simp only)
     | (go_at_call 31;(with_reducible refine Calls.mono (HDC.o (wr.alloc (.cells #[.int .i64 0,.slice none 0 0,.slice none 0 0,.slice none 0 0,.slice none 0 0,.slice none 0 0] 31)).drew HP2.o) ?_);rintro e u2 ⟨⟨b2,code⟩,q2,hrel,rfl,hbk,bb,hfr⟩;obtain ⟨hzy,hb2⟩:=nZ bb;have HZY:Hid _:=hzy;obtain ⟨g0,g1,g2,g3,g4,g5,m0,m1,m2,m3,m4,m5⟩:=hzy;unfold C5;simp only)))
    all_goals
     go_wp2_with fail
     go_meet
     first
      | (have hf2:FrB q2 (wr.heap.size+1):=by simpa using hfr
         exact ⟨wr.heap.size,b2,q2,code,rfl,rfl,hrel,(((((HZY.o.set0 _).set1 _).set2 _).set3 _).set4 _).set5 _,hbk.put6 (Q4 hf2 (Nat.lt_succ_self _)) _ _ _ _ _ _,⟨Ey hf2.o (Nat.le_succ _),Ey hf2.a (Nat.le_succ _),Ey hf2.c (Nat.le_succ _),Ey hf2.l (Nat.le_succ _),Ey hf2.g (Nat.le_succ _)⟩,Ax nL hb2 _ _ _ _ _ _⟩)
      | exact ⟨u2.heap.size,b2,q2,code,rfl,rfl,hrel,Z6.new u2 _ _ _ _ _ _ _,hbk.below (bR.alloc nL _),⟨hfr.o,hfr.a,hfr.c,hfr.l,hfr.g⟩,hb2.alloc hb2.size _⟩
   case rest =>
    obtain ⟨V,hV⟩:∃ x,x=wc:=⟨_,rfl⟩;subst hV;obtain ⟨Y,b2,q2,code,rfl,rfl,hrel,hzy,hbk,hfr,hbV⟩:=hcut;have HAV:Hid (ES R X b1 p1 w V):=HAA.o.below hbV;have HIV:Hid (Aw V (some ⟨gb,off,none⟩) zs):=HIN.o.below hbV;have HXL:Hid (X<wr.heap.size):=HAA.o.z.lt;have HRL:Hid (R<wr.heap.size):=HAA.o.r.lt;obtain ⟨x0,x1,x2,x3,x4,x5,y0,y1,y2,y3,y4,y5⟩:=HAV.o.z;clear hbV HDC HSS HP1 HP2 k0
    by_cases hc:code=0
    ·subst hc
     obtain ⟨j2,d2⟩:=HNX.o b2 hrel;have HJ2:Hid (Ej b2):=j2;have HD2:Hid (Ka (Fg Fu) b (ds.take (j+1)) b2 (n+1)):=d2;have HA2:Hid _:=HAV.o.put hbk hfr HXL.o HRL.o;have HI2:Hid _:=fQ HIV.o HOX.o (.int .i64 b2.today) (.slice q2.o b2.off.length q2.oc) (.slice q2.a b2.az.length q2.ac) (.slice q2.c b2.cs.length q2.cc) (.slice q2.l b2.ls.length q2.lc) (.slice q2.g b2.log.length q2.gc);obtain ⟨n0,n1,n2,n3,n4,n5,-,-,-,-,-,-⟩:=hzy;clear j2 d2 hrel hbk hfr;go_wp2
     go_roundw
     case rel=>exact ⟨j+1,n+1,b2,q2,by omega,by omega,by go_num,by go_num,HD2.o,HJ2.o,HA2.o,HI2.o⟩
     case measure=>simp [intOf];omega
    ·have hne:(code == 0)=false:=by simpa using hc
     have HD2:Hid (Ka (Fg Fu) b (ds.take (j+1)) b1 n):=HNO.o _ hrel hc;clear hrel hc hzy hbk hfr;go_wp2
     go_roundw
     case rel=>exact ⟨j+1,n,b1,p1,by omega,by omega,by go_num,by go_num,HD2.o,HJJ.o,HAV.o,HIV.o⟩
     case measure=>simp [intOf];omega
  ·have hje:j=zs.length:=by omega
   subst hje
   have hji:¬ (zs.length:Int)<(zs.length:Int):=by omega
   have HF:Hid (Ka (Fg Fu) b (Lg b) b1 n):=by have h:=HDD.o;rw [HLL.o,List.take_length] at h;rw [Hid,HDS.o];exact h
   obtain ⟨x0,x1,x2,x3,x4,x5,-,-,-,-,-,-⟩:=HAA.o.z;obtain ⟨r0,r1,r2,r3,r4,r5,s0,s1,s2,s3,s4,s5⟩:=HAA.o.r;go_wp2
   refine bodyPost_ret (by simp [results,results25,go_sem,r0,r1,r2,r3,r4,r5];try rfl) rfl ?_
   exact ⟨n,b1,p1,rfl,HF.o,HAA.o.bk.put6 HAA.o.oR _ _ _ _ _ _,Ax HAA.o.hR HAA.o.hb _ _ _ _ _ _⟩
end Go.Proofs.YtomiclakhjncbaaGreatDoor.Kb
