import Derived.Test.YtomiclakhjncbaaGreatDoorJE2a
namespace Go.Proofs.YtomiclakhjncbaaGreatDoor
open Go.RowKit Go.Proofs.Tryz
set_option maxRecDepth 100000
set_option maxHeartbeats 12800000
theorem Xw (F:Ff) (K:Nc F) {Pre:Bk→Prop} (hsm:∀ b,Pre b→D0 b) {Pay:Bk→Int→Int→Int→Int→Bk×Int→Prop} {Act:Bk→Int→Ac→Bk×Int} (_ST:Tp Pre Pay Act) (b:Bk) (p:Bp) (line:List UInt8) (w:World) (hx:Aq w b p) (hah:Vb p w.heap.size) (hp:Pre b) (hl:line.length≤1048575) (hsel:Ca (Ab line)=true) :
  Calls prog 84 #[C5 b p,.string ⟨line.toArray⟩] w fun e w'=>∃ r,Db F Pay Act b line r∧U8 w p r.1 r.2 e w':=by
 have hn:=hsm b hp;have HPRE:Hid (Pre b):=hp;have HSEL:Hid (Ca (Ab line)=true):=hsel;clear hsel;have HAB:Hid (Vb p w.heap.size):=hah
 have HREL:Hid (∀ r,Db F Pay Act b line r=(if Ca (Ab line)=true then r=Fr F b (Ae (Al (Ab line) 1))
  else if Bq (Ab line)=true then (if Ap ((Ab line).drop 2)=true then r=Fq F b (Al (Ab line) 1) (Ae (Al (Ab line) 2)) (Ae (Al (Ab line) 3)) (Ae (Al (Ab line) 4)) else r=(b,1))
  else if Da (Ab line)=true then (if Ap ((Ab line).drop 1)=true then Pay b (Ae (Al (Ab line) 1)) (Ae (Al (Ab line) 2)) (Ae (Al (Ab line) 3)) (Ae (Al (Ab line) 4)) r else r=(b,1))
  else if Fl (Ab line)=true then (if Ap [Al (Ab line) 1,Al (Ab line) 3,Al (Ab line) 4]=true then r=Act b (Ae (Al (Ab line) 1)) ⟨Bz (Al (Ab line) 2),Ae (Al (Ab line) 3),Ae (Al (Ab line) 4)⟩ else r=(b,1))
  else r=(b,1))):=fun r=>rfl
 obtain ⟨LR,hLR⟩:∃ L,Db F Pay Act b line=L:=⟨_,rfl⟩
 simp only [hLR] at HREL ⊢
 clear hp hah hLR
 have HDAY:Hid (∀ n u,BW w u→Calls prog 141 #[C5 b p,.int .i64 n] u (U8 u p (Fr F b n).1 (Fr F b n).2)):=fun n u h=>Mj F K b p n u (hx.below h) hn
 have HX:Hid (∀ u,BW w u→Aq u b p):=fun u h=>hx.below h
 have HN:Hid (D0 b):=hn;clear hx hn;obtain ⟨td,fo,az,cs,ls,lg⟩:=b;obtain ⟨o,oc,a,ac,c,cc,l,lc,g,gc⟩:=p;unfold C5 at HDAY ⊢
 simp only at HDAY ⊢
 obtain ⟨u0,hu0⟩:∃ u,u=((w.alloc (.cells #[.int .i64 td,.slice o fo.length oc,.slice a az.length ac,.slice c cs.length cc,.slice l ls.length lc,.slice g lg.length gc] 31))).alloc (.cells qzB 31):=⟨_,rfl⟩
 have HB0:Hid (BW w u0):=by rw [Hid,hu0];go_grown
 have HS0:Hid ((w.heap.size+1)<u0.heap.size):=by rw [Hid,hu0];simp
 have HZ0:Hid (Z6 w.heap.size (.int .i64 td) (.slice o fo.length oc) (.slice a az.length ac) (.slice c cs.length cc) (.slice l ls.length lc) (.slice g lg.length gc) u0):=by
  rw [Hid,hu0];exact ((Z6.new w (.int .i64 td) (.slice o fo.length oc) (.slice a az.length ac) (.slice c cs.length cc) (.slice l ls.length lc) (.slice g lg.length gc) 31)).below (bR.alloc nL _)
 have HR0:Hid (Z6 (w.heap.size+1) (.int .i64 0) (.slice none 0 0) (.slice none 0 0) (.slice none 0 0) (.slice none 0 0) (.slice none 0 0) u0):=by
  have h:=Z6.new ((w.alloc (.cells #[.int .i64 td,.slice o fo.length oc,.slice a az.length ac,.slice c cs.length cc,.slice l ls.length lc,.slice g lg.length gc] 31))) (.int .i64 0) (.slice none 0 0) (.slice none 0 0) (.slice none 0 0) (.slice none 0 0) (.slice none 0 0) 31
  rw [Hid,hu0];simpa using h
 have HU0:Hid _:=hu0;clear hu0
 go_enter func84,ntmps84
 go_upto_region 1 with fail
 rw [← HU0.o];clear HU0;obtain ⟨t0,t1,t2,t3,t4,t5,s0,s1,s2,s3,s4,s5⟩:=HZ0.o;obtain ⟨q0,q1,q2,q3,q4,q5,p0,p1,p2,p3,p4,p5⟩:=HR0.o;have hwl:=Fy line;have hws:=Ee line;go_wp2_with fail
 refine (I8 line _ (by omega)).mono ?_
 rintro e u1 ⟨wa,wk,rfl,ow,b1⟩;obtain ⟨ws,hwe⟩:∃ ws,Ab line=ws:=⟨_,rfl⟩;rw [hwe] at ow hwl hws ⊢
 simp only [hwe] at HREL HSEL
 obtain ⟨gw,rfl⟩:∃ gw,wa=some ⟨gw,0,none⟩:=by
  rcases ow.2 with ⟨_,h⟩ | ⟨g,cap,uV,h,_⟩
  ·omega
  ·injection h with h _ _
   exact ⟨g,h⟩
 have HWC:Hid (∀ u,BW u1 u→∀ i,i<ws.length→u.cell? ⟨gw,i,none⟩=some (.string ⟨(Al ws i).toArray⟩)):=fun u h i hi=>by
  have:=(Kq ((Ep ow).below h) hi).1
  simpa using this
 have HWS:Hid (∀ i,i<ws.length→(Al ws i).length≤1048576):=fun i hi=>by have:=hws _ (F7 hi);omega
 have HOW:Hid (u1.ownsRow u0.heap.size 9 1 (.slice (some ⟨gw,0,none⟩) ws.length wk) ws.length (Am ws)):=ow;have HZ1:Hid (Z6 w.heap.size (.int .i64 td) (.slice o fo.length oc) (.slice a az.length ac) (.slice c cs.length cc) (.slice l ls.length lc) (.slice g lg.length gc) u1):=HZ0.o.below b1;have HR1:Hid (Z6 (w.heap.size+1) (.int .i64 0) (.slice none 0 0) (.slice none 0 0) (.slice none 0 0) (.slice none 0 0) (.slice none 0 0) u1):=HR0.o.below b1;have HB1:Hid (BW w u1):=next HB0.o b1
 have HS1:Hid (w.heap.size+1<u1.heap.size):=by have:=HS0.o;have:=b1.size;rw [Hid];omega
 have HUW:Hid (w.heap.size+1<u0.heap.size):=HS0.o;clear t0 t1 t2 t3 t4 t5 s0 s1 s2 s3 s4 s5 q0 q1 q2 q3 q4 q5 p0 p1 p2 p3 p4 p5 HZ0 HR0 HB0 HS0 b1 ow hws hwe
 have hn0:(0:Int)<(ws.length:Int):=by omega
 go_upto_region 2 with fail
 go_cut [17] (fun v wc=>v=.bool (Ca ws)∧wc=u1)
 case first =>
  have w0:=HWC.o u1 bR 0 (by omega)
  have HDY:Hid (Ca ws=(decide (Al ws 0=Eo) && (decide (ws.length=2) && decide (0≤Ae (Al ws 1))))):=rfl;obtain ⟨r0,hr0⟩:∃ r,Al ws 0=r:=⟨_,rfl⟩;rw [hr0] at w0 HDY
  by_cases hd:r0=Eo
  ·subst hd
   by_cases h2:ws.length=2
   ·have h2':((ws.length:Int) == 2)=true:=by simp;omega
    have h12:(1:Int)<(ws.length:Int):=by omega
    have w1:=HWC.o u1 bR 1 (by omega)
    have hnm:=Ha (Al ws 1) u1 (HWS.o 1 (by omega))
    obtain ⟨r1,hr1⟩:∃ r,Al ws 1=r:=⟨_,rfl⟩;rw [hr1] at w1 HDY hnm
    have HD2:Hid (Ca ws=decide (0≤Ae r1)):=by rw [Hid,HDY.o];simp [h2]
    unfold Eo at w0;clear h2
    go_wp2_with (go_at_call 140;refine hnm.mono ?_;rintro e w' ⟨rfl,hw'⟩;replace hw':=hw'.symm;subst hw')
    go_meet
    exact ⟨by rw [HD2.o],rfl⟩
   ·have h2':((ws.length:Int) == 2)=false:=by simp;omega
    have HD2:Hid (Ca ws=false):=by rw [Hid,HDY.o];simp [h2]
    unfold Eo at w0;clear h2;go_wp2;go_meet
    exact ⟨by rw [HD2.o],rfl⟩
  ·have hdb:(r0 == Eo)=false:=by simpa using hd
   have HD2:Hid (Ca ws=false):=by rw [Hid,HDY.o];simp [hd]
   unfold Eo at hdb;go_wp2;go_meet
   exact ⟨by rw [HD2.o],rfl⟩
 case rest =>
  obtain ⟨rfl,hwc⟩:=hcut;replace hwc:=hwc.symm;subst hwc
  have HEND:Hid (∀ r,LR r→r=(⟨td,fo,az,cs,ls,lg⟩,1)→LR (⟨td,fo,az,cs,ls,lg⟩,1)):=fun r h e=>e ▸ h
  cases hday:Ca ws
  case true =>
   have HR':Hid (∀ r,r=Fr F ⟨td,fo,az,cs,ls,lg⟩ (Ae (Al ws 1))→LR r):=fun r h=>by rw [HREL.o r,if_pos hday];exact h
   have h2:ws.length=2:=by simp [Ca] at hday;exact hday.2.1
   have h12:(1:Int)<(ws.length:Int):=by omega
   have w1:=HWC.o u1 bR 1 (by omega)
   have hnm:=fun u=>Ha (Al ws 1) u (HWS.o 1 (by omega))
   obtain ⟨r1,hr1⟩:∃ r,Al ws 1=r:=⟨_,rfl⟩;rw [hr1] at w1 hnm HR';have HNM:Hid _:=hnm
   have HDC:Hid (∀ u,BW w u→Calls prog 141 #[.agg #[.int .i64 td,.slice o fo.length oc,.slice a az.length ac,.slice c cs.length cc,.slice l ls.length lc,.slice g lg.length gc],.int .i64 (Ae r1)] u (U8 u ⟨o,oc,a,ac,c,cc,l,lc,g,gc⟩ (Fr F ⟨td,fo,az,cs,ls,lg⟩ (Ae r1)).1 (Fr F ⟨td,fo,az,cs,ls,lg⟩ (Ae r1)).2)):=fun u h=>HDAY.o (Ae r1) u h
   obtain ⟨⟨⟨td2,fo2,az2,cs2,ls2,lg2⟩,code⟩,hD⟩:∃ r,Fr F ⟨td,fo,az,cs,ls,lg⟩ (Ae r1)=r:=⟨_,rfl⟩
   simp only [hD] at HDC HR'
   have HBW:Hid (BW w u1.drew):=HB1.o.trans ((bR.drew).mono HB1.o.size);clear hday h2 hnm hD;obtain ⟨t0,t1,t2,t3,t4,t5,s0,s1,s2,s3,s4,s5⟩:=HZ1.o;go_upto_region 3 with fail
   go_region_with (first
    | (go_at_call 140;refine (HNM.o _).mono ?_;rintro e w' ⟨rfl,hw'⟩;replace hw':=hw'.symm;subst hw')
    | (go_at_call 141;(first | refine (HDC.o _ HB1.o).mono ?_ | refine (HDC.o _ HBW.o).mono ?_);rintro e u4 ⟨qq,rfl,hb4,hg4,hgc4,hpt,b4'⟩;have b4:BW u1 u4:=(by first | exact b4' | exact (bR.drew).trans b4');have HG4:Hid (qq.g=g∧qq.gc=gc∧(qq.o=o∧(qq.a=a∨Cm qq.a u1.heap.size)∧(qq.c=c∨Cm qq.c u1.heap.size)∧(qq.l=l∨Cm qq.l u1.heap.size))):=⟨hg4,hgc4,by first | exact hpt | simpa using hpt⟩;have HB4:Hid _:=hb4;have HBB:Hid _:=b4;clear hg4 hgc4 hpt hb4 b4';obtain ⟨qo,qoc,qa,qac,qc,qcc,ql,qlc,qg,qgc⟩:=qq;unfold C5;simp only;obtain ⟨q0,q1,q2,q3,q4,q5,p0,p1,p2,p3,p4,p5⟩:=HR1.o.below b4))
   all_goals
    clear b4;go_wp2
    refine bodyPost_ret (by simp [results,results84,go_sem,q0,q1,q2,q3,q4,q5];try rfl) rfl ?_
    obtain ⟨hg4,hgc4,hpt⟩:=HG4.o
    exact ⟨(⟨td2,fo2,az2,cs2,ls2,lg2⟩,code),HR'.o _ rfl,Qp HAB.o HB1.o (by omega) HS1.o HB4.o hg4 hgc4 hpt HBB.o _ _ _ _ _ _⟩
  case false=>exact absurd (hday.symm.trans HSEL.o) (by decide)
end Go.Proofs.YtomiclakhjncbaaGreatDoor
