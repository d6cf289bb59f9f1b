import Derived.Test.YtomiclakhjncbaaGreatDoorJE2a
namespace Go.Proofs.YtomiclakhjncbaaGreatDoor
open Go.RowKit Go.Proofs.Tryz
set_option maxRecDepth 100000
set_option maxHeartbeats 12800000
theorem Zy (F:Ff) (K:Nc F) {Pre:Bk→Prop} (hsm:∀ b,Pre b→D0 b) {Pay:Bk→Int→Int→Int→Int→Bk×Int→Prop} {Act:Bk→Int→Ac→Bk×Int} (ST:Tp Pre Pay Act) (b:Bk) (p:Bp) (line:List UInt8) (w:World) (hx:Aq w b p) (hah:Vb p w.heap.size) (hp:Pre b) (hl:line.length≤1048575) (hsel:Ca (Ab line)=false∧Bq (Ab line)=false∧Da (Ab line)=true) :
  Calls prog 84 #[C5 b p,.string ⟨line.toArray⟩] w fun e w'=>∃ r,Db F Pay Act b line r∧U8 w p r.1 r.2 e w':=by
 have hn:=hsm b hp;have HPRE:Hid (Pre b):=hp;have HSEL:Hid (Ca (Ab line)=false∧Bq (Ab line)=false∧Da (Ab line)=true):=hsel;clear hsel;have HAB:Hid (Vb p w.heap.size):=hah
 have HREL:Hid (∀ r,Db F Pay Act b line r=(if Ca (Ab line)=true then r=Fr F b (Ae (Al (Ab line) 1))
  else if Bq (Ab line)=true then (if Ap ((Ab line).drop 2)=true then r=Fq F b (Al (Ab line) 1) (Ae (Al (Ab line) 2)) (Ae (Al (Ab line) 3)) (Ae (Al (Ab line) 4)) else r=(b,1))
  else if Da (Ab line)=true then (if Ap ((Ab line).drop 1)=true then Pay b (Ae (Al (Ab line) 1)) (Ae (Al (Ab line) 2)) (Ae (Al (Ab line) 3)) (Ae (Al (Ab line) 4)) r else r=(b,1))
  else if Fl (Ab line)=true then (if Ap [Al (Ab line) 1,Al (Ab line) 3,Al (Ab line) 4]=true then r=Act b (Ae (Al (Ab line) 1)) ⟨Bz (Al (Ab line) 2),Ae (Al (Ab line) 3),Ae (Al (Ab line) 4)⟩ else r=(b,1))
  else r=(b,1))):=fun r=>rfl
 obtain ⟨LR,hLR⟩:∃ L,Db F Pay Act b line=L:=⟨_,rfl⟩
 simp only [hLR] at HREL ⊢
 clear hp hah hLR
 have HDAY:Hid (∀ n u,BW w u→Calls prog 141 #[C5 b p,.int .i64 n] u (U8 u p (Fr F b n).1 (Fr F b n).2)):=fun n u h=>Mj F K b p n u (hx.below h) hn
 have HX:Hid (∀ u,BW w u→Aq u b p):=fun u h=>hx.below h
 have HN:Hid (D0 b):=hn;clear hx hn;obtain ⟨td,fo,az,cs,ls,lg⟩:=b;obtain ⟨o,oc,a,ac,c,cc,l,lc,g,gc⟩:=p;unfold C5 at HDAY ⊢
 simp only at HDAY ⊢
 obtain ⟨u0,hu0⟩:∃ u,u=((w.alloc (.cells #[.int .i64 td,.slice o fo.length oc,.slice a az.length ac,.slice c cs.length cc,.slice l ls.length lc,.slice g lg.length gc] 31))).alloc (.cells qzB 31):=⟨_,rfl⟩
 have HB0:Hid (BW w u0):=by rw [Hid,hu0];go_grown
 have HS0:Hid ((w.heap.size+1)<u0.heap.size):=by rw [Hid,hu0];simp
 have HZ0:Hid (Z6 w.heap.size (.int .i64 td) (.slice o fo.length oc) (.slice a az.length ac) (.slice c cs.length cc) (.slice l ls.length lc) (.slice g lg.length gc) u0):=by
  rw [Hid,hu0];exact ((Z6.new w (.int .i64 td) (.slice o fo.length oc) (.slice a az.length ac) (.slice c cs.length cc) (.slice l ls.length lc) (.slice g lg.length gc) 31)).below (bR.alloc nL _)
 have HR0:Hid (Z6 (w.heap.size+1) (.int .i64 0) (.slice none 0 0) (.slice none 0 0) (.slice none 0 0) (.slice none 0 0) (.slice none 0 0) u0):=by
  have h:=Z6.new ((w.alloc (.cells #[.int .i64 td,.slice o fo.length oc,.slice a az.length ac,.slice c cs.length cc,.slice l ls.length lc,.slice g lg.length gc] 31))) (.int .i64 0) (.slice none 0 0) (.slice none 0 0) (.slice none 0 0) (.slice none 0 0) (.slice none 0 0) 31
  rw [Hid,hu0];simpa using h
 have HU0:Hid _:=hu0;clear hu0
 go_enter func84,ntmps84
 go_upto_region 1 with fail
 rw [← HU0.o];clear HU0;obtain ⟨t0,t1,t2,t3,t4,t5,s0,s1,s2,s3,s4,s5⟩:=HZ0.o;obtain ⟨q0,q1,q2,q3,q4,q5,p0,p1,p2,p3,p4,p5⟩:=HR0.o;have hwl:=Fy line;have hws:=Ee line;go_wp2_with fail
 refine (I8 line _ (by omega)).mono ?_
 rintro e u1 ⟨wa,wk,rfl,ow,b1⟩;obtain ⟨ws,hwe⟩:∃ ws,Ab line=ws:=⟨_,rfl⟩;rw [hwe] at ow hwl hws ⊢
 simp only [hwe] at HREL HSEL
 obtain ⟨gw,rfl⟩:∃ gw,wa=some ⟨gw,0,none⟩:=by
  rcases ow.2 with ⟨_,h⟩ | ⟨g,cap,uV,h,_⟩
  ·omega
  ·injection h with h _ _
   exact ⟨g,h⟩
 have HWC:Hid (∀ u,BW u1 u→∀ i,i<ws.length→u.cell? ⟨gw,i,none⟩=some (.string ⟨(Al ws i).toArray⟩)):=fun u h i hi=>by
  have:=(Kq ((Ep ow).below h) hi).1
  simpa using this
 have HWS:Hid (∀ i,i<ws.length→(Al ws i).length≤1048576):=fun i hi=>by have:=hws _ (F7 hi);omega
 have HOW:Hid (u1.ownsRow u0.heap.size 9 1 (.slice (some ⟨gw,0,none⟩) ws.length wk) ws.length (Am ws)):=ow;have HZ1:Hid (Z6 w.heap.size (.int .i64 td) (.slice o fo.length oc) (.slice a az.length ac) (.slice c cs.length cc) (.slice l ls.length lc) (.slice g lg.length gc) u1):=HZ0.o.below b1;have HR1:Hid (Z6 (w.heap.size+1) (.int .i64 0) (.slice none 0 0) (.slice none 0 0) (.slice none 0 0) (.slice none 0 0) (.slice none 0 0) u1):=HR0.o.below b1;have HB1:Hid (BW w u1):=next HB0.o b1
 have HS1:Hid (w.heap.size+1<u1.heap.size):=by have:=HS0.o;have:=b1.size;rw [Hid];omega
 have HUW:Hid (w.heap.size+1<u0.heap.size):=HS0.o;clear t0 t1 t2 t3 t4 t5 s0 s1 s2 s3 s4 s5 q0 q1 q2 q3 q4 q5 p0 p1 p2 p3 p4 p5 HZ0 HR0 HB0 HS0 b1 ow hws hwe
 have hn0:(0:Int)<(ws.length:Int):=by omega
 go_upto_region 2 with fail
 go_cut [17] (fun v wc=>v=.bool (Ca ws)∧wc=u1)
 case first =>
  have w0:=HWC.o u1 bR 0 (by omega)
  have HDY:Hid (Ca ws=(decide (Al ws 0=Eo) && (decide (ws.length=2) && decide (0≤Ae (Al ws 1))))):=rfl;obtain ⟨r0,hr0⟩:∃ r,Al ws 0=r:=⟨_,rfl⟩;rw [hr0] at w0 HDY
  by_cases hd:r0=Eo
  ·subst hd
   by_cases h2:ws.length=2
   ·have h2':((ws.length:Int) == 2)=true:=by simp;omega
    have h12:(1:Int)<(ws.length:Int):=by omega
    have w1:=HWC.o u1 bR 1 (by omega)
    have hnm:=Ha (Al ws 1) u1 (HWS.o 1 (by omega))
    obtain ⟨r1,hr1⟩:∃ r,Al ws 1=r:=⟨_,rfl⟩;rw [hr1] at w1 HDY hnm
    have HD2:Hid (Ca ws=decide (0≤Ae r1)):=by rw [Hid,HDY.o];simp [h2]
    unfold Eo at w0;clear h2
    go_wp2_with (go_at_call 140;refine hnm.mono ?_;rintro e w' ⟨rfl,hw'⟩;replace hw':=hw'.symm;subst hw')
    go_meet
    exact ⟨by rw [HD2.o],rfl⟩
   ·have h2':((ws.length:Int) == 2)=false:=by simp;omega
    have HD2:Hid (Ca ws=false):=by rw [Hid,HDY.o];simp [h2]
    unfold Eo at w0;clear h2;go_wp2;go_meet
    exact ⟨by rw [HD2.o],rfl⟩
  ·have hdb:(r0 == Eo)=false:=by simpa using hd
   have HD2:Hid (Ca ws=false):=by rw [Hid,HDY.o];simp [hd]
   unfold Eo at hdb;go_wp2;go_meet
   exact ⟨by rw [HD2.o],rfl⟩
 case rest =>
  obtain ⟨rfl,hwc⟩:=hcut;replace hwc:=hwc.symm;subst hwc
  have HEND:Hid (∀ r,LR r→r=(⟨td,fo,az,cs,ls,lg⟩,1)→LR (⟨td,fo,az,cs,ls,lg⟩,1)):=fun r h e=>e ▸ h
  cases hday:Ca ws
  case true=>exact absurd (hday.symm.trans HSEL.o.1) (by decide)
  case false =>
   go_upto_region 4 with fail
   go_cut [42] (fun v wc=>v=.bool (Bq ws)∧wc=u1)
   case first =>
    have w0:=HWC.o u1 bR 0 (by omega)
    have HDY:Hid (Bq ws=(decide (Al ws 0=Dy) && decide (ws.length=5))):=rfl;obtain ⟨r0,hr0⟩:∃ r,Al ws 0=r:=⟨_,rfl⟩;rw [hr0] at w0 HDY
    by_cases hd:r0=Dy
    ·subst hd
     by_cases h5:ws.length=5
     ·have h5':((ws.length:Int) == 5)=true:=by simp;omega
      have HD2:Hid (Bq ws=true):=by rw [Hid,HDY.o];simp [h5]
      unfold Dy at w0;clear h5;go_wp2;go_meet
      exact ⟨by rw [HD2.o],rfl⟩
     ·have h5':((ws.length:Int) == 5)=false:=by simp;omega
      have HD2:Hid (Bq ws=false):=by rw [Hid,HDY.o];simp [h5]
      unfold Dy at w0;clear h5;go_wp2;go_meet
      exact ⟨by rw [HD2.o],rfl⟩
    ·have hdb:(r0 == Dy)=false:=by simpa using hd
     have HD2:Hid (Bq ws=false):=by rw [Hid,HDY.o];simp [hd]
     unfold Dy at hdb;go_wp2;go_meet
     exact ⟨by rw [HD2.o],rfl⟩
   case rest =>
    obtain ⟨rfl,hwc⟩:=hcut;replace hwc:=hwc.symm;subst hwc
    cases hau:Bq ws
    case true=>exact absurd (hau.symm.trans HSEL.o.2.1) (by decide)
    case false =>
     go_upto_region 13 with fail
     go_cut [88] (fun v wc=>v=.bool (Da ws)∧wc=u1)
     case first =>
      have w0:=HWC.o u1 bR 0 (by omega)
      have HDY:Hid (Da ws=(decide (Al ws 0=I7) && decide (ws.length=5))):=rfl;obtain ⟨r0,hr0⟩:∃ r,Al ws 0=r:=⟨_,rfl⟩;rw [hr0] at w0 HDY
      by_cases hd:r0=I7
      ·subst hd
       by_cases h5:ws.length=5
       ·have h5':((ws.length:Int) == 5)=true:=by simp;omega
        have HD2:Hid (Da ws=true):=by rw [Hid,HDY.o];simp [h5]
        unfold I7 at w0;clear h5;go_wp2;go_meet
        exact ⟨by rw [HD2.o],rfl⟩
       ·have h5':((ws.length:Int) == 5)=false:=by simp;omega
        have HD2:Hid (Da ws=false):=by rw [Hid,HDY.o];simp [h5]
        unfold I7 at w0;clear h5;go_wp2;go_meet
        exact ⟨by rw [HD2.o],rfl⟩
      ·have hdb:(r0 == I7)=false:=by simpa using hd
       have HD2:Hid (Da ws=false):=by rw [Hid,HDY.o];simp [hd]
       unfold I7 at hdb;go_wp2;go_meet
       exact ⟨by rw [HD2.o],rfl⟩
     case rest =>
      obtain ⟨rfl,hwc⟩:=hcut;replace hwc:=hwc.symm;subst hwc
      cases hpa:Da ws
      case true =>
       have h5:ws.length=5:=by simp [Da] at hpa;exact hpa.2
       have HR':Hid (∀ r,(if Ap (ws.drop 1)=true then Pay ⟨td,fo,az,cs,ls,lg⟩ (Ae (Al ws 1)) (Ae (Al ws 2)) (Ae (Al ws 3)) (Ae (Al ws 4)) r else r=(⟨td,fo,az,cs,ls,lg⟩,1))→LR r):=fun r h=>by rw [HREL.o r,if_neg (by rw [hday];decide),if_neg (by rw [hau];decide),if_pos hpa];exact h
       match ws,h5 with
       | [x0,x1,x2,x3,x4],_ =>
       have hcap:5≤wk:=by
        rcases HOW.o.2 with ⟨h,_⟩ | ⟨g',cap,uV,h,_,_,h1,_⟩
        ·cases h
        ·injection h with _ _ h
         subst h
         simpa using h1
       have HTX:Hid (Bh u1 (some ⟨gw,1,none⟩) [x1,x2,x3,x4]):=.inr ⟨gw,1,rfl,World.block_lt_of_cell? u1 _ (HWC.o u1 bR 0 (by simp)),fun i hi=>by
        have:=HWC.o u1 bR (1+i) (by simp at hi ⊢;omega)
        rw [this]
        simp at hi
        rcases (show i=0∨i=1∨i=2∨i=3 by omega) with rfl | rfl | rfl | rfl <;> rfl⟩
       have HNU:Hid (Calls prog 142 #[.slice (some ⟨gw,1,none⟩) 4 (wk - 1)] u1 fun e w'=>∃ a k,e=.returned (.tuple #[.slice a (A7 [x1,x2,x3,x4]).length k,.bool (Ap [x1,x2,x3,x4])])∧w'.ownsRow u1.heap.size 3 1 (.slice a (A7 [x1,x2,x3,x4]).length k) (A7 [x1,x2,x3,x4]).length ((A7 [x1,x2,x3,x4]).map (Value.int .i64))∧BW u1 w'):=Nw (some ⟨gw,1,none⟩) (wk - 1) [x1,x2,x3,x4] u1 HTX.o (by simp) (fun r hr=>by
        simp at hr
        rcases hr with rfl | rfl | rfl | rfl
        ·exact HWS.o 1 (by simp)
        ·exact HWS.o 2 (by simp)
        ·exact HWS.o 3 (by simp)
        ·exact HWS.o 4 (by simp))
       simp only [List.length_cons,List.length_nil,Nat.zero_add,Nat.reduceAdd] at hwl hn0 ⊢
       have hcap':(5:Int)≤(wk:Int):=by omega
       have HRA:Hid (∀ r,(if Ap [x1,x2,x3,x4]=true then Pay ⟨td,fo,az,cs,ls,lg⟩ (Ae x1) (Ae x2) (Ae x3) (Ae x4) r else r=(⟨td,fo,az,cs,ls,lg⟩,1))→LR r):=HR'.o
       clear HR' HREL HWC HWS HTX HEND HOW hau hday hpa;go_wp2_with fail
       refine Calls.mono HNU.o ?_;rintro e u2 ⟨na,nk,rfl,on,b2⟩;have HZ2:Hid (Z6 w.heap.size (.int .i64 td) (.slice o fo.length oc) (.slice a az.length ac) (.slice c cs.length cc) (.slice l ls.length lc) (.slice g lg.length gc) u2):=HZ1.o.below b2;have HR2:Hid (Z6 (w.heap.size+1) (.int .i64 0) (.slice none 0 0) (.slice none 0 0) (.slice none 0 0) (.slice none 0 0) (.slice none 0 0) u2):=HR1.o.below b2;have HB2:Hid (BW w u2):=next HB1.o b2
       have HS2:Hid (w.heap.size+1<u2.heap.size):=by have:=HS1.o;have:=b2.size;rw [Hid];omega
       clear b2 HZ1 HR1 HB1 HS1 HNU
       cases hok:Ap [x1,x2,x3,x4]
       case false =>
        have HE:Hid (LR (⟨td,fo,az,cs,ls,lg⟩,1)):=HRA.o _ (by rw [if_neg (by rw [hok];decide)])
        obtain ⟨LN,hLN⟩:∃ L,A7 [x1,x2,x3,x4]=L:=⟨_,rfl⟩;rw [hLN];clear on hLN;obtain ⟨t0,t1,t2,t3,t4,t5,s0,s1,s2,s3,s4,s5⟩:=HZ2.o;obtain ⟨q0,q1,q2,q3,q4,q5,p0,p1,p2,p3,p4,p5⟩:=HR2.o;go_wp2
        refine bodyPost_ret (by simp [results,results84,go_sem,q0,q1,q2,q3,q4,q5];try rfl) rfl ?_
        have bel:=Ax (R:=w.heap.size+1) (by omega) HB2.o
        exact ⟨(⟨td,fo,az,cs,ls,lg⟩,1),HE.o,⟨o,oc,a,ac,c,cc,l,lc,g,gc⟩,rfl,HX.o _ (bel _ _ _ _ _ _),rfl,rfl,⟨rfl,.inl rfl,.inl rfl,.inl rfl⟩,bel _ _ _ _ _ _⟩
       case true =>
        have hnv:A7 [x1,x2,x3,x4]=[Ae x1,Ae x2,Ae x3,Ae x4]:=if_pos hok;rw [hnv] at on ⊢
        have HE:Hid (∀ r,Pay ⟨td,fo,az,cs,ls,lg⟩ (Ae x1) (Ae x2) (Ae x3) (Ae x4) r→LR r):=fun r h=>HRA.o r (by rw [if_pos hok];exact h)
        have hb4:=Ib x4;obtain ⟨n1,hn1⟩:∃ n,Ae x1=n:=⟨_,rfl⟩;obtain ⟨n2,hn2⟩:∃ n,Ae x2=n:=⟨_,rfl⟩;obtain ⟨n3,hn3⟩:∃ n,Ae x3=n:=⟨_,rfl⟩;obtain ⟨n4,hn4⟩:∃ n,Ae x4=n:=⟨_,rfl⟩;rw [hn1,hn2,hn3,hn4] at on HE;rw [hn4] at hb4
        simp only [List.length_cons,List.length_nil,Nat.zero_add,Nat.reduceAdd] at on ⊢
        obtain ⟨ng,rfl⟩:∃ ng,na=some ⟨ng,0,none⟩:=by
         rcases on.2 with ⟨h,_⟩ | ⟨g',cap,uV,h,_⟩
         ·cases h
         ·injection h with h _ _
          exact ⟨g',h⟩
        have c0:=on.cellAt 0 (by omega)
        have c1:=on.cellAt 1 (by omega)
        have c2:=on.cellAt 2 (by omega)
        have c3:=on.cellAt 3 (by omega)
        simp at c0 c1 c2 c3
        have HPC:Hid (Calls prog 144 #[.agg #[.int .i64 td,.slice o fo.length oc,.slice a az.length ac,.slice c cs.length cc,.slice l ls.length lc,.slice g lg.length gc],.slice (some ⟨ng,0,none⟩) 4 nk] u2 fun e w'=>∃ r,Pay ⟨td,fo,az,cs,ls,lg⟩ n1 n2 n3 n4 r∧U8 u2 ⟨o,oc,a,ac,c,cc,l,lc,g,gc⟩ r.1 r.2 e w'):=ST.pay ⟨td,fo,az,cs,ls,lg⟩ ⟨o,oc,a,ac,c,cc,l,lc,g,gc⟩ ng nk n1 n2 n3 n4 u2 (HX.o _ HB2.o) (HAB.o.mono HB2.o.size) HPRE.o c0 c1 c2 c3 hb4.2 hb4.1
        clear hn1 hn2 hn3 hn4 hnv HRA on hok c0 c1 c2 c3 hb4;obtain ⟨t0,t1,t2,t3,t4,t5,s0,s1,s2,s3,s4,s5⟩:=HZ2.o;obtain ⟨q0,q1,q2,q3,q4,q5,p0,p1,p2,p3,p4,p5⟩:=HR2.o;go_wp2_with fail
        refine Calls.mono HPC.o ?_;rintro e u4 ⟨⟨⟨td2,fo2,az2,cs2,ls2,lg2⟩,code⟩,hpr,qq,rfl,hb4,hg4,hgc4,hpt,b4⟩;have HB4:Hid _:=hb4;have HG4:Hid _:=And.intro hg4 (And.intro hgc4 hpt);have HBB:Hid (BW u2 u4):=b4;have HR4:Hid (Z6 (w.heap.size+1) (.int .i64 0) (.slice none 0 0) (.slice none 0 0) (.slice none 0 0) (.slice none 0 0) (.slice none 0 0) u4):=HR2.o.below b4;have HL:Hid _:=HE.o _ hpr;clear t0 t1 t2 t3 t4 t5 s0 s1 s2 s3 s4 s5 q0 q1 q2 q3 q4 q5 p0 p1 p2 p3 p4 p5 b4 hb4 hg4 hgc4 hpt hpr HPC;obtain ⟨q0,q1,q2,q3,q4,q5,p0,p1,p2,p3,p4,p5⟩:=HR4.o;unfold C5
        simp only
        go_wp2
        refine bodyPost_ret (by simp [results,results84,go_sem,q0,q1,q2,q3,q4,q5];try rfl) rfl ?_
        obtain ⟨hg4,hgc4,hpt⟩:=HG4.o
        first
         | exact ⟨⟨td2,fo2,az2,cs2,ls2,lg2⟩,code,HL.o,Qp HAB.o HB2.o (by omega) HS2.o HB4.o hg4 hgc4 hpt HBB.o _ _ _ _ _ _⟩
         | exact ⟨(⟨td2,fo2,az2,cs2,ls2,lg2⟩,code),HL.o,Qp HAB.o HB2.o (by omega) HS2.o HB4.o hg4 hgc4 hpt HBB.o _ _ _ _ _ _⟩
      case false=>exact absurd (hpa.symm.trans HSEL.o.2.2) (by decide)
end Go.Proofs.YtomiclakhjncbaaGreatDoor
