import Derived.Test.YtomiclakhjncbaaGreatDoorJE2a
namespace Go.Proofs.YtomiclakhjncbaaGreatDoor
open Go.RowKit Go.Proofs.Tryz
set_option maxRecDepth 100000
set_option maxHeartbeats 12800000
theorem Zh (F:Ff) (K:Nc F) {Pre:Bk→Prop} (hsm:∀ b,Pre b→D0 b) {Pay:Bk→Int→Int→Int→Int→Bk×Int→Prop} {Act:Bk→Int→Ac→Bk×Int} (ST:Tp Pre Pay Act) (b:Bk) (p:Bp) (line:List UInt8) (w:World) (hx:Aq w b p) (hah:Vb p w.heap.size) (hp:Pre b) (hl:line.length≤1048575) (hsel:Ca (Ab line)=false∧Bq (Ab line)=false∧Da (Ab line)=false) :
  Calls prog 84 #[C5 b p,.string ⟨line.toArray⟩] w fun e w'=>∃ r,Db F Pay Act b line r∧U8 w p r.1 r.2 e w':=by
 have hn:=hsm b hp;have HPRE:Hid (Pre b):=hp;have HSEL:Hid (Ca (Ab line)=false∧Bq (Ab line)=false∧Da (Ab line)=false):=hsel;clear hsel;have HAB:Hid (Vb p w.heap.size):=hah
 have HREL:Hid (∀ r,Db F Pay Act b line r=(if Ca (Ab line)=true then r=Fr F b (Ae (Al (Ab line) 1))
  else if Bq (Ab line)=true then (if Ap ((Ab line).drop 2)=true then r=Fq F b (Al (Ab line) 1) (Ae (Al (Ab line) 2)) (Ae (Al (Ab line) 3)) (Ae (Al (Ab line) 4)) else r=(b,1))
  else if Da (Ab line)=true then (if Ap ((Ab line).drop 1)=true then Pay b (Ae (Al (Ab line) 1)) (Ae (Al (Ab line) 2)) (Ae (Al (Ab line) 3)) (Ae (Al (Ab line) 4)) r else r=(b,1))
  else if Fl (Ab line)=true then (if Ap [Al (Ab line) 1,Al (Ab line) 3,Al (Ab line) 4]=true then r=Act b (Ae (Al (Ab line) 1)) ⟨Bz (Al (Ab line) 2),Ae (Al (Ab line) 3),Ae (Al (Ab line) 4)⟩ else r=(b,1))
  else r=(b,1))):=fun r=>rfl
 obtain ⟨LR,hLR⟩:∃ L,Db F Pay Act b line=L:=⟨_,rfl⟩
 simp only [hLR] at HREL ⊢
 clear hp hah hLR
 have HDAY:Hid (∀ n u,BW w u→Calls prog 141 #[C5 b p,.int .i64 n] u (U8 u p (Fr F b n).1 (Fr F b n).2)):=fun n u h=>Mj F K b p n u (hx.below h) hn
 have HX:Hid (∀ u,BW w u→Aq u b p):=fun u h=>hx.below h
 have HN:Hid (D0 b):=hn;clear hx hn;obtain ⟨td,fo,az,cs,ls,lg⟩:=b;obtain ⟨o,oc,a,ac,c,cc,l,lc,g,gc⟩:=p;unfold C5 at HDAY ⊢
 simp only at HDAY ⊢
 obtain ⟨u0,hu0⟩:∃ u,u=((w.alloc (.cells #[.int .i64 td,.slice o fo.length oc,.slice a az.length ac,.slice c cs.length cc,.slice l ls.length lc,.slice g lg.length gc] 31))).alloc (.cells qzB 31):=⟨_,rfl⟩
 have HB0:Hid (BW w u0):=by rw [Hid,hu0];go_grown
 have HS0:Hid ((w.heap.size+1)<u0.heap.size):=by rw [Hid,hu0];simp
 have HZ0:Hid (Z6 w.heap.size (.int .i64 td) (.slice o fo.length oc) (.slice a az.length ac) (.slice c cs.length cc) (.slice l ls.length lc) (.slice g lg.length gc) u0):=by
  rw [Hid,hu0];exact ((Z6.new w (.int .i64 td) (.slice o fo.length oc) (.slice a az.length ac) (.slice c cs.length cc) (.slice l ls.length lc) (.slice g lg.length gc) 31)).below (bR.alloc nL _)
 have HR0:Hid (Z6 (w.heap.size+1) (.int .i64 0) (.slice none 0 0) (.slice none 0 0) (.slice none 0 0) (.slice none 0 0) (.slice none 0 0) u0):=by
  have h:=Z6.new ((w.alloc (.cells #[.int .i64 td,.slice o fo.length oc,.slice a az.length ac,.slice c cs.length cc,.slice l ls.length lc,.slice g lg.length gc] 31))) (.int .i64 0) (.slice none 0 0) (.slice none 0 0) (.slice none 0 0) (.slice none 0 0) (.slice none 0 0) 31
  rw [Hid,hu0];simpa using h
 have HU0:Hid _:=hu0;clear hu0
 go_enter func84,ntmps84
 go_upto_region 1 with fail
 rw [← HU0.o];clear HU0;obtain ⟨t0,t1,t2,t3,t4,t5,s0,s1,s2,s3,s4,s5⟩:=HZ0.o;obtain ⟨q0,q1,q2,q3,q4,q5,p0,p1,p2,p3,p4,p5⟩:=HR0.o;have hwl:=Fy line;have hws:=Ee line;go_wp2_with fail
 refine (I8 line _ (by omega)).mono ?_
 rintro e u1 ⟨wa,wk,rfl,ow,b1⟩;obtain ⟨ws,hwe⟩:∃ ws,Ab line=ws:=⟨_,rfl⟩;rw [hwe] at ow hwl hws ⊢
 simp only [hwe] at HREL HSEL
 obtain ⟨gw,rfl⟩:∃ gw,wa=some ⟨gw,0,none⟩:=by
  rcases ow.2 with ⟨_,h⟩ | ⟨g,cap,uV,h,_⟩
  ·omega
  ·injection h with h _ _
   exact ⟨g,h⟩
 have HWC:Hid (∀ u,BW u1 u→∀ i,i<ws.length→u.cell? ⟨gw,i,none⟩=some (.string ⟨(Al ws i).toArray⟩)):=fun u h i hi=>by
  have:=(Kq ((Ep ow).below h) hi).1
  simpa using this
 have HWS:Hid (∀ i,i<ws.length→(Al ws i).length≤1048576):=fun i hi=>by have:=hws _ (F7 hi);omega
 have HOW:Hid (u1.ownsRow u0.heap.size 9 1 (.slice (some ⟨gw,0,none⟩) ws.length wk) ws.length (Am ws)):=ow;have HZ1:Hid (Z6 w.heap.size (.int .i64 td) (.slice o fo.length oc) (.slice a az.length ac) (.slice c cs.length cc) (.slice l ls.length lc) (.slice g lg.length gc) u1):=HZ0.o.below b1;have HR1:Hid (Z6 (w.heap.size+1) (.int .i64 0) (.slice none 0 0) (.slice none 0 0) (.slice none 0 0) (.slice none 0 0) (.slice none 0 0) u1):=HR0.o.below b1;have HB1:Hid (BW w u1):=next HB0.o b1
 have HS1:Hid (w.heap.size+1<u1.heap.size):=by have:=HS0.o;have:=b1.size;rw [Hid];omega
 have HUW:Hid (w.heap.size+1<u0.heap.size):=HS0.o;clear t0 t1 t2 t3 t4 t5 s0 s1 s2 s3 s4 s5 q0 q1 q2 q3 q4 q5 p0 p1 p2 p3 p4 p5 HZ0 HR0 HB0 HS0 b1 ow hws hwe
 have hn0:(0:Int)<(ws.length:Int):=by omega
 go_upto_region 2 with fail
 go_cut [17] (fun v wc=>v=.bool (Ca ws)∧wc=u1)
 case first =>
  have w0:=HWC.o u1 bR 0 (by omega)
  have HDY:Hid (Ca ws=(decide (Al ws 0=Eo) && (decide (ws.length=2) && decide (0≤Ae (Al ws 1))))):=rfl;obtain ⟨r0,hr0⟩:∃ r,Al ws 0=r:=⟨_,rfl⟩;rw [hr0] at w0 HDY
  by_cases hd:r0=Eo
  ·subst hd
   by_cases h2:ws.length=2
   ·have h2':((ws.length:Int) == 2)=true:=by simp;omega
    have h12:(1:Int)<(ws.length:Int):=by omega
    have w1:=HWC.o u1 bR 1 (by omega)
    have hnm:=Ha (Al ws 1) u1 (HWS.o 1 (by omega))
    obtain ⟨r1,hr1⟩:∃ r,Al ws 1=r:=⟨_,rfl⟩;rw [hr1] at w1 HDY hnm
    have HD2:Hid (Ca ws=decide (0≤Ae r1)):=by rw [Hid,HDY.o];simp [h2]
    unfold Eo at w0;clear h2
    go_wp2_with (go_at_call 140;refine hnm.mono ?_;rintro e w' ⟨rfl,hw'⟩;replace hw':=hw'.symm;subst hw')
    go_meet
    exact ⟨by rw [HD2.o],rfl⟩
   ·have h2':((ws.length:Int) == 2)=false:=by simp;omega
    have HD2:Hid (Ca ws=false):=by rw [Hid,HDY.o];simp [h2]
    unfold Eo at w0;clear h2;go_wp2;go_meet
    exact ⟨by rw [HD2.o],rfl⟩
  ·have hdb:(r0 == Eo)=false:=by simpa using hd
   have HD2:Hid (Ca ws=false):=by rw [Hid,HDY.o];simp [hd]
   unfold Eo at hdb;go_wp2;go_meet
   exact ⟨by rw [HD2.o],rfl⟩
 case rest =>
  obtain ⟨rfl,hwc⟩:=hcut;replace hwc:=hwc.symm;subst hwc
  have HEND:Hid (∀ r,LR r→r=(⟨td,fo,az,cs,ls,lg⟩,1)→LR (⟨td,fo,az,cs,ls,lg⟩,1)):=fun r h e=>e ▸ h
  cases hday:Ca ws
  case true=>exact absurd (hday.symm.trans HSEL.o.1) (by decide)
  case false =>
   go_upto_region 4 with fail
   go_cut [42] (fun v wc=>v=.bool (Bq ws)∧wc=u1)
   case first =>
    have w0:=HWC.o u1 bR 0 (by omega)
    have HDY:Hid (Bq ws=(decide (Al ws 0=Dy) && decide (ws.length=5))):=rfl;obtain ⟨r0,hr0⟩:∃ r,Al ws 0=r:=⟨_,rfl⟩;rw [hr0] at w0 HDY
    by_cases hd:r0=Dy
    ·subst hd
     by_cases h5:ws.length=5
     ·have h5':((ws.length:Int) == 5)=true:=by simp;omega
      have HD2:Hid (Bq ws=true):=by rw [Hid,HDY.o];simp [h5]
      unfold Dy at w0;clear h5;go_wp2;go_meet
      exact ⟨by rw [HD2.o],rfl⟩
     ·have h5':((ws.length:Int) == 5)=false:=by simp;omega
      have HD2:Hid (Bq ws=false):=by rw [Hid,HDY.o];simp [h5]
      unfold Dy at w0;clear h5;go_wp2;go_meet
      exact ⟨by rw [HD2.o],rfl⟩
    ·have hdb:(r0 == Dy)=false:=by simpa using hd
     have HD2:Hid (Bq ws=false):=by rw [Hid,HDY.o];simp [hd]
     unfold Dy at hdb;go_wp2;go_meet
     exact ⟨by rw [HD2.o],rfl⟩
   case rest =>
    obtain ⟨rfl,hwc⟩:=hcut;replace hwc:=hwc.symm;subst hwc
    cases hau:Bq ws
    case true=>exact absurd (hau.symm.trans HSEL.o.2.1) (by decide)
    case false =>
     go_upto_region 13 with fail
     go_cut [88] (fun v wc=>v=.bool (Da ws)∧wc=u1)
     case first =>
      have w0:=HWC.o u1 bR 0 (by omega)
      have HDY:Hid (Da ws=(decide (Al ws 0=I7) && decide (ws.length=5))):=rfl;obtain ⟨r0,hr0⟩:∃ r,Al ws 0=r:=⟨_,rfl⟩;rw [hr0] at w0 HDY
      by_cases hd:r0=I7
      ·subst hd
       by_cases h5:ws.length=5
       ·have h5':((ws.length:Int) == 5)=true:=by simp;omega
        have HD2:Hid (Da ws=true):=by rw [Hid,HDY.o];simp [h5]
        unfold I7 at w0;clear h5;go_wp2;go_meet
        exact ⟨by rw [HD2.o],rfl⟩
       ·have h5':((ws.length:Int) == 5)=false:=by simp;omega
        have HD2:Hid (Da ws=false):=by rw [Hid,HDY.o];simp [h5]
        unfold I7 at w0;clear h5;go_wp2;go_meet
        exact ⟨by rw [HD2.o],rfl⟩
      ·have hdb:(r0 == I7)=false:=by simpa using hd
       have HD2:Hid (Da ws=false):=by rw [Hid,HDY.o];simp [hd]
       unfold I7 at hdb;go_wp2;go_meet
       exact ⟨by rw [HD2.o],rfl⟩
     case rest =>
      obtain ⟨rfl,hwc⟩:=hcut;replace hwc:=hwc.symm;subst hwc
      cases hpa:Da ws
      case true=>exact absurd (hpa.symm.trans HSEL.o.2.2) (by decide)
      case false =>
       go_upto_region 18 with fail
       go_cut [112] (fun v wc=>v=.bool (Fl ws)∧BW u1 wc)
       case first =>
        have w0:=HWC.o u1 bR 0 (by omega)
        have HDY:Hid (Fl ws=(decide (Al ws 0=Nz) && (decide (ws.length=5) && decide (0≤Bz (Al ws 2))))):=rfl;obtain ⟨r0,hr0⟩:∃ r,Al ws 0=r:=⟨_,rfl⟩;rw [hr0] at w0 HDY
        by_cases hd:r0=Nz
        ·subst hd
         by_cases h5:ws.length=5
         ·have h5':((ws.length:Int) == 5)=true:=by simp;omega
          have h25:(2:Int)<(ws.length:Int):=by omega
          have w2:=HWC.o u1 bR 2 (by omega)
          have hnk:=Tl (Al ws 2) u1 (HWS.o 2 (by omega))
          obtain ⟨r2,hr2⟩:∃ r,Al ws 2=r:=⟨_,rfl⟩;rw [hr2] at w2 HDY hnk
          have HD2:Hid (Fl ws=decide (0≤Bz r2)):=by rw [Hid,HDY.o];simp [h5]
          have HNK:Hid _:=hnk;unfold Nz at w0;clear h5 hnk
          go_wp2_with (go_at_call 145;refine Calls.mono HNK.o ?_;rintro e u2 ⟨rfl,bk⟩)
          go_meet
          exact ⟨by rw [HD2.o],bk⟩
         ·have h5':((ws.length:Int) == 5)=false:=by simp;omega
          have HD2:Hid (Fl ws=false):=by rw [Hid,HDY.o];simp [h5]
          unfold Nz at w0;clear h5;go_wp2;go_meet
          exact ⟨by rw [HD2.o],bR⟩
        ·have hdb:(r0 == Nz)=false:=by simpa using hd
         have HD2:Hid (Fl ws=false):=by rw [Hid,HDY.o];simp [hd]
         unfold Nz at hdb;go_wp2;go_meet
         exact ⟨by rw [HD2.o],bR⟩
       case rest =>
        obtain ⟨rfl,bc⟩:=hcut;have HZ2:Hid (Z6 w.heap.size (.int .i64 td) (.slice o fo.length oc) (.slice a az.length ac) (.slice c cs.length cc) (.slice l ls.length lc) (.slice g lg.length gc) wc):=HZ1.o.below bc;have HR2:Hid (Z6 (w.heap.size+1) (.int .i64 0) (.slice none 0 0) (.slice none 0 0) (.slice none 0 0) (.slice none 0 0) (.slice none 0 0) wc):=HR1.o.below bc;have HB2:Hid (BW w wc):=next HB1.o bc
        have HS2:Hid (w.heap.size+1<wc.heap.size):=by have:=HS1.o;have:=bc.size;rw [Hid];omega
        have HWC2:Hid (∀ u,BW wc u→∀ i,i<ws.length→u.cell? ⟨gw,i,none⟩=some (.string ⟨(Al ws i).toArray⟩)):=fun u h i hi=>HWC.o u (next bc h) i hi
        have HGW:Hid (w.heap.size+1<gw):=by rw [Hid];have:=(HOW.o.lt gw rfl).1;have:=HUW.o;omega
        clear bc HZ1 HR1 HB1 HS1 HWC
        cases hac:Fl ws
        case false =>
         have HE:Hid (LR (⟨td,fo,az,cs,ls,lg⟩,1)):=by rw [Hid,HREL.o,if_neg (by rw [hday];decide),if_neg (by rw [hau];decide),if_neg (by rw [hpa];decide),if_neg (by rw [hac];decide)]
         obtain ⟨t0,t1,t2,t3,t4,t5,s0,s1,s2,s3,s4,s5⟩:=HZ2.o;obtain ⟨q0,q1,q2,q3,q4,q5,p0,p1,p2,p3,p4,p5⟩:=HR2.o;go_wp2
         refine bodyPost_ret (by simp [results,results84,go_sem,q0,q1,q2,q3,q4,q5];try rfl) rfl ?_
         have bel:=Ax (R:=w.heap.size+1) (by omega) HB2.o
         exact ⟨(⟨td,fo,az,cs,ls,lg⟩,1),HE.o,⟨o,oc,a,ac,c,cc,l,lc,g,gc⟩,rfl,HX.o _ (bel _ _ _ _ _ _),rfl,rfl,⟨rfl,.inl rfl,.inl rfl,.inl rfl⟩,bel _ _ _ _ _ _⟩
        case true =>
         have h5:ws.length=5:=by simp [Fl] at hac;exact hac.2.1
         have HR':Hid (∀ r,(if Ap [Al ws 1,Al ws 3,Al ws 4]=true then r=Act ⟨td,fo,az,cs,ls,lg⟩ (Ae (Al ws 1)) ⟨Bz (Al ws 2),Ae (Al ws 3),Ae (Al ws 4)⟩ else r=(⟨td,fo,az,cs,ls,lg⟩,1))→LR r):=fun r h=>by rw [HREL.o r,if_neg (by rw [hday];decide),if_neg (by rw [hau];decide),if_neg (by rw [hpa];decide),if_pos hac];exact h
         match ws,h5 with
         | [x0,x1,x2,x3,x4],_ =>
         have HNU:Hid (∀ (u:World) (bk:Nat),u.cell? ⟨bk,0,none⟩=some (.string ⟨x1.toArray⟩)→u.cell? ⟨bk,1,none⟩=some (.string ⟨x3.toArray⟩)→u.cell? ⟨bk,2,none⟩=some (.string ⟨x4.toArray⟩)→Calls prog 142 #[.slice (some ⟨bk,0,none⟩) 3 3] u fun e w'=>∃ a k,e=.returned (.tuple #[.slice a (A7 [x1,x3,x4]).length k,.bool (Ap [x1,x3,x4])])∧w'.ownsRow u.heap.size 3 1 (.slice a (A7 [x1,x3,x4]).length k) (A7 [x1,x3,x4]).length ((A7 [x1,x3,x4]).map (Value.int .i64))∧BW u w'):=fun u bk e0 e1 e2=>Nw (some ⟨bk,0,none⟩) 3 [x1,x3,x4] u (.inr ⟨bk,0,rfl,World.block_lt_of_cell? u _ e0,fun i hi=>by
           simp at hi
           rcases (show i=0∨i=1∨i=2 by omega) with rfl | rfl | rfl
           ·exact e0
           ·exact e1
           ·exact e2⟩) (by simp) (fun r hr=>by
          simp at hr
          rcases hr with rfl | rfl | rfl
          ·exact HWS.o 1 (by simp)
          ·exact HWS.o 3 (by simp)
          ·exact HWS.o 4 (by simp))
         have HKI:Hid (∀ u,Calls prog 145 #[.string ⟨x2.toArray⟩] u fun e w'=>e=.returned (.int .i64 (Bz x2))∧BW u w'):=fun u=>Tl x2 u (HWS.o 2 (by simp))
         have HWW:Hid (∀ u,BW wc u→u.cell? ⟨gw,1,none⟩=some (.string ⟨x1.toArray⟩)∧u.cell? ⟨gw,3,none⟩=some (.string ⟨x3.toArray⟩)∧u.cell? ⟨gw,4,none⟩=some (.string ⟨x4.toArray⟩)):=fun u h=>⟨HWC2.o u h 1 (by simp),HWC2.o u h 3 (by simp),HWC2.o u h 4 (by simp)⟩
         have HW2:Hid (∀ u,BW wc u→u.cell? ⟨gw,2,none⟩=some (.string ⟨x2.toArray⟩)):=fun u h=>HWC2.o u h 2 (by simp)
         simp only [List.length_cons,List.length_nil,Nat.zero_add,Nat.reduceAdd] at hwl hn0 ⊢
         have HRA:Hid (∀ r,(if Ap [x1,x3,x4]=true then r=Act ⟨td,fo,az,cs,ls,lg⟩ (Ae x1) ⟨Bz x2,Ae x3,Ae x4⟩ else r=(⟨td,fo,az,cs,ls,lg⟩,1))→LR r):=HR'.o
         clear HR' HREL HWC2 HWS HEND HOW hau hday hpa hac HUW;obtain ⟨uc,huc⟩:∃ u,u=wc:=⟨_,rfl⟩;subst huc;go_upto_region 19 with fail
         go_cut [13,14] (fun v13 v14 wz=>∃ na nk,v13=.slice na (A7 [x1,x3,x4]).length nk∧v14=.bool (Ap [x1,x3,x4])∧wz.ownsRow uc.heap.size 3 1 (.slice na (A7 [x1,x3,x4]).length nk) (A7 [x1,x3,x4]).length ((A7 [x1,x3,x4]).map (Value.int .i64))∧BW uc wz)
         case first =>
          have k0:BW uc uc:=bR;obtain ⟨w1,w3,w4⟩:=HWW.o uc k0
          go_region_held3 (fun u=>u.cell? ⟨gw,1,none⟩=some (.string ⟨x1.toArray⟩)∧u.cell? ⟨gw,3,none⟩=some (.string ⟨x3.toArray⟩)∧u.cell? ⟨gw,4,none⟩=some (.string ⟨x4.toArray⟩)) (first | with_reducible exact HWW.o _ kz | with_reducible exact HWW.o _ k0 | with_reducible exact HWW.o _ k0.drew | with_reducible exact HWW.o _ (k0.alloc nL _) | with_reducible exact HWW.o _ ((k0.alloc nL _).drew) | with_reducible exact HWW.o _ (k0.drew.alloc nL _)) ((first
           | (go_at_call 142;refine Calls.mono (HNU.o _ _ (by simp) (by simp) (by simp)) ?_;rintro e u4 ⟨na,nk,rfl,on,b4⟩;have kz:BW uc u4:=Below.trans (by go_grown) (b4.mono (by simp)))))
          all_goals
           go_wp2_with fail
           go_meet
           exact ⟨na,nk,rfl,rfl,Bi on (by simp),kz⟩
         case rest =>
          obtain ⟨na,nk,rfl,rfl,on,bz⟩:=hcut;have HZ3:Hid (Z6 w.heap.size (.int .i64 td) (.slice o fo.length oc) (.slice a az.length ac) (.slice c cs.length cc) (.slice l ls.length lc) (.slice g lg.length gc) wc):=HZ2.o.below bz;have HR3:Hid (Z6 (w.heap.size+1) (.int .i64 0) (.slice none 0 0) (.slice none 0 0) (.slice none 0 0) (.slice none 0 0) (.slice none 0 0) wc):=HR2.o.below bz;have HB3:Hid (BW w wc):=next HB2.o bz
          have HS3:Hid (w.heap.size+1<wc.heap.size):=by have:=HS2.o;have:=bz.size;rw [Hid];omega
          have HW3:Hid (wc.cell? ⟨gw,2,none⟩=some (.string ⟨x2.toArray⟩)):=HW2.o wc bz;have HN3:Hid (w.heap.size+1<uc.heap.size):=HS2.o;clear bz HZ2 HR2 HB2 HS2 HNU HWW HW2
          cases hok:Ap [x1,x3,x4]
          case false =>
           have HE:Hid (LR (⟨td,fo,az,cs,ls,lg⟩,1)):=HRA.o _ (by rw [if_neg (by rw [hok];decide)])
           obtain ⟨LN,hLN⟩:∃ L,A7 [x1,x3,x4]=L:=⟨_,rfl⟩;rw [hLN];clear on hLN;obtain ⟨t0,t1,t2,t3,t4,t5,s0,s1,s2,s3,s4,s5⟩:=HZ3.o;obtain ⟨q0,q1,q2,q3,q4,q5,p0,p1,p2,p3,p4,p5⟩:=HR3.o;go_wp2
           refine bodyPost_ret (by simp [results,results84,go_sem,q0,q1,q2,q3,q4,q5];try rfl) rfl ?_
           have bel:=Ax (R:=w.heap.size+1) (by omega) HB3.o
           exact ⟨(⟨td,fo,az,cs,ls,lg⟩,1),HE.o,⟨o,oc,a,ac,c,cc,l,lc,g,gc⟩,rfl,HX.o _ (bel _ _ _ _ _ _),rfl,rfl,⟨rfl,.inl rfl,.inl rfl,.inl rfl⟩,bel _ _ _ _ _ _⟩
          case true =>
           have hnv:A7 [x1,x3,x4]=[Ae x1,Ae x3,Ae x4]:=if_pos hok;rw [hnv] at on ⊢
           have HE:Hid (LR (Act ⟨td,fo,az,cs,ls,lg⟩ (Ae x1) ⟨Bz x2,Ae x3,Ae x4⟩)):=HRA.o _ (by rw [if_pos hok])
           obtain ⟨m0,hm0⟩:∃ n,Ae x1=n:=⟨_,rfl⟩;obtain ⟨m1,hm1⟩:∃ n,Ae x3=n:=⟨_,rfl⟩;obtain ⟨m2,hm2⟩:∃ n,Ae x4=n:=⟨_,rfl⟩;obtain ⟨kd,hkd⟩:∃ n,Bz x2=n:=⟨_,rfl⟩;rw [hm0,hm1,hm2] at on HE;rw [hkd] at HE HKI
           simp only [List.length_cons,List.length_nil,Nat.zero_add,Nat.reduceAdd] at on ⊢
           obtain ⟨ng,rfl⟩:∃ ng,na=some ⟨ng,0,none⟩:=by
            rcases on.2 with ⟨h,_⟩ | ⟨g',cap,uV,h,_⟩
            ·cases h
            ·injection h with h _ _
             exact ⟨g',h⟩
           have hng:w.heap.size+1<ng:=by have:=(on.lt ng rfl).1;have:=HN3.o;omega
           have c0:=on.cellAt 0 (by omega)
           have c1:=on.cellAt 1 (by omega)
           have c2:=on.cellAt 2 (by omega)
           simp at c0 c1 c2
           have w2:=HW3.o
           have HAC:Hid (∀ u,BW w u→Calls prog 146 #[.agg #[.int .i64 td,.slice o fo.length oc,.slice a az.length ac,.slice c cs.length cc,.slice l ls.length lc,.slice g lg.length gc],.int .i64 m0,.agg #[.int .i64 kd,.int .i64 m1,.int .i64 m2]] u (U8 u ⟨o,oc,a,ac,c,cc,l,lc,g,gc⟩ (Act ⟨td,fo,az,cs,ls,lg⟩ m0 ⟨kd,m1,m2⟩).1 (Act ⟨td,fo,az,cs,ls,lg⟩ m0 ⟨kd,m1,m2⟩).2)):=fun u h=>ST.act ⟨td,fo,az,cs,ls,lg⟩ ⟨o,oc,a,ac,c,cc,l,lc,g,gc⟩ m0 ⟨kd,m1,m2⟩ u (HX.o u h) (HAB.o.mono h.size) HPRE.o
           obtain ⟨⟨⟨td2,fo2,az2,cs2,ls2,lg2⟩,code⟩,hD⟩:∃ r,Act ⟨td,fo,az,cs,ls,lg⟩ m0 ⟨kd,m1,m2⟩=r:=⟨_,rfl⟩
           simp only [hD] at HAC HE
           clear hm0 hm1 hm2 hkd hnv HRA on hok hD;obtain ⟨uz,huz⟩:∃ u,u=wc:=⟨_,rfl⟩;subst huz;obtain ⟨t0,t1,t2,t3,t4,t5,s0,s1,s2,s3,s4,s5⟩:=HZ3.o;obtain ⟨q0,q1,q2,q3,q4,q5,p0,p1,p2,p3,p4,p5⟩:=HR3.o
           have HSS:Hid (∀ u,BW uz u→u.cell? ⟨w.heap.size,0,none⟩=some (.int .i64 td)∧u.cell? ⟨w.heap.size,1,none⟩=some (.slice o fo.length oc)∧u.cell? ⟨w.heap.size,2,none⟩=some (.slice a az.length ac)∧u.cell? ⟨w.heap.size,3,none⟩=some (.slice c cs.length cc)∧u.cell? ⟨w.heap.size,4,none⟩=some (.slice l ls.length lc)∧u.cell? ⟨w.heap.size,5,none⟩=some (.slice g lg.length gc)∧u.cell? ⟨ng,0,none⟩=some (.int .i64 m0)∧u.cell? ⟨ng,1,none⟩=some (.int .i64 m1)∧u.cell? ⟨ng,2,none⟩=some (.int .i64 m2)∧u.cell? ⟨gw,2,none⟩=some (.string ⟨x2.toArray⟩)):=fun u h=>⟨(h.cell (p:=⟨w.heap.size,0,none⟩) (World.block_lt_of_cell? uz _ t0)).trans t0,(h.cell (p:=⟨w.heap.size,1,none⟩) (World.block_lt_of_cell? uz _ t1)).trans t1,(h.cell (p:=⟨w.heap.size,2,none⟩) (World.block_lt_of_cell? uz _ t2)).trans t2,(h.cell (p:=⟨w.heap.size,3,none⟩) (World.block_lt_of_cell? uz _ t3)).trans t3,(h.cell (p:=⟨w.heap.size,4,none⟩) (World.block_lt_of_cell? uz _ t4)).trans t4,(h.cell (p:=⟨w.heap.size,5,none⟩) (World.block_lt_of_cell? uz _ t5)).trans t5,(h.cell (p:=⟨ng,0,none⟩) (World.block_lt_of_cell? uz _ c0)).trans c0,(h.cell (p:=⟨ng,1,none⟩) (World.block_lt_of_cell? uz _ c1)).trans c1,(h.cell (p:=⟨ng,2,none⟩) (World.block_lt_of_cell? uz _ c2)).trans c2,(h.cell (p:=⟨gw,2,none⟩) (World.block_lt_of_cell? uz _ w2)).trans w2⟩
           have HGG:Hid (w.heap.size+1<gw∧w.heap.size+1<ng):=⟨HGW.o,hng⟩
           have HSP:Hid (∀ (u:World) (y0 y1 y2 y3 y4 y5:Value),BW uz u→((((((u.setCell ⟨w.heap.size+1,0,none⟩ y0).setCell ⟨w.heap.size+1,1,none⟩ y1).setCell ⟨w.heap.size+1,2,none⟩ y2).setCell ⟨w.heap.size+1,3,none⟩ y3).setCell ⟨w.heap.size+1,4,none⟩ y4).setCell ⟨w.heap.size+1,5,none⟩ y5).cell? ⟨w.heap.size,0,none⟩=some (.int .i64 td)∧((((((u.setCell ⟨w.heap.size+1,0,none⟩ y0).setCell ⟨w.heap.size+1,1,none⟩ y1).setCell ⟨w.heap.size+1,2,none⟩ y2).setCell ⟨w.heap.size+1,3,none⟩ y3).setCell ⟨w.heap.size+1,4,none⟩ y4).setCell ⟨w.heap.size+1,5,none⟩ y5).cell? ⟨w.heap.size,1,none⟩=some (.slice o fo.length oc)∧((((((u.setCell ⟨w.heap.size+1,0,none⟩ y0).setCell ⟨w.heap.size+1,1,none⟩ y1).setCell ⟨w.heap.size+1,2,none⟩ y2).setCell ⟨w.heap.size+1,3,none⟩ y3).setCell ⟨w.heap.size+1,4,none⟩ y4).setCell ⟨w.heap.size+1,5,none⟩ y5).cell? ⟨w.heap.size,2,none⟩=some (.slice a az.length ac)∧((((((u.setCell ⟨w.heap.size+1,0,none⟩ y0).setCell ⟨w.heap.size+1,1,none⟩ y1).setCell ⟨w.heap.size+1,2,none⟩ y2).setCell ⟨w.heap.size+1,3,none⟩ y3).setCell ⟨w.heap.size+1,4,none⟩ y4).setCell ⟨w.heap.size+1,5,none⟩ y5).cell? ⟨w.heap.size,3,none⟩=some (.slice c cs.length cc)∧((((((u.setCell ⟨w.heap.size+1,0,none⟩ y0).setCell ⟨w.heap.size+1,1,none⟩ y1).setCell ⟨w.heap.size+1,2,none⟩ y2).setCell ⟨w.heap.size+1,3,none⟩ y3).setCell ⟨w.heap.size+1,4,none⟩ y4).setCell ⟨w.heap.size+1,5,none⟩ y5).cell? ⟨w.heap.size,4,none⟩=some (.slice l ls.length lc)∧((((((u.setCell ⟨w.heap.size+1,0,none⟩ y0).setCell ⟨w.heap.size+1,1,none⟩ y1).setCell ⟨w.heap.size+1,2,none⟩ y2).setCell ⟨w.heap.size+1,3,none⟩ y3).setCell ⟨w.heap.size+1,4,none⟩ y4).setCell ⟨w.heap.size+1,5,none⟩ y5).cell? ⟨w.heap.size,5,none⟩=some (.slice g lg.length gc)∧((((((u.setCell ⟨w.heap.size+1,0,none⟩ y0).setCell ⟨w.heap.size+1,1,none⟩ y1).setCell ⟨w.heap.size+1,2,none⟩ y2).setCell ⟨w.heap.size+1,3,none⟩ y3).setCell ⟨w.heap.size+1,4,none⟩ y4).setCell ⟨w.heap.size+1,5,none⟩ y5).cell? ⟨ng,0,none⟩=some (.int .i64 m0)∧((((((u.setCell ⟨w.heap.size+1,0,none⟩ y0).setCell ⟨w.heap.size+1,1,none⟩ y1).setCell ⟨w.heap.size+1,2,none⟩ y2).setCell ⟨w.heap.size+1,3,none⟩ y3).setCell ⟨w.heap.size+1,4,none⟩ y4).setCell ⟨w.heap.size+1,5,none⟩ y5).cell? ⟨ng,1,none⟩=some (.int .i64 m1)∧((((((u.setCell ⟨w.heap.size+1,0,none⟩ y0).setCell ⟨w.heap.size+1,1,none⟩ y1).setCell ⟨w.heap.size+1,2,none⟩ y2).setCell ⟨w.heap.size+1,3,none⟩ y3).setCell ⟨w.heap.size+1,4,none⟩ y4).setCell ⟨w.heap.size+1,5,none⟩ y5).cell? ⟨ng,2,none⟩=some (.int .i64 m2)∧((((((u.setCell ⟨w.heap.size+1,0,none⟩ y0).setCell ⟨w.heap.size+1,1,none⟩ y1).setCell ⟨w.heap.size+1,2,none⟩ y2).setCell ⟨w.heap.size+1,3,none⟩ y3).setCell ⟨w.heap.size+1,4,none⟩ y4).setCell ⟨w.heap.size+1,5,none⟩ y5).cell? ⟨gw,2,none⟩=some (.string ⟨x2.toArray⟩)):=fun u y0 y1 y2 y3 y4 y5 h=>by
            obtain ⟨e0,e1,e2,e3,e4,e5,e6,e7,e8,e9⟩:=HSS.o u h;have hgg:=HGG.o
            exact ⟨Dz e0 (by show _≠_;simp;try omega) _ _ _ _ _ _,Dz e1 (by show _≠_;simp;try omega) _ _ _ _ _ _,Dz e2 (by show _≠_;simp;try omega) _ _ _ _ _ _,Dz e3 (by show _≠_;simp;try omega) _ _ _ _ _ _,Dz e4 (by show _≠_;simp;try omega) _ _ _ _ _ _,Dz e5 (by show _≠_;simp;try omega) _ _ _ _ _ _,Dz e6 (by show _≠_;simp;try omega) _ _ _ _ _ _,Dz e7 (by show _≠_;simp;try omega) _ _ _ _ _ _,Dz e8 (by show _≠_;simp;try omega) _ _ _ _ _ _,Dz e9 (by show _≠_;simp;try omega) _ _ _ _ _ _⟩
           have k0:BW uz uz:=bR
           have HBD:Hid (∀ u,BW uz u→BW w u):=fun u h=>next HB3.o h
           clear s0 s1 s2 s3 s4 s5 hng q0 q1 q2 q3 q4 q5 p0 p1 p2 p3 p4 p5;go_upto_region 22 with fail
           go_region_held3 (fun u=>u.cell? ⟨w.heap.size,0,none⟩=some (.int .i64 td)∧u.cell? ⟨w.heap.size,1,none⟩=some (.slice o fo.length oc)∧u.cell? ⟨w.heap.size,2,none⟩=some (.slice a az.length ac)∧u.cell? ⟨w.heap.size,3,none⟩=some (.slice c cs.length cc)∧u.cell? ⟨w.heap.size,4,none⟩=some (.slice l ls.length lc)∧u.cell? ⟨w.heap.size,5,none⟩=some (.slice g lg.length gc)∧u.cell? ⟨ng,0,none⟩=some (.int .i64 m0)∧u.cell? ⟨ng,1,none⟩=some (.int .i64 m1)∧u.cell? ⟨ng,2,none⟩=some (.int .i64 m2)∧u.cell? ⟨gw,2,none⟩=some (.string ⟨x2.toArray⟩)) (first | with_reducible exact HSS.o _ k2 | with_reducible exact HSS.o _ k1 | with_reducible exact HSS.o _ k0 | with_reducible exact HSS.o _ k0.drew | with_reducible exact HSP.o _ _ _ _ _ _ _ k2) ((first
            | (go_at_call 145;refine Calls.mono (HKI.o _) ?_;rintro e u4 ⟨rfl,b4⟩;have k1:BW uz u4:=Below.trans (by go_grown) (b4.mono (by simp)))
            | (go_at_call 146;(with_reducible refine Calls.mono (HAC.o _ (HBD.o _ k1)) ?_);rintro e u5 ⟨qq,rfl,hb5,hg5,hgc5,hpt,b5⟩;unfold C5;simp only;have k2:BW uz u5:=next k1 b5;have HB5:Hid _:=hb5;have HG5:Hid _:=And.intro hg5 (And.intro hgc5 hpt);have HBB:Hid (BW u4 u5):=b5;have HK1:Hid (BW uz u4):=k1;have hr5:=HR3.o.below k2;obtain ⟨q0,q1,q2,q3,q4,q5,p0,p1,p2,p3,p4,p5⟩:=hr5;clear hb5 hg5 hgc5 hpt b5)))
           all_goals
            rename_i hheld
            clear hheld k0 k1 k2 b4 c0 c1 c2 w2 t0 t1 t2 t3 t4 t5 hwl hn0;go_wp2
            refine bodyPost_ret (by simp [results,results84,go_sem,q0,q1,q2,q3,q4,q5];try rfl) rfl ?_
            obtain ⟨hg4,hgc4,hpt⟩:=HG5.o
            first
             | exact ⟨⟨td2,fo2,az2,cs2,ls2,lg2⟩,code,HE.o,Qp HAB.o (HBD.o _ HK1.o) (by omega) (by have:=HS3.o;have:=HK1.o.size;omega) HB5.o hg4 hgc4 hpt HBB.o _ _ _ _ _ _⟩
             | exact ⟨(⟨td2,fo2,az2,cs2,ls2,lg2⟩,code),HE.o,Qp HAB.o (HBD.o _ HK1.o) (by omega) (by have:=HS3.o;have:=HK1.o.size;omega) HB5.o hg4 hgc4 hpt HBB.o _ _ _ _ _ _⟩
end Go.Proofs.YtomiclakhjncbaaGreatDoor
