import Derived.Test.YtomiclakhjncbaaGreatDoorJE2a
namespace Go.Proofs.YtomiclakhjncbaaGreatDoor
open Go.RowKit Go.Proofs.Tryz
set_option maxRecDepth 100000
set_option maxHeartbeats 12800000
theorem Zd (F:Ff) (K:Nc F) {Pre:Bk→Prop} (hsm:∀ b,Pre b→D0 b) {Pay:Bk→Int→Int→Int→Int→Bk×Int→Prop} {Act:Bk→Int→Ac→Bk×Int} (_ST:Tp Pre Pay Act) (b:Bk) (p:Bp) (line:List UInt8) (w:World) (hx:Aq w b p) (hah:Vb p w.heap.size) (hp:Pre b) (hl:line.length≤1048575) (hsel:Ca (Ab line)=false∧Bq (Ab line)=true) :
  Calls prog 84 #[C5 b p,.string ⟨line.toArray⟩] w fun e w'=>∃ r,Db F Pay Act b line r∧U8 w p r.1 r.2 e w':=by
 have hn:=hsm b hp;have HPRE:Hid (Pre b):=hp;have HSEL:Hid (Ca (Ab line)=false∧Bq (Ab line)=true):=hsel;clear hsel;have HAB:Hid (Vb p w.heap.size):=hah
 have HREL:Hid (∀ r,Db F Pay Act b line r=(if Ca (Ab line)=true then r=Fr F b (Ae (Al (Ab line) 1))
  else if Bq (Ab line)=true then (if Ap ((Ab line).drop 2)=true then r=Fq F b (Al (Ab line) 1) (Ae (Al (Ab line) 2)) (Ae (Al (Ab line) 3)) (Ae (Al (Ab line) 4)) else r=(b,1))
  else if Da (Ab line)=true then (if Ap ((Ab line).drop 1)=true then Pay b (Ae (Al (Ab line) 1)) (Ae (Al (Ab line) 2)) (Ae (Al (Ab line) 3)) (Ae (Al (Ab line) 4)) r else r=(b,1))
  else if Fl (Ab line)=true then (if Ap [Al (Ab line) 1,Al (Ab line) 3,Al (Ab line) 4]=true then r=Act b (Ae (Al (Ab line) 1)) ⟨Bz (Al (Ab line) 2),Ae (Al (Ab line) 3),Ae (Al (Ab line) 4)⟩ else r=(b,1))
  else r=(b,1))):=fun r=>rfl
 obtain ⟨LR,hLR⟩:∃ L,Db F Pay Act b line=L:=⟨_,rfl⟩
 simp only [hLR] at HREL ⊢
 clear hp hah hLR
 have HDAY:Hid (∀ n u,BW w u→Calls prog 141 #[C5 b p,.int .i64 n] u (U8 u p (Fr F b n).1 (Fr F b n).2)):=fun n u h=>Mj F K b p n u (hx.below h) hn
 have HX:Hid (∀ u,BW w u→Aq u b p):=fun u h=>hx.below h
 have HN:Hid (D0 b):=hn;clear hx hn;obtain ⟨td,fo,az,cs,ls,lg⟩:=b;obtain ⟨o,oc,a,ac,c,cc,l,lc,g,gc⟩:=p;unfold C5 at HDAY ⊢
 simp only at HDAY ⊢
 obtain ⟨u0,hu0⟩:∃ u,u=((w.alloc (.cells #[.int .i64 td,.slice o fo.length oc,.slice a az.length ac,.slice c cs.length cc,.slice l ls.length lc,.slice g lg.length gc] 31))).alloc (.cells qzB 31):=⟨_,rfl⟩
 have HB0:Hid (BW w u0):=by rw [Hid,hu0];go_grown
 have HS0:Hid ((w.heap.size+1)<u0.heap.size):=by rw [Hid,hu0];simp
 have HZ0:Hid (Z6 w.heap.size (.int .i64 td) (.slice o fo.length oc) (.slice a az.length ac) (.slice c cs.length cc) (.slice l ls.length lc) (.slice g lg.length gc) u0):=by
  rw [Hid,hu0];exact ((Z6.new w (.int .i64 td) (.slice o fo.length oc) (.slice a az.length ac) (.slice c cs.length cc) (.slice l ls.length lc) (.slice g lg.length gc) 31)).below (bR.alloc nL _)
 have HR0:Hid (Z6 (w.heap.size+1) (.int .i64 0) (.slice none 0 0) (.slice none 0 0) (.slice none 0 0) (.slice none 0 0) (.slice none 0 0) u0):=by
  have h:=Z6.new ((w.alloc (.cells #[.int .i64 td,.slice o fo.length oc,.slice a az.length ac,.slice c cs.length cc,.slice l ls.length lc,.slice g lg.length gc] 31))) (.int .i64 0) (.slice none 0 0) (.slice none 0 0) (.slice none 0 0) (.slice none 0 0) (.slice none 0 0) 31
  rw [Hid,hu0];simpa using h
 have HU0:Hid _:=hu0;clear hu0
 go_enter func84,ntmps84
 go_upto_region 1 with fail
 rw [← HU0.o];clear HU0;obtain ⟨t0,t1,t2,t3,t4,t5,s0,s1,s2,s3,s4,s5⟩:=HZ0.o;obtain ⟨q0,q1,q2,q3,q4,q5,p0,p1,p2,p3,p4,p5⟩:=HR0.o;have hwl:=Fy line;have hws:=Ee line;go_wp2_with fail
 refine (I8 line _ (by omega)).mono ?_
 rintro e u1 ⟨wa,wk,rfl,ow,b1⟩;obtain ⟨ws,hwe⟩:∃ ws,Ab line=ws:=⟨_,rfl⟩;rw [hwe] at ow hwl hws ⊢
 simp only [hwe] at HREL HSEL
 obtain ⟨gw,rfl⟩:∃ gw,wa=some ⟨gw,0,none⟩:=by
  rcases ow.2 with ⟨_,h⟩ | ⟨g,cap,uV,h,_⟩
  ·omega
  ·injection h with h _ _
   exact ⟨g,h⟩
 have HWC:Hid (∀ u,BW u1 u→∀ i,i<ws.length→u.cell? ⟨gw,i,none⟩=some (.string ⟨(Al ws i).toArray⟩)):=fun u h i hi=>by
  have:=(Kq ((Ep ow).below h) hi).1
  simpa using this
 have HWS:Hid (∀ i,i<ws.length→(Al ws i).length≤1048576):=fun i hi=>by have:=hws _ (F7 hi);omega
 have HOW:Hid (u1.ownsRow u0.heap.size 9 1 (.slice (some ⟨gw,0,none⟩) ws.length wk) ws.length (Am ws)):=ow;have HZ1:Hid (Z6 w.heap.size (.int .i64 td) (.slice o fo.length oc) (.slice a az.length ac) (.slice c cs.length cc) (.slice l ls.length lc) (.slice g lg.length gc) u1):=HZ0.o.below b1;have HR1:Hid (Z6 (w.heap.size+1) (.int .i64 0) (.slice none 0 0) (.slice none 0 0) (.slice none 0 0) (.slice none 0 0) (.slice none 0 0) u1):=HR0.o.below b1;have HB1:Hid (BW w u1):=next HB0.o b1
 have HS1:Hid (w.heap.size+1<u1.heap.size):=by have:=HS0.o;have:=b1.size;rw [Hid];omega
 have HUW:Hid (w.heap.size+1<u0.heap.size):=HS0.o;clear t0 t1 t2 t3 t4 t5 s0 s1 s2 s3 s4 s5 q0 q1 q2 q3 q4 q5 p0 p1 p2 p3 p4 p5 HZ0 HR0 HB0 HS0 b1 ow hws hwe
 have hn0:(0:Int)<(ws.length:Int):=by omega
 go_upto_region 2 with fail
 go_cut [17] (fun v wc=>v=.bool (Ca ws)∧wc=u1)
 case first =>
  have w0:=HWC.o u1 bR 0 (by omega)
  have HDY:Hid (Ca ws=(decide (Al ws 0=Eo) && (decide (ws.length=2) && decide (0≤Ae (Al ws 1))))):=rfl;obtain ⟨r0,hr0⟩:∃ r,Al ws 0=r:=⟨_,rfl⟩;rw [hr0] at w0 HDY
  by_cases hd:r0=Eo
  ·subst hd
   by_cases h2:ws.length=2
   ·have h2':((ws.length:Int) == 2)=true:=by simp;omega
    have h12:(1:Int)<(ws.length:Int):=by omega
    have w1:=HWC.o u1 bR 1 (by omega)
    have hnm:=Ha (Al ws 1) u1 (HWS.o 1 (by omega))
    obtain ⟨r1,hr1⟩:∃ r,Al ws 1=r:=⟨_,rfl⟩;rw [hr1] at w1 HDY hnm
    have HD2:Hid (Ca ws=decide (0≤Ae r1)):=by rw [Hid,HDY.o];simp [h2]
    unfold Eo at w0;clear h2
    go_wp2_with (go_at_call 140;refine hnm.mono ?_;rintro e w' ⟨rfl,hw'⟩;replace hw':=hw'.symm;subst hw')
    go_meet
    exact ⟨by rw [HD2.o],rfl⟩
   ·have h2':((ws.length:Int) == 2)=false:=by simp;omega
    have HD2:Hid (Ca ws=false):=by rw [Hid,HDY.o];simp [h2]
    unfold Eo at w0;clear h2;go_wp2;go_meet
    exact ⟨by rw [HD2.o],rfl⟩
  ·have hdb:(r0 == Eo)=false:=by simpa using hd
   have HD2:Hid (Ca ws=false):=by rw [Hid,HDY.o];simp [hd]
   unfold Eo at hdb;go_wp2;go_meet
   exact ⟨by rw [HD2.o],rfl⟩
 case rest =>
  obtain ⟨rfl,hwc⟩:=hcut;replace hwc:=hwc.symm;subst hwc
  have HEND:Hid (∀ r,LR r→r=(⟨td,fo,az,cs,ls,lg⟩,1)→LR (⟨td,fo,az,cs,ls,lg⟩,1)):=fun r h e=>e ▸ h
  cases hday:Ca ws
  case true=>exact absurd (hday.symm.trans HSEL.o.1) (by decide)
  case false =>
   go_upto_region 4 with fail
   go_cut [42] (fun v wc=>v=.bool (Bq ws)∧wc=u1)
   case first =>
    have w0:=HWC.o u1 bR 0 (by omega)
    have HDY:Hid (Bq ws=(decide (Al ws 0=Dy) && decide (ws.length=5))):=rfl;obtain ⟨r0,hr0⟩:∃ r,Al ws 0=r:=⟨_,rfl⟩;rw [hr0] at w0 HDY
    by_cases hd:r0=Dy
    ·subst hd
     by_cases h5:ws.length=5
     ·have h5':((ws.length:Int) == 5)=true:=by simp;omega
      have HD2:Hid (Bq ws=true):=by rw [Hid,HDY.o];simp [h5]
      unfold Dy at w0;clear h5;go_wp2;go_meet
      exact ⟨by rw [HD2.o],rfl⟩
     ·have h5':((ws.length:Int) == 5)=false:=by simp;omega
      have HD2:Hid (Bq ws=false):=by rw [Hid,HDY.o];simp [h5]
      unfold Dy at w0;clear h5;go_wp2;go_meet
      exact ⟨by rw [HD2.o],rfl⟩
    ·have hdb:(r0 == Dy)=false:=by simpa using hd
     have HD2:Hid (Bq ws=false):=by rw [Hid,HDY.o];simp [hd]
     unfold Dy at hdb;go_wp2;go_meet
     exact ⟨by rw [HD2.o],rfl⟩
   case rest =>
    obtain ⟨rfl,hwc⟩:=hcut;replace hwc:=hwc.symm;subst hwc
    cases hau:Bq ws
    case true =>
     have h5:ws.length=5:=by simp [Bq] at hau;exact hau.2
     have HR':Hid (∀ r,(if Ap (ws.drop 2)=true then r=Fq F ⟨td,fo,az,cs,ls,lg⟩ (Al ws 1) (Ae (Al ws 2)) (Ae (Al ws 3)) (Ae (Al ws 4)) else r=(⟨td,fo,az,cs,ls,lg⟩,1))→LR r):=fun r h=>by rw [HREL.o r,if_neg (by rw [hday];decide),if_pos hau];exact h
     match ws,h5 with
     | [x0,x1,x2,x3,x4],_ =>
     have hcap:5≤wk:=by
      rcases HOW.o.2 with ⟨h,_⟩ | ⟨g',cap,uV,h,_,_,h1,_⟩
      ·cases h
      ·injection h with _ _ h
       subst h
       simpa using h1
     have HTX:Hid (Bh u1 (some ⟨gw,2,none⟩) [x2,x3,x4]):=.inr ⟨gw,2,rfl,World.block_lt_of_cell? u1 _ (HWC.o u1 bR 0 (by simp)),fun i hi=>by
      have:=HWC.o u1 bR (2+i) (by simp at hi ⊢;omega)
      rw [this]
      simp at hi
      rcases (show i=0∨i=1∨i=2 by omega) with rfl | rfl | rfl <;> rfl⟩
     have HNU:Hid (Calls prog 142 #[.slice (some ⟨gw,2,none⟩) 3 (wk - 2)] u1 fun e w'=>∃ a k,e=.returned (.tuple #[.slice a (A7 [x2,x3,x4]).length k,.bool (Ap [x2,x3,x4])])∧w'.ownsRow u1.heap.size 3 1 (.slice a (A7 [x2,x3,x4]).length k) (A7 [x2,x3,x4]).length ((A7 [x2,x3,x4]).map (Value.int .i64))∧BW u1 w'):=Nw (some ⟨gw,2,none⟩) (wk - 2) [x2,x3,x4] u1 HTX.o (by simp) (fun r hr=>by
      simp at hr
      rcases hr with rfl | rfl | rfl
      ·exact HWS.o 2 (by simp)
      ·exact HWS.o 3 (by simp)
      ·exact HWS.o 4 (by simp))
     simp only [List.length_cons,List.length_nil,Nat.zero_add,Nat.reduceAdd] at hwl hn0 ⊢
     have hcap':(5:Int)≤(wk:Int):=by omega
     have hx1l:x1.length≤1048576:=HWS.o 1 (by simp)
     have w1:=HWC.o u1 bR 1 (by simp)
     have HW1:Hid (u1.cell? ⟨gw,1,none⟩=some (.string ⟨x1.toArray⟩)):=w1
     have HRA:Hid (∀ r,(if Ap [x2,x3,x4]=true then r=Fq F ⟨td,fo,az,cs,ls,lg⟩ x1 (Ae x2) (Ae x3) (Ae x4) else r=(⟨td,fo,az,cs,ls,lg⟩,1))→LR r):=HR'.o
     clear HR' HREL HWC HWS HTX HEND HOW w1 hau hday;go_wp2_with fail
     refine Calls.mono HNU.o ?_;rintro e u2 ⟨na,nk,rfl,on,b2⟩;have HZ2:Hid (Z6 w.heap.size (.int .i64 td) (.slice o fo.length oc) (.slice a az.length ac) (.slice c cs.length cc) (.slice l ls.length lc) (.slice g lg.length gc) u2):=HZ1.o.below b2;have HR2:Hid (Z6 (w.heap.size+1) (.int .i64 0) (.slice none 0 0) (.slice none 0 0) (.slice none 0 0) (.slice none 0 0) (.slice none 0 0) u2):=HR1.o.below b2;have HB2:Hid (BW w u2):=next HB1.o b2
     have HS2:Hid (w.heap.size+1<u2.heap.size):=by have:=HS1.o;have:=b2.size;rw [Hid];omega
     have HW2:Hid (u2.cell? ⟨gw,1,none⟩=some (.string ⟨x1.toArray⟩)):=(b2.cell (p:=⟨gw,1,none⟩) (World.block_lt_of_cell? u1 _ HW1.o)).trans HW1.o;clear b2 HZ1 HR1 HB1 HS1 HW1 HNU
     cases hok:Ap [x2,x3,x4]
     case false =>
      have HE:Hid (LR (⟨td,fo,az,cs,ls,lg⟩,1)):=HRA.o _ (by rw [if_neg (by rw [hok];decide)])
      obtain ⟨LN,hLN⟩:∃ L,A7 [x2,x3,x4]=L:=⟨_,rfl⟩;rw [hLN];clear on hLN;obtain ⟨t0,t1,t2,t3,t4,t5,s0,s1,s2,s3,s4,s5⟩:=HZ2.o;obtain ⟨q0,q1,q2,q3,q4,q5,p0,p1,p2,p3,p4,p5⟩:=HR2.o;go_wp2
      refine bodyPost_ret (by simp [results,results84,go_sem,q0,q1,q2,q3,q4,q5];try rfl) rfl ?_
      have bel:=Ax (R:=w.heap.size+1) (by omega) HB2.o
      exact ⟨(⟨td,fo,az,cs,ls,lg⟩,1),HE.o,⟨o,oc,a,ac,c,cc,l,lc,g,gc⟩,rfl,HX.o _ (bel _ _ _ _ _ _),rfl,rfl,⟨rfl,.inl rfl,.inl rfl,.inl rfl⟩,bel _ _ _ _ _ _⟩
     case true =>
      have hnv:A7 [x2,x3,x4]=[Ae x2,Ae x3,Ae x4]:=if_pos hok;rw [hnv] at on ⊢
      have HE:Hid (LR (Fq F ⟨td,fo,az,cs,ls,lg⟩ x1 (Ae x2) (Ae x3) (Ae x4))):=HRA.o _ (by rw [if_pos hok])
      obtain ⟨n2,hn2⟩:∃ n,Ae x2=n:=⟨_,rfl⟩;obtain ⟨n3,hn3⟩:∃ n,Ae x3=n:=⟨_,rfl⟩;obtain ⟨n4,hn4⟩:∃ n,Ae x4=n:=⟨_,rfl⟩;rw [hn2,hn3,hn4] at on HE
      simp only [List.length_cons,List.length_nil,Nat.zero_add,Nat.reduceAdd] at on ⊢
      obtain ⟨ng,rfl⟩:∃ ng,na=some ⟨ng,0,none⟩:=by
       rcases on.2 with ⟨h,_⟩ | ⟨g',cap,uV,h,_⟩
       ·cases h
       ·injection h with h _ _
        exact ⟨g',h⟩
      have c0:=on.cellAt 0 (by omega)
      have c1:=on.cellAt 1 (by omega)
      have c2:=on.cellAt 2 (by omega)
      simp at c0 c1 c2
      clear hn2 hn3 hn4 hnv HRA on hok
      have HAD:Hid (∀ u,BW w u→Calls prog 143 #[.slice a az.length ac,.agg #[.string ⟨x1.toArray⟩,.int .i64 n2,.int .i64 n3,.int .i64 n4,.int .i64 td,.bool false]] u (Pi u (F.add az ⟨x1,n2,n3,n4,td,false⟩) (F.addOk az ⟨x1,n2,n3,n4,td,false⟩))):=fun u h=>K.add a ac az ⟨x1,n2,n3,n4,td,false⟩ u (HX.o u h).az (by have:=HN.o.2.1;simpa using this) hx1l
      have HAE:Hid (Fq F ⟨td,fo,az,cs,ls,lg⟩ x1 n2 n3 n4=if F.addOk az ⟨x1,n2,n3,n4,td,false⟩=true then (⟨td,fo,F.add az ⟨x1,n2,n3,n4,td,false⟩,cs,ls,lg⟩,0) else (⟨td,fo,az,cs,ls,lg⟩,3)):=rfl
      obtain ⟨L,hL⟩:∃ L,F.add az ⟨x1,n2,n3,n4,td,false⟩=L:=⟨_,rfl⟩;obtain ⟨O,hO⟩:∃ O,F.addOk az ⟨x1,n2,n3,n4,td,false⟩=O:=⟨_,rfl⟩
      simp only [hL,hO] at HAD HAE
      rw [HAE.o] at HE;have HBD:Hid (BW w u2.drew):=HB2.o.trans ((bR.drew).mono HB2.o.size);clear hL hO HAE;have w1:=HW2.o;obtain ⟨t0,t1,t2,t3,t4,t5,s0,s1,s2,s3,s4,s5⟩:=HZ2.o;obtain ⟨q0,q1,q2,q3,q4,q5,p0,p1,p2,p3,p4,p5⟩:=HR2.o;go_upto_region 8 with fail
      go_cut [9,10] (fun v9 v10 wz=>∃ a9 k9,v9=.slice a9 L.length k9∧v10=.bool O∧wz.ownsRow u2.heap.size 107 6 (.slice a9 L.length k9) L.length (Ah L)∧BW u2 wz)
      case first =>
       have HSS:Hid (∀ u,BW u2 u→u.cell? ⟨w.heap.size,2,none⟩=some (.slice a az.length ac)∧u.cell? ⟨gw,1,none⟩=some (.string ⟨x1.toArray⟩)∧u.cell? ⟨ng,0,none⟩=some (.int .i64 n2)∧u.cell? ⟨ng,1,none⟩=some (.int .i64 n3)∧u.cell? ⟨ng,2,none⟩=some (.int .i64 n4)∧u.cell? ⟨w.heap.size,0,none⟩=some (.int .i64 td)):=fun u h =>
        ⟨(h.cell (p:=⟨w.heap.size,2,none⟩) (World.block_lt_of_cell? u2 _ t2)).trans t2,(h.cell (p:=⟨gw,1,none⟩) (World.block_lt_of_cell? u2 _ w1)).trans w1,(h.cell (p:=⟨ng,0,none⟩) (World.block_lt_of_cell? u2 _ c0)).trans c0,(h.cell (p:=⟨ng,1,none⟩) (World.block_lt_of_cell? u2 _ c1)).trans c1,(h.cell (p:=⟨ng,2,none⟩) (World.block_lt_of_cell? u2 _ c2)).trans c2,(h.cell (p:=⟨w.heap.size,0,none⟩) (World.block_lt_of_cell? u2 _ t0)).trans t0⟩
       have k0:BW u2 u2:=bR
       go_region_held3 (fun u=>u.cell? ⟨w.heap.size,2,none⟩=some (.slice a az.length ac)∧u.cell? ⟨gw,1,none⟩=some (.string ⟨x1.toArray⟩)∧u.cell? ⟨ng,0,none⟩=some (.int .i64 n2)∧u.cell? ⟨ng,1,none⟩=some (.int .i64 n3)∧u.cell? ⟨ng,2,none⟩=some (.int .i64 n4)∧u.cell? ⟨w.heap.size,0,none⟩=some (.int .i64 td)) (first | exact HSS.o _ k1 | exact HSS.o _ k0 | exact HSS.o _ k0.drew) ((first
        | (go_at_call 143;(first | refine Calls.mono (HAD.o _ HB2.o) ?_ | refine Calls.mono (HAD.o _ HBD.o) ?_);rintro e u4 ⟨a9,k9,rfl,o9,b9⟩;have k1:BW u2 u4:=(by first | exact b9 | exact (bR.drew).trans b9))))
       all_goals
        go_wp2_with fail
        go_meet
        exact ⟨a9,k9,rfl,rfl,by first | exact o9 | simpa using o9,k1⟩
      case rest =>
       obtain ⟨a9,k9,rfl,rfl,o9,b9⟩:=hcut;have HZ3:Hid (Z6 w.heap.size (.int .i64 td) (.slice o fo.length oc) (.slice a az.length ac) (.slice c cs.length cc) (.slice l ls.length lc) (.slice g lg.length gc) wc):=HZ2.o.below b9;have HR3:Hid (Z6 (w.heap.size+1) (.int .i64 0) (.slice none 0 0) (.slice none 0 0) (.slice none 0 0) (.slice none 0 0) (.slice none 0 0) wc):=HR2.o.below b9;have HB3:Hid (BW w wc):=next HB2.o b9;have HO3:Hid (wc.ownsRow (w.heap.size+2) 107 6 (.slice a9 L.length k9) L.length (Ah L)):=Bi o9 HS2.o;clear b9 o9 HZ2 HR2 HB2 HS2 HW2 HAD HBD w1 c0 c1 c2 t0 t1 t2 t3 t4 t5 s0 s1 s2 s3 s4 s5 q0 q1 q2 q3 q4 q5 p0 p1 p2 p3 p4 p5;obtain ⟨t0,t1,t2,t3,t4,t5,s0,s1,s2,s3,s4,s5⟩:=HZ3.o;obtain ⟨q0,q1,q2,q3,q4,q5,p0,p1,p2,p3,p4,p5⟩:=HR3.o
       cases O
       case false =>
        have HE2:Hid (LR (⟨td,fo,az,cs,ls,lg⟩,3)):=by have:=HE.o;rwa [if_neg (by decide)] at this
        go_wp2
        refine bodyPost_ret (by simp [results,results84,go_sem,q0,q1,q2,q3,q4,q5];try rfl) rfl ?_
        have bel:=Ax (R:=w.heap.size+1) (by omega) HB3.o
        exact ⟨(⟨td,fo,az,cs,ls,lg⟩,3),HE2.o,⟨o,oc,a,ac,c,cc,l,lc,g,gc⟩,rfl,HX.o _ (bel _ _ _ _ _ _),rfl,rfl,⟨rfl,.inl rfl,.inl rfl,.inl rfl⟩,bel _ _ _ _ _ _⟩
       case true =>
        have HE2:Hid (LR (⟨td,fo,L,cs,ls,lg⟩,0)):=by have:=HE.o;rwa [if_pos rfl] at this
        go_upto_region 12 with fail
        obtain ⟨u5,hu5⟩:∃ u,u=wc.setCell ⟨w.heap.size,2,none⟩ (.slice a9 L.length k9):=⟨_,rfl⟩
        have HZ5:Hid (Z6 w.heap.size (.int .i64 td) (.slice o fo.length oc) (.slice a9 L.length k9) (.slice c cs.length cc) (.slice l ls.length lc) (.slice g lg.length gc) u5):=by rw [Hid,hu5];exact HZ3.o.set2 _
        have HR5:Hid (Z6 (w.heap.size+1) (.int .i64 0) (.slice none 0 0) (.slice none 0 0) (.slice none 0 0) (.slice none 0 0) (.slice none 0 0) u5):=by rw [Hid,hu5];exact HR3.o.far (by omega)
        have HB5:Hid (BW w u5):=by rw [Hid,hu5];exact HB3.o.setCell nL _
        have HO5:Hid (u5.ownsRow (w.heap.size+2) 107 6 (.slice a9 L.length k9) L.length (Ah L)):=by rw [Hid,hu5];exact Ad HO3.o (by omega)
        rw [← hu5];clear hu5 HZ3 HR3 HB3 HO3 t0 t1 t2 t3 t4 t5 s0 s1 s2 s3 s4 s5 q0 q1 q2 q3 q4 q5 p0 p1 p2 p3 p4 p5;obtain ⟨t0,t1,t2,t3,t4,t5,s0,s1,s2,s3,s4,s5⟩:=HZ5.o;obtain ⟨q0,q1,q2,q3,q4,q5,p0,p1,p2,p3,p4,p5⟩:=HR5.o;go_wp2
        refine bodyPost_ret (by simp [results,results84,go_sem,q0,q1,q2,q3,q4,q5];try rfl) rfl ?_
        have bel:=Ax (R:=w.heap.size+1) (by omega) HB5.o
        have hX:=HX.o _ (bel (.int .i64 td) (.slice o fo.length oc) (.slice a9 L.length k9) (.slice c cs.length cc) (.slice l ls.length lc) (.slice g lg.length gc))
        exact ⟨⟨td,fo,L,cs,ls,lg⟩,0,HE2.o,⟨o,oc,a9,k9,c,cc,l,lc,g,gc⟩,rfl,⟨hX.off,Fd (Ea HO5.o (by omega) _ _ _ _ _ _),hX.cs,hX.ls,hX.log⟩,rfl,rfl,⟨rfl,.inr (fun x hx=>by have:=Cw HO5.o x hx;omega),.inl rfl,.inl rfl⟩,bel _ _ _ _ _ _⟩
    case false=>exact absurd (hau.symm.trans HSEL.o.2) (by decide)
end Go.Proofs.YtomiclakhjncbaaGreatDoor
