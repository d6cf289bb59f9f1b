import Derived.Test.YtomiclakhjncbaaGreatDoorKEBkActS
namespace Go.Proofs.YtomiclakhjncbaaGreatDoor
open Go.RowKit Go.Proofs.Tryz
set_option maxRecDepth 100000
set_option maxHeartbeats 12800000
theorem lR (F:Ff) (K:Nc F) (b:Bk) (p:Bp) (gn kn:Nat) (n0 n1 n2 n3:Int) (w:World) (hx:Aq w b p) (hn:D0 b) (hrf:∀ a ∈ b.az,a.ref.length≤1048576) (hwt:(Lit.int .i64 b.today).wf=true) (hw3:(Lit.int .i64 n3).wf=true)
  (hm0:w.cell? ⟨gn,0,none⟩=some (.int .i64 n0)) (hm1:w.cell? ⟨gn,1,none⟩=some (.int .i64 n1)) (hm2:w.cell? ⟨gn,2,none⟩=some (.int .i64 n2)) (hm3:w.cell? ⟨gn,3,none⟩=some (.int .i64 n3)) :
  Calls prog 144 #[C5 b p,.slice (some ⟨gn,0,none⟩) 4 kn] w fun e w'=>∃ x,F.best b.az n0 n2 n3 b.today x∧U8 w p (Jk F b n0 n1 n2 n3 x).1 (Jk F b n0 n1 n2 n3 x).2 e w':=by
 have HNC:Hid (∀ u,BW w u→u.cell? ⟨gn,0,none⟩=some (.int .i64 n0)∧u.cell? ⟨gn,1,none⟩=some (.int .i64 n1)∧u.cell? ⟨gn,2,none⟩=some (.int .i64 n2)∧u.cell? ⟨gn,3,none⟩=some (.int .i64 n3)):=fun u h=>by
  have l:=World.block_lt_of_cell? w _ hm0;exact ⟨(h.cell (p:=⟨gn,0,none⟩) l).trans hm0,(h.cell (p:=⟨gn,1,none⟩) l).trans hm1,(h.cell (p:=⟨gn,2,none⟩) l).trans hm2,(h.cell (p:=⟨gn,3,none⟩) l).trans hm3⟩
 have HBEST:Hid (∀ u,BW w u→Calls prog 180 #[.slice p.a b.az.length p.ac,.int .i64 n0,.int .i64 n2,.int .i64 n3,.int .i64 b.today] u fun e w'=>∃ x,e=.returned (.int .i64 x)∧F.best b.az n0 n2 n3 b.today x∧BW u w'):=fun u h=>K.best p.a p.ac b.az n0 n2 n3 b.today u (hx.below h).az hn.2.1 hrf hw3 hwt
 have HSTA:Hid (∀ u:World,Calls prog 181 #[.int .i64 n0,.int .i64 n1,.int .i64 n2,.int .i64 n3,.int .i64 b.today] u fun e w'=>∃ ao cap,e=.returned (.tuple #[cv (F.stC n0 n1 n2 n3 b.today),.slice ao (F.stE n0 n1 n2 n3 b.today).length cap,.bool (F.stOk n0 n1 n2 n3 b.today)])∧w'.ownsRow u.heap.size 269 4 (.slice ao (F.stE n0 n1 n2 n3 b.today).length cap) (F.stE n0 n1 n2 n3 b.today).length (Ba (F.stE n0 n1 n2 n3 b.today))∧BW u w'):=fun u=>K.start n0 n1 n2 n3 b.today u
 have HPO:Hid (∀ (u:World) (eo:Option Addr) (ec:Nat),BW w u→C8 u eo (F.stE n0 n1 n2 n3 b.today)→Calls prog 182 #[.agg #[.slice p.l b.ls.length p.lc],.slice eo (F.stE n0 n1 n2 n3 b.today).length ec] u fun e w'=>∃ ao cap,e=.returned (.tuple #[.agg #[.slice ao (F.all b.ls (F.stE n0 n1 n2 n3 b.today)).length cap],.bool (F.allOk b.ls (F.stE n0 n1 n2 n3 b.today))])∧w'.ownsRow u.heap.size 113 3 (.slice ao (F.all b.ls (F.stE n0 n1 n2 n3 b.today)).length cap) (F.all b.ls (F.stE n0 n1 n2 n3 b.today)).length (Ag (F.all b.ls (F.stE n0 n1 n2 n3 b.today)))∧BW u w'):=fun u eo ec h he=>K.post p.l p.lc b.ls eo ec _ u (hx.below h).ls hn.2.2.2.1 he (K.small _ _ _ _ _)
 have HUSE:Hid (∀ (u:World) (x:Int),BW w u→Calls prog 183 #[.slice p.a b.az.length p.ac,.int .i64 x] u (Pi u (F.use b.az x) (F.useOk b.az x))):=fun u x h=>K.use p.a p.ac b.az x u (hx.below h).az hn.2.1
 have HP1:Hid _:=fun x=>@cK F b n0 n1 n2 n3 x
 have HP2:Hid _:=fun x=>@bQ F b n0 n1 n2 n3 x
 have HP3:Hid _:=fun x=>@cO F b n0 n1 n2 n3 x
 have HP4:Hid _:=fun x=>@cM F b n0 n1 n2 n3 x
 have HP5:Hid _:=fun x=>@bF F b n0 n1 n2 n3 x
 clear hm0 hm1 hm2 hm3 hrf hwt hw3
 have HX:Hid (∀ u,BW w u→Aq u b p):=fun u h=>hx.below h
 have HN:Hid (D0 b):=hn;clear hx hn;obtain ⟨td,fo,az,cs,ls,lg⟩:=b;obtain ⟨o,oc,a,ac,c,cc,l,lc,g,gc⟩:=p;unfold C5
 simp only
 obtain ⟨u0,hu0⟩:∃ u,u=((w.alloc (.cells #[.int .i64 td,.slice o fo.length oc,.slice a az.length ac,.slice c cs.length cc,.slice l ls.length lc,.slice g lg.length gc] 31))).alloc (.cells qzB 31):=⟨_,rfl⟩
 have HB0:Hid (BW w u0):=by rw [Hid,hu0];go_grown
 have HS0:Hid ((w.heap.size+1)<u0.heap.size):=by rw [Hid,hu0];simp
 have HZ0:Hid (Z6 w.heap.size (.int .i64 td) (.slice o fo.length oc) (.slice a az.length ac) (.slice c cs.length cc) (.slice l ls.length lc) (.slice g lg.length gc) u0):=by
  rw [Hid,hu0];exact ((Z6.new w (.int .i64 td) (.slice o fo.length oc) (.slice a az.length ac) (.slice c cs.length cc) (.slice l ls.length lc) (.slice g lg.length gc) 31)).below (bR.alloc nL _)
 have HR0:Hid (Z6 (w.heap.size+1) (.int .i64 0) (.slice none 0 0) (.slice none 0 0) (.slice none 0 0) (.slice none 0 0) (.slice none 0 0) u0):=by
  have h:=Z6.new ((w.alloc (.cells #[.int .i64 td,.slice o fo.length oc,.slice a az.length ac,.slice c cs.length cc,.slice l ls.length lc,.slice g lg.length gc] 31))) (.int .i64 0) (.slice none 0 0) (.slice none 0 0) (.slice none 0 0) (.slice none 0 0) (.slice none 0 0) 31
  rw [Hid,hu0];simpa using h
 have HU0:Hid _:=hu0;clear hu0
 simp only at HBEST HSTA HPO HUSE HP1 HP2 HP3 HP4 HP5
 obtain ⟨C,hC⟩:∃ C,F.stC n0 n1 n2 n3 td=C:=⟨_,rfl⟩;obtain ⟨E,hE⟩:∃ E,F.stE n0 n1 n2 n3 td=E:=⟨_,rfl⟩;obtain ⟨O1,hO1⟩:∃ O,F.stOk n0 n1 n2 n3 td=O:=⟨_,rfl⟩;rw [hC] at HSTA HP5;rw [hE] at HSTA HPO HP4 HP5;rw [hO1] at HSTA HP3 HP4 HP5;obtain ⟨A,hA⟩:∃ A,F.all ls E=A:=⟨_,rfl⟩;obtain ⟨O2,hO2⟩:∃ O,F.allOk ls E=O:=⟨_,rfl⟩;rw [hA] at HPO HP5;rw [hO2] at HPO HP4 HP5;rw [@sC C] at HSTA;clear hC hE hO1 hA hO2
 have hcn:cs.length≤1048576:=by have:=HN.o.2.2.1;simpa using this
 go_enter func144,ntmps144
 go_upto_region 1 with fail
 rw [← HU0.o];clear HU0;obtain ⟨t0,t1,t2,t3,t4,t5,s0,s1,s2,s3,s4,s5⟩:=HZ0.o;obtain ⟨q0,q1,q2,q3,q4,q5,p0,p1,p2,p3,p4,p5⟩:=HR0.o
 go_cut [6] (fun v6 wc=>∃ x:Int,v6=.int .i64 x∧F.best az n0 n2 n3 td x∧BW u0 wc)
 case first =>
  have HSS:Hid (∀ u,BW u0 u→u.cell? ⟨w.heap.size,0,none⟩=some (.int .i64 td)∧u.cell? ⟨w.heap.size,2,none⟩=some (.slice a az.length ac)∧u.cell? ⟨gn,0,none⟩=some (.int .i64 n0)∧u.cell? ⟨gn,2,none⟩=some (.int .i64 n2)∧u.cell? ⟨gn,3,none⟩=some (.int .i64 n3)):=fun u h=>by
   have l0:=World.block_lt_of_cell? u0 _ t0;obtain ⟨e0,e1,e2,e3⟩:=HNC.o u (next HB0.o h);exact ⟨(h.cell (p:=⟨w.heap.size,0,none⟩) l0).trans t0,(h.cell (p:=⟨w.heap.size,2,none⟩) l0).trans t2,e0,e2,e3⟩
  have k0:BW u0 u0:=bR;have HPD:Hid (BW w u0.drew):=HB0.o.trans ((bR.drew).mono (HB0.o.size));obtain ⟨e0,e1,e2,e3⟩:=HNC.o u0 HB0.o;clear q0 q1 q2 q3 q4 q5 p0 p1 p2 p3 p4 p5 s0 s1 s2 s3 s4 s5 t1 t3 t4 t5
  go_region_held3 (fun u=>u.cell? ⟨w.heap.size,0,none⟩=some (.int .i64 td)∧u.cell? ⟨w.heap.size,2,none⟩=some (.slice a az.length ac)∧u.cell? ⟨gn,0,none⟩=some (.int .i64 n0)∧u.cell? ⟨gn,2,none⟩=some (.int .i64 n2)∧u.cell? ⟨gn,3,none⟩=some (.int .i64 n3)) (first | with_reducible exact HSS.o _ hb2 | with_reducible exact HSS.o _ k0 | with_reducible exact HSS.o _ k0.drew) ((first
   | (go_at_call 180;(with_reducible refine Calls.mono (HBEST.o u0.drew HPD.o) ?_);rintro e u2 ⟨x,rfl,hbx,bb⟩;have hb2:BW u0 u2:=Below.trans ((Below.refl u0.heap.size u0).drew) bb)
   | (go_at_call 180;(with_reducible refine Calls.mono (HBEST.o u0 HB0.o) ?_);rintro e u2 ⟨x,rfl,hbx,bb⟩;have hb2:BW u0 u2:=bb)))
  all_goals
   go_wp2_with fail
   go_meet;exact ⟨x,rfl,hbx,hb2⟩
 case rest =>
  obtain ⟨x,rfl,hbx,bc⟩:=hcut;have HBX:Hid _:=hbx;have HZ1:Hid (Z6 w.heap.size (.int .i64 td) (.slice o fo.length oc) (.slice a az.length ac) (.slice c cs.length cc) (.slice l ls.length lc) (.slice g lg.length gc) wc):=HZ0.o.below bc;have HR1:Hid (Z6 (w.heap.size+1) (.int .i64 0) (.slice none 0 0) (.slice none 0 0) (.slice none 0 0) (.slice none 0 0) (.slice none 0 0) wc):=HR0.o.below bc;have HB1:Hid (BW w wc):=next HB0.o bc
  have HS1:Hid (w.heap.size+1<wc.heap.size):=by have:=HS0.o;have:=bc.size;rw [Hid];omega
  obtain ⟨u1,hu1⟩:∃ u,u=wc:=⟨_,rfl⟩;subst hu1;clear bc hbx t0 t1 t2 t3 t4 t5 s0 s1 s2 s3 s4 s5 q0 q1 q2 q3 q4 q5 p0 p1 p2 p3 p4 p5 HZ0 HR0 HB0 HS0 HBEST;obtain ⟨t0,t1,t2,t3,t4,t5,s0,s1,s2,s3,s4,s5⟩:=HZ1.o;obtain ⟨q0,q1,q2,q3,q4,q5,p0,p1,p2,p3,p4,p5⟩:=HR1.o
  by_cases hx0:x<0
  ·have HE:Hid _:=HP1.o x hx0
   go_wp2
   refine bodyPost_ret (by simp [results,results144,go_sem,q0,q1,q2,q3,q4,q5];try rfl) rfl ?_
   refine ⟨x,HBX.o,?_⟩;rw [HE.o]
   have bel:=Ax (R:=(w.heap.size+1)) (by omega) HB1.o
   exact ⟨⟨o,oc,a,ac,c,cc,l,lc,g,gc⟩,rfl,HX.o _ (bel _ _ _ _ _ _),rfl,rfl,⟨rfl,.inl rfl,.inl rfl,.inl rfl⟩,bel _ _ _ _ _ _⟩
  by_cases hfull:150≤cs.length
  ·have hfi:(150:Int)≤(cs.length:Int):=by omega
   have HE:Hid _:=HP2.o x hx0 hfull;go_wp2
   refine bodyPost_ret (by simp [results,results144,go_sem,q0,q1,q2,q3,q4,q5];try rfl) rfl ?_
   refine ⟨x,HBX.o,?_⟩;rw [HE.o]
   have bel:=Ax (R:=(w.heap.size+1)) (by omega) HB1.o
   exact ⟨⟨o,oc,a,ac,c,cc,l,lc,g,gc⟩,rfl,HX.o _ (bel _ _ _ _ _ _),rfl,rfl,⟨rfl,.inl rfl,.inl rfl,.inl rfl⟩,bel _ _ _ _ _ _⟩
  have hfi:¬ (150:Int)≤(cs.length:Int):=by omega
  have HQ3:Hid _:=HP3.o x hx0 hfull;have HQ4:Hid _:=HP4.o x hx0 hfull;have HQ5:Hid _:=HP5.o x hx0 hfull;clear HP1 HP2 HP3 HP4 HP5;go_upto_region 6 with fail
  go_cut [7,8,9] (fun v7 v8 v9 wd=>∃ (X:Nat) (ea:Option Addr) (ek:Nat),v7=.pointer (some ⟨X,0,none⟩)∧v8=.slice ea E.length ek∧v9=.bool O1∧CB X 0 C wd∧C8 wd ea E∧u1.heap.size≤X∧X<wd.heap.size∧BW u1 wd)
  case first =>
   have HSS:Hid (∀ u,BW u1 u→u.cell? ⟨w.heap.size,0,none⟩=some (.int .i64 td)∧u.cell? ⟨gn,0,none⟩=some (.int .i64 n0)∧u.cell? ⟨gn,1,none⟩=some (.int .i64 n1)∧u.cell? ⟨gn,2,none⟩=some (.int .i64 n2)∧u.cell? ⟨gn,3,none⟩=some (.int .i64 n3)):=fun u h=>by
    have l0:=World.block_lt_of_cell? u1 _ t0;obtain ⟨e0,e1,e2,e3⟩:=HNC.o u (next HB1.o h);exact ⟨(h.cell (p:=⟨w.heap.size,0,none⟩) l0).trans t0,e0,e1,e2,e3⟩
   have k0:BW u1 u1:=bR;obtain ⟨e0,e1,e2,e3⟩:=HNC.o u1 HB1.o;clear q0 q1 q2 q3 q4 q5 p0 p1 p2 p3 p4 p5 s0 s1 s2 s3 s4 s5 t1 t2 t3 t4 t5
   go_region_held3 (fun u=>u.cell? ⟨w.heap.size,0,none⟩=some (.int .i64 td)∧u.cell? ⟨gn,0,none⟩=some (.int .i64 n0)∧u.cell? ⟨gn,1,none⟩=some (.int .i64 n1)∧u.cell? ⟨gn,2,none⟩=some (.int .i64 n2)∧u.cell? ⟨gn,3,none⟩=some (.int .i64 n3)) (first | with_reducible exact HSS.o _ hb2 | with_reducible exact HSS.o _ k0 | with_reducible exact HSS.o _ k0.drew | with_reducible exact HSS.o _ (k0.alloc nL _) | with_reducible exact HSS.o _ ((k0.alloc nL _).drew) | with_reducible exact HSS.o _ (hb2.alloc hb2.size _) | exact HSS.o _ (Cp C hb2 nL)) ((first
    | (go_at_call 181;(with_reducible refine Calls.mono (HSTA.o u1.drew) ?_);rintro e u2 ⟨ea,ek,rfl,he,bb⟩;have hb2:BW u1 u2:=Below.trans ((Below.refl u1.heap.size u1).drew) bb)
    | (go_at_call 181;(with_reducible refine Calls.mono (HSTA.o (u1.alloc (.cells #[.int .i64 0,.int .i64 0,.int .i64 0,.int .i64 0,.int .i64 0,.int .i64 0,.int .i64 0,.int .i64 0,.int .i64 0,.bool false,.int .i64 0,.int .i64 0] 61)).drew) ?_);rintro e u2 ⟨ea,ek,rfl,he,bb⟩;obtain ⟨hcz,hfz,hbz⟩:=Qf bb;have HCZ:Hid _:=hcz;obtain ⟨g0,g1,g2,g3,g4,g5,g6,g7,g8,g9,g10,g11⟩:=hcz;obtain ⟨m0,m1,m2,m3,m4,m5,m6,m7,m8,m9,m10,m11⟩:=hfz;simp only [Nat.zero_add] at g0 g1 g2 g3 g4 g5 g6 g7 g8 g9 g10 g11 m0 m1 m2 m3 m4 m5 m6 m7 m8 m9 m10 m11;have hb2:BW u1 u2:=Below.trans ((Below.refl u1.heap.size u1).alloc nL (.cells #[.int .i64 0,.int .i64 0,.int .i64 0,.int .i64 0,.int .i64 0,.int .i64 0,.int .i64 0,.int .i64 0,.int .i64 0,.bool false,.int .i64 0,.int .i64 0] 61)) (hbz.mono (Nat.le_succ _)))))
   ·go_wp2_with fail
    go_meet;have h1:=hb2.alloc hb2.size (.cells #[.int .i64 C.iss,.int .i64 C.acq,.int .i64 C.cur,.int .i64 C.am,.int .i64 C.st,.int .i64 C.rsn,.int .i64 C.cl,.int .i64 C.bk,.int .i64 C.fee,.bool C.cop,.int .i64 C.sta,.int .i64 C.due] 61)
    exact ⟨u2.heap.size,ea,ek,rfl,rfl,rfl,CB.new u2 C _,Hk (he.alloc _),hb2.size,by simp,h1⟩
   ·go_wp2_with fail
    go_meet
    have hlt:u1.heap.size<(u1.alloc (.cells #[.int .i64 0,.int .i64 0,.int .i64 0,.int .i64 0,.int .i64 0,.int .i64 0,.int .i64 0,.int .i64 0,.int .i64 0,.bool false,.int .i64 0,.int .i64 0] 61)).drew.heap.size:=by simp
    exact ⟨u1.heap.size,ea,ek,rfl,rfl,rfl,Mb HCZ.o,Hk (N6 C he hlt),nL,by have h:=HCZ.o.lt;simpa using h,Cp C hb2 nL⟩
  case rest =>
   obtain ⟨X,ea,ek,rfl,rfl,rfl,hcx,hen,hx1,hx2,bc⟩:=hcut;have HZ2:Hid (Z6 w.heap.size (.int .i64 td) (.slice o fo.length oc) (.slice a az.length ac) (.slice c cs.length cc) (.slice l ls.length lc) (.slice g lg.length gc) wc):=HZ1.o.below bc;have HR2:Hid (Z6 (w.heap.size+1) (.int .i64 0) (.slice none 0 0) (.slice none 0 0) (.slice none 0 0) (.slice none 0 0) (.slice none 0 0) wc):=HR1.o.below bc;have HB2:Hid (BW w wc):=next HB1.o bc;have HC2:Hid (CB X 0 C wc):=hcx;have HE2:Hid (C8 wc ea E):=hen
   have HS2:Hid (w.heap.size+1<X∧X<wc.heap.size):=⟨by have:=HS1.o;omega,hx2⟩
   clear t0 t1 t2 t3 t4 t5 s0 s1 s2 s3 s4 s5 q0 q1 q2 q3 q4 q5 p0 p1 p2 p3 p4 p5 bc hcx hen hx1 hx2 HZ1 HR1 HB1 HS1 HSTA HNC;obtain ⟨t0,t1,t2,t3,t4,t5,s0,s1,s2,s3,s4,s5⟩:=HZ2.o;obtain ⟨q0,q1,q2,q3,q4,q5,p0,p1,p2,p3,p4,p5⟩:=HR2.o
   cases O1
   ·have HE:Hid _:=HQ3.o rfl
    go_wp2
    refine bodyPost_ret (by simp [results,results144,go_sem,q0,q1,q2,q3,q4,q5];try rfl) rfl ?_
    refine ⟨x,HBX.o,?_⟩;rw [HE.o]
    have bel:=Ax (R:=(w.heap.size+1)) (by omega) HB2.o
    exact ⟨⟨o,oc,a,ac,c,cc,l,lc,g,gc⟩,rfl,HX.o _ (bel _ _ _ _ _ _),rfl,rfl,⟨rfl,.inl rfl,.inl rfl,.inl rfl⟩,bel _ _ _ _ _ _⟩
   go_wp2_with fail
   refine Calls.mono (HPO.o wc ea ek HB2.o HE2.o) ?_;rintro e u2 ⟨la,lk,rfl,lo,b2⟩;obtain ⟨u3,hu3⟩:∃ u,u=u2.alloc (.cells #[.slice la A.length lk] 29):=⟨_,rfl⟩
   have b3:BW u2 u3:=by rw [hu3];exact bR.alloc nL _
   have b23:=next b2 b3;have HZ3:Hid (Z6 w.heap.size (.int .i64 td) (.slice o fo.length oc) (.slice a az.length ac) (.slice c cs.length cc) (.slice l ls.length lc) (.slice g lg.length gc) u3):=HZ2.o.below b23;have HR3:Hid (Z6 (w.heap.size+1) (.int .i64 0) (.slice none 0 0) (.slice none 0 0) (.slice none 0 0) (.slice none 0 0) (.slice none 0 0) u3):=HR2.o.below b23;have HB3:Hid (BW w u3):=next HB2.o b23;have HC3:Hid (CB X 0 C u3):=HC2.o.below b23
   have HL3:Hid (u3.cell? ⟨u2.heap.size,0,none⟩=some (.slice la A.length lk)):=by rw [Hid,hu3];simp
   have HLO:Hid (Ai u3 la A):=Df (Av lo b3)
   have HLF:Hid (Cm la (w.heap.size+1+1)):=fun x hx=>by have:=Cw lo x hx;have:=HS2.o;omega
   have HS3:Hid (w.heap.size+1<X∧X<u2.heap.size∧u2.heap.size<u3.heap.size):=⟨HS2.o.1,by have:=HS2.o.2;have:=b2.size;omega,by rw [hu3];simp⟩
   have HU3:Hid _:=hu3;obtain ⟨Y,hY⟩:∃ Y,u2.heap.size=Y:=⟨_,rfl⟩;rw [hY] at HL3 HS3;have HYE:Hid _:=hY;clear t0 t1 t2 t3 t4 t5 s0 s1 s2 s3 s4 s5 q0 q1 q2 q3 q4 q5 p0 p1 p2 p3 p4 p5 b2 b3 b23 lo hu3 hY HZ2 HR2 HB2 HC2 HE2 HS2 HPO;go_upto_region 10 with fail
   rw [← HU3.o,HYE.o];clear HU3 HYE;obtain ⟨t0,t1,t2,t3,t4,t5,s0,s1,s2,s3,s4,s5⟩:=HZ3.o;obtain ⟨q0,q1,q2,q3,q4,q5,p0,p1,p2,p3,p4,p5⟩:=HR3.o
   cases O2
   ·have HE:Hid _:=HQ4.o (by first | rfl | trivial) (by first | rfl | trivial)
    go_wp2
    refine bodyPost_ret (by simp [results,results144,go_sem,q0,q1,q2,q3,q4,q5];try rfl) rfl ?_
    refine ⟨x,HBX.o,?_⟩;rw [HE.o]
    have bel:=Ax (R:=(w.heap.size+1)) (by omega) HB3.o
    exact ⟨⟨o,oc,a,ac,c,cc,l,lc,g,gc⟩,rfl,HX.o _ (bel _ _ _ _ _ _),rfl,rfl,⟨rfl,.inl rfl,.inl rfl,.inl rfl⟩,bel _ _ _ _ _ _⟩
   have HE:Hid _:=HQ5.o (by first | rfl | trivial) (by first | rfl | trivial)
   clear HQ3 HQ4 HQ5;go_wp2_with fail
   refine Calls.mono (HUSE.o u3 x HB3.o) ?_;rintro e u4 ⟨ua,uk,rfl,uo,b4⟩;obtain ⟨L,hL⟩:∃ L,F.use az x=L:=⟨_,rfl⟩;rw [hL] at uo HE ⊢;have HZ4:Hid (Z6 w.heap.size (.int .i64 td) (.slice o fo.length oc) (.slice a az.length ac) (.slice c cs.length cc) (.slice l ls.length lc) (.slice g lg.length gc) u4):=HZ3.o.below b4;have HR4:Hid (Z6 (w.heap.size+1) (.int .i64 0) (.slice none 0 0) (.slice none 0 0) (.slice none 0 0) (.slice none 0 0) (.slice none 0 0) u4):=HR3.o.below b4;have HB4:Hid (BW w u4):=next HB3.o b4;have HC4:Hid (CB X 0 C u4):=HC3.o.below b4;have HL4:Hid (u4.cell? ⟨Y,0,none⟩=some (.slice la A.length lk)):=(b4.cell (p:=⟨Y,0,none⟩) (World.block_lt_of_cell? u3 _ HL3.o)).trans HL3.o;have HLO4:Hid (Ai u4 la A):=HLO.o.below b4
   have HUO:Hid (u4.ownsRow (w.heap.size+1+1) 107 6 (.slice ua L.length uk) L.length (Ah L)):=Bi uo (by have:=HS3.o;omega)
   have HS4:Hid (w.heap.size+1<X∧X<Y∧Y<u4.heap.size):=⟨HS3.o.1,HS3.o.2.1,by have:=HS3.o.2.2;have:=b4.size;omega⟩
   clear t0 t1 t2 t3 t4 t5 s0 s1 s2 s3 s4 s5 q0 q1 q2 q3 q4 q5 p0 p1 p2 p3 p4 p5 b4 uo hL HZ3 HR3 HB3 HC3 HL3 HLO HS3 HUSE;obtain ⟨t0,t1,t2,t3,t4,t5,s0,s1,s2,s3,s4,s5⟩:=HZ4.o;obtain ⟨q0,q1,q2,q3,q4,q5,p0,p1,p2,p3,p4,p5⟩:=HR4.o;go_upto_region 14 with fail
   obtain ⟨u5,hu5⟩:∃ u,u=u4.setCell ⟨w.heap.size,2,none⟩ (.slice ua L.length uk):=⟨_,rfl⟩
   have HZ5:Hid (Z6 w.heap.size (.int .i64 td) (.slice o fo.length oc) (.slice ua L.length uk) (.slice c cs.length cc) (.slice l ls.length lc) (.slice g lg.length gc) u5):=by rw [Hid,hu5];exact HZ4.o.set2 _
   have HR5:Hid (Z6 (w.heap.size+1) (.int .i64 0) (.slice none 0 0) (.slice none 0 0) (.slice none 0 0) (.slice none 0 0) (.slice none 0 0) u5):=by rw [Hid,hu5];exact HR4.o.far (by omega)
   have HB5:Hid (BW w u5):=by rw [Hid,hu5];exact HB4.o.setCell nL _
   have HC5:Hid (CB X 0 C u5):=by rw [Hid,hu5];exact HC4.o.grown (An _ _ _ _) (by have:=HS4.o;simp;omega)
   have HL5:Hid (u5.cell? ⟨Y,0,none⟩=some (.slice la A.length lk)):=by
    rw [Hid,hu5]
    exact ((An u4 w.heap.size 2 _).cell_far ⟨Y,0,none⟩ (World.block_lt_of_cell? u4 _ HL4.o) (by have:=HS4.o;simp;omega)).trans HL4.o
   have HLO5:Hid (Ai u5 la A):=by rw [Hid,hu5];exact HLO4.o.far (An _ _ _ _) (fun Q hQ=>by cases hQ;exact Bb HLF.o (by omega))
   have HUO5:Hid (u5.ownsRow (w.heap.size+1+1) 107 6 (.slice ua L.length uk) L.length (Ah L)):=by rw [Hid,hu5];exact Ad HUO.o (by omega)
   have HS5:Hid (w.heap.size+1<X∧X<Y∧Y<u5.heap.size):=⟨HS4.o.1,HS4.o.2.1,by rw [hu5];simpa using HS4.o.2.2⟩
   have HI5:Hid (∀ u,BW u5 u→A0 u c cs):=fun u h=>(HX.o u (next HB5.o h)).cs
   rw [← hu5];clear hu5 t0 t1 t2 t3 t4 t5 s0 s1 s2 s3 s4 s5 q0 q1 q2 q3 q4 q5 p0 p1 p2 p3 p4 p5 HZ4 HR4 HB4 HC4 HL4 HLO4 HUO HS4
   go_cut [5] (fun v5 wz=>v5=.int .i64 0∧∃ (gb kb:Nat),Z6 w.heap.size (.int .i64 td) (.slice o fo.length oc) (.slice ua L.length uk) (.slice (some ⟨gb,0,none⟩) (cs.length+1) kb) (.slice l ls.length lc) (.slice g lg.length gc) wz∧Z6 (w.heap.size+1) (.int .i64 0) (.slice none 0 0) (.slice none 0 0) (.slice none 0 0) (.slice none 0 0) (.slice none 0 0) wz∧BW w wz∧wz.ownsRow u5.heap.size 61 12 (.slice (some ⟨gb,0,none⟩) (cs.length+1) kb) (cs.length+1) (Aj (cs++[C]))∧Ai wz la A∧wz.cell? ⟨Y,0,none⟩=some (.slice la A.length lk)∧wz.ownsRow (w.heap.size+1+1) 107 6 (.slice ua L.length uk) L.length (Ah L))
   case first =>
    have HSS:Hid (∀ u,BW u5 u→u.cell? ⟨w.heap.size,3,none⟩=some (.slice c cs.length cc)∧u.cell? ⟨X,0,none⟩=some (.int .i64 C.iss)∧u.cell? ⟨X,1,none⟩=some (.int .i64 C.acq)∧u.cell? ⟨X,2,none⟩=some (.int .i64 C.cur)∧u.cell? ⟨X,3,none⟩=some (.int .i64 C.am)∧u.cell? ⟨X,4,none⟩=some (.int .i64 C.st)∧u.cell? ⟨X,5,none⟩=some (.int .i64 C.rsn)∧u.cell? ⟨X,6,none⟩=some (.int .i64 C.cl)∧u.cell? ⟨X,7,none⟩=some (.int .i64 C.bk)∧u.cell? ⟨X,8,none⟩=some (.int .i64 C.fee)∧u.cell? ⟨X,9,none⟩=some (.bool C.cop)∧u.cell? ⟨X,10,none⟩=some (.int .i64 C.sta)∧u.cell? ⟨X,11,none⟩=some (.int .i64 C.due)):=fun u h=>by
     obtain ⟨d0,d1,d2,d3,d4,d5,d6,d7,d8,d9,d10,d11⟩:=HC5.o.below h
     simp only [Nat.zero_add] at d0 d1 d2 d3 d4 d5 d6 d7 d8 d9 d10 d11
     exact ⟨(HZ5.o.below h).c3,d0,d1,d2,d3,d4,d5,d6,d7,d8,d9,d10,d11⟩
    have HCB2:Hid (CB (u5.heap.size+1) 0 C ((u5.alloc (.cells #[] 61)).alloc (.cells #[.int .i64 C.iss,.int .i64 C.acq,.int .i64 C.cur,.int .i64 C.am,.int .i64 C.st,.int .i64 C.rsn,.int .i64 C.cl,.int .i64 C.bk,.int .i64 C.fee,.bool C.cop,.int .i64 C.sta,.int .i64 C.due] 61))):=rF u5 C;have HCB1:Hid (CB u5.heap.size 0 C ((u5.alloc (.cells #[.int .i64 C.iss,.int .i64 C.acq,.int .i64 C.cur,.int .i64 C.am,.int .i64 C.st,.int .i64 C.rsn,.int .i64 C.cl,.int .i64 C.bk,.int .i64 C.fee,.bool C.cop,.int .i64 C.sta,.int .i64 C.due] 61)).alloc (.cells #[] 61))):=(CB.new u5 C _).below (bR.alloc nL _);have k0:BW u5 u5:=bR
    have HEND:Hid (∀ (w4:World) (gb kb:Nat),BW u5 w4→w4.ownsRow u5.heap.size 61 12 (.slice (some ⟨gb,0,none⟩) (cs.length+1) kb) (cs.length+1) (Aj cs++Aj [C])→Z6 w.heap.size (.int .i64 td) (.slice o fo.length oc) (.slice ua L.length uk) (.slice (some ⟨gb,0,none⟩) (cs.length+1) kb) (.slice l ls.length lc) (.slice g lg.length gc) (w4.setCell ⟨w.heap.size,3,none⟩ (.slice (some ⟨gb,0,none⟩) (cs.length+1) kb))∧Z6 (w.heap.size+1) (.int .i64 0) (.slice none 0 0) (.slice none 0 0) (.slice none 0 0) (.slice none 0 0) (.slice none 0 0) (w4.setCell ⟨w.heap.size,3,none⟩ (.slice (some ⟨gb,0,none⟩) (cs.length+1) kb))∧Below w.heap.size w (w4.setCell ⟨w.heap.size,3,none⟩ (.slice (some ⟨gb,0,none⟩) (cs.length+1) kb))∧(w4.setCell ⟨w.heap.size,3,none⟩ (.slice (some ⟨gb,0,none⟩) (cs.length+1) kb)).ownsRow u5.heap.size 61 12 (.slice (some ⟨gb,0,none⟩) (cs.length+1) kb) (cs.length+1) (Aj (cs++[C]))∧Ai (w4.setCell ⟨w.heap.size,3,none⟩ (.slice (some ⟨gb,0,none⟩) (cs.length+1) kb)) la A∧(w4.setCell ⟨w.heap.size,3,none⟩ (.slice (some ⟨gb,0,none⟩) (cs.length+1) kb)).cell? ⟨Y,0,none⟩=some (.slice la A.length lk)∧(w4.setCell ⟨w.heap.size,3,none⟩ (.slice (some ⟨gb,0,none⟩) (cs.length+1) kb)).ownsRow (w.heap.size+1+1) 107 6 (.slice ua L.length uk) L.length (Ah L)):=fun w4 gb kb q4 o4=>by
     have hy:=(q4.cell (p:=⟨Y,0,none⟩) (World.block_lt_of_cell? u5 _ HL5.o)).trans HL5.o
     refine ⟨(HZ5.o.below q4).set3 _,(HR5.o.below q4).far (by omega),(next HB5.o q4).setCell nL _,?_,(HLO5.o.below q4).far (An _ _ _ _) (fun Q hQ=>by cases hQ;exact Bb HLF.o (by omega)),((An w4 w.heap.size 3 _).cell_far ⟨Y,0,none⟩ (World.block_lt_of_cell? w4 _ hy) (by have:=HS5.o;simp;omega)).trans hy,Ad (Av HUO5.o q4) (by omega)⟩
     rw [J5]
     exact Ad o4 (by have:=HS5.o;omega)
    obtain ⟨y3,d0,d1,d2,d3,d4,d5,d6,d7,d8,d9,d10,d11⟩:=HSS.o u5 k0
    have hA1:∀ o,Below u5.heap.size u5 (u5.alloc o):=fun o=>bR.alloc nL _
    have hA2:∀ o o',Below u5.heap.size u5 ((u5.alloc o).alloc o'):=fun o o'=>(bR.alloc nL _).alloc (by simp) _
    have ya3:=fun o=>(HSS.o _ (hA1 o)).1
    have yb3:=fun o o'=>(HSS.o _ (hA2 o o')).1
    have da0:=fun o=>(HSS.o _ (hA1 o)).2.1
    have da1:=fun o=>(HSS.o _ (hA1 o)).2.2.1
    have da2:=fun o=>(HSS.o _ (hA1 o)).2.2.2.1
    have da3:=fun o=>(HSS.o _ (hA1 o)).2.2.2.2.1
    have da4:=fun o=>(HSS.o _ (hA1 o)).2.2.2.2.2.1
    have da5:=fun o=>(HSS.o _ (hA1 o)).2.2.2.2.2.2.1
    have da6:=fun o=>(HSS.o _ (hA1 o)).2.2.2.2.2.2.2.1
    have da7:=fun o=>(HSS.o _ (hA1 o)).2.2.2.2.2.2.2.2.1
    have da8:=fun o=>(HSS.o _ (hA1 o)).2.2.2.2.2.2.2.2.2.1
    have da9:=fun o=>(HSS.o _ (hA1 o)).2.2.2.2.2.2.2.2.2.2.1
    have da10:=fun o=>(HSS.o _ (hA1 o)).2.2.2.2.2.2.2.2.2.2.2.1
    have da11:=fun o=>(HSS.o _ (hA1 o)).2.2.2.2.2.2.2.2.2.2.2.2
    clear hA1 hA2
    go_region_law (first
     | (refine Cv rfl (.tmp 77) (.tmp 79) rfl u5.heap.size (.slice (some ⟨u5.heap.size,0,none⟩) 0 0) 0 [] (by simp [Act.eval]) (Av (mM u5) bR.drew) c cc cs (by simp [Act.eval]) (HI5.o _ (by go_grown)) (by omega) (by simp;done) ?_
        intro v3 w3 o3 g3 n3;rw [Nat.zero_add,List.nil_append] at o3
        obtain ⟨ga,ca,hva⟩:=Jq o3 (n3 (by simp))
        subst hva
        have q3:BW u5 w3:=Below.grown (by go_grown) g3 (by simp;done) (fun k hk=>by simp [Value.ownBlock] at hk;omega)
        have HO3:Hid (w3.ownsRow u5.heap.size 61 12 (.slice (some ⟨ga,0,none⟩) cs.length ca) cs.length (Aj cs)):=o3;obtain ⟨yw3,dw0,dw1,dw2,dw3,dw4,dw5,dw6,dw7,dw8,dw9,dw10,dw11⟩:=HSS.o _ q3;have hs3:=q3.size;clear o3 g3 n3)
     | (refine Cv rfl (.tmp 77) (.tmp 79) rfl u5.heap.size (.slice (some ⟨u5.heap.size,0,none⟩) 0 0) 0 [] (by simp [Act.eval]) (Av ((mM u5).alloc _) bR.drew) c cc cs (by simp [Act.eval]) (HI5.o _ (by go_grown)) (by omega) (by simp;omega) ?_
        intro v3 w3 o3 g3 n3;rw [Nat.zero_add,List.nil_append] at o3
        obtain ⟨ga,ca,hva⟩:=Jq o3 (n3 (by simp))
        subst hva
        have q3:BW u5 w3:=Below.grown (by go_grown) g3 (by simp;omega) (fun k hk=>by simp [Value.ownBlock] at hk;omega)
        have C0:Hid (A0 w3 (some ⟨u5.heap.size+1,0,none⟩) [C]):=J3 (((HCB2.o.below (bR.drew))).grown g3 (by simp [Value.ownBlock]))
        have HO3:Hid (w3.ownsRow u5.heap.size 61 12 (.slice (some ⟨ga,0,none⟩) cs.length ca) cs.length (Aj cs)):=o3;obtain ⟨yw3,dw0,dw1,dw2,dw3,dw4,dw5,dw6,dw7,dw8,dw9,dw10,dw11⟩:=HSS.o _ q3;have hs3:=q3.size;clear o3 g3 n3)
     | (refine Cv rfl (.tmp 77) (.tmp 79) rfl u5.heap.size (.slice (some ⟨u5.heap.size+1,0,none⟩) 0 0) 0 [] (by simp [Act.eval]) (Av (qK u5 C) bR.drew) c cc cs (by simp [Act.eval]) (HI5.o _ (by go_grown)) (by omega) (by simp;omega) ?_
        intro v3 w3 o3 g3 n3;rw [Nat.zero_add,List.nil_append] at o3
        obtain ⟨ga,ca,hva⟩:=Jq o3 (n3 (by simp))
        subst hva
        have q3:BW u5 w3:=Below.grown (by go_grown) g3 (by simp;omega) (fun k hk=>by simp [Value.ownBlock] at hk;omega)
        have C0:Hid (A0 w3 (some ⟨u5.heap.size,0,none⟩) [C]):=J3 (((HCB1.o.below (bR.drew))).grown g3 (by simp [Value.ownBlock]))
        have HO3:Hid (w3.ownsRow u5.heap.size 61 12 (.slice (some ⟨ga,0,none⟩) cs.length ca) cs.length (Aj cs)):=o3;obtain ⟨yw3,dw0,dw1,dw2,dw3,dw4,dw5,dw6,dw7,dw8,dw9,dw10,dw11⟩:=HSS.o _ q3;have hs3:=q3.size;clear o3 g3 n3)
     | (refine Cv rfl (.tmp 80) (.tmp 82) rfl u5.heap.size (.slice (some ⟨ga,0,none⟩) cs.length ca) cs.length (Aj cs) (by simp [Act.eval]) (Av HO3.o (by first | exact bR | go_grown)) _ 1 [C] (by simp [Act.eval];try rfl) (C0.o.below (by first | exact bR | go_grown)) (by simp;omega) (by first | exact hs3 | (simp;omega)) ?_
        intro v4 w4 o4 g4 n4
        obtain ⟨gb,kb,hvb⟩:=Jq o4 (n4 (by simp))
        subst hvb
        have q4:BW u5 w4:=Below.grown (q3.trans (Below.mono (by first | exact bR | go_grown) hs3)) g4 (by first | exact hs3 | (simp;omega)) (fun k hk=>(HO3.o.lt k hk).1)
        have HO4:Hid (w4.ownsRow u5.heap.size 61 12 (.slice (some ⟨gb,0,none⟩) (cs.length+1) kb) (cs.length+1) (Aj cs++Aj [C])):=o4;have hs4:=q4.size;have hz4:=HZ5.o.below q4;have zc3:=hz4.c3;have zz3:=hz4.z3
        simp only [List.length_singleton]
        clear o4 g4 n4 hz4)
     | (refine Cv rfl (.tmp 80) (.tmp 82) rfl u5.heap.size (.slice (some ⟨ga,0,none⟩) cs.length ca) cs.length (Aj cs) (by simp [Act.eval]) (Av HO3.o (by first | exact bR | go_grown)) (some ⟨w3.heap.size,0,none⟩) 1 [C] (by simp [Act.eval];try rfl) (J3 (CB.new w3 C _)) (by simp;omega) (by simp;omega) ?_
        intro v4 w4 o4 g4 n4
        obtain ⟨gb,kb,hvb⟩:=Jq o4 (n4 (by simp))
        subst hvb
        have q4:BW u5 w4:=Below.grown (q3.trans (Below.mono (by first | exact bR | go_grown) hs3)) g4 (by simp;omega) (fun k hk=>(HO3.o.lt k hk).1)
        have HO4:Hid (w4.ownsRow u5.heap.size 61 12 (.slice (some ⟨gb,0,none⟩) (cs.length+1) kb) (cs.length+1) (Aj cs++Aj [C])):=o4;have hs4:=q4.size;have hz4:=HZ5.o.below q4;have zc3:=hz4.c3;have zz3:=hz4.z3
        simp only [List.length_singleton]
        clear o4 g4 n4 hz4)
     | fail)
    all_goals
     go_wp2_with fail
     go_meet;exact ⟨rfl,gb,kb,HEND.o _ gb kb q4 HO4.o⟩
   case rest =>
    obtain ⟨rfl,gb,kb,hz6,hr6,hb6,ho6,hl6,hy6,hu6⟩:=hcut;have HZ6:Hid _:=hz6;have HR6:Hid (Z6 (w.heap.size+1) (.int .i64 0) (.slice none 0 0) (.slice none 0 0) (.slice none 0 0) (.slice none 0 0) (.slice none 0 0) wc):=hr6;have HB6:Hid (BW w wc):=hb6;have HO6:Hid (wc.ownsRow u5.heap.size 61 12 (.slice (some ⟨gb,0,none⟩) (cs.length+1) kb) (cs.length+1) (Aj (cs++[C]))):=ho6;have HL6:Hid (Ai wc la A):=hl6;have HU6:Hid (wc.ownsRow (w.heap.size+1+1) 107 6 (.slice ua L.length uk) L.length (Ah L)):=hu6;obtain ⟨t0,t1,t2,t3,t4,t5,s0,s1,s2,s3,s4,s5⟩:=hz6;clear hr6 hb6 ho6 hl6 hu6;obtain ⟨u7,hu7⟩:∃ u,u=wc.setCell ⟨w.heap.size,4,none⟩ (.slice la A.length lk):=⟨_,rfl⟩
    have HZ7:Hid (Z6 w.heap.size (.int .i64 td) (.slice o fo.length oc) (.slice ua L.length uk) (.slice (some ⟨gb,0,none⟩) (cs.length+1) kb) (.slice la A.length lk) (.slice g lg.length gc) u7):=by rw [Hid,hu7];exact Z6.set4 ⟨t0,t1,t2,t3,t4,t5,s0,s1,s2,s3,s4,s5⟩ _
    have HR7:Hid (Z6 (w.heap.size+1) (.int .i64 0) (.slice none 0 0) (.slice none 0 0) (.slice none 0 0) (.slice none 0 0) (.slice none 0 0) u7):=by rw [Hid,hu7];exact HR6.o.far (by omega)
    have HB7:Hid (BW w u7):=by rw [Hid,hu7];exact HB6.o.setCell nL _
    have HO7:Hid (u7.ownsRow u5.heap.size 61 12 (.slice (some ⟨gb,0,none⟩) (cs.length+1) kb) (cs.length+1) (Aj (cs++[C]))):=by rw [Hid,hu7];exact Ad HO6.o (by have:=HS5.o;omega)
    have HL7:Hid (Ai u7 la A):=by rw [Hid,hu7];exact HL6.o.far (An _ _ _ _) (fun Q hQ=>by cases hQ;exact Bb HLF.o (by omega))
    have HU7:Hid (u7.ownsRow (w.heap.size+1+1) 107 6 (.slice ua L.length uk) L.length (Ah L)):=by rw [Hid,hu7];exact Ad HU6.o (by omega)
    have HW7:Hid _:=hu7;clear hu7;go_upto_region 16 with fail
    rw [← HW7.o];clear HW7 t0 t1 t2 t3 t4 t5 s0 s1 s2 s3 s4 s5 hy6;obtain ⟨t0,t1,t2,t3,t4,t5,s0,s1,s2,s3,s4,s5⟩:=HZ7.o;obtain ⟨q0,q1,q2,q3,q4,q5,p0,p1,p2,p3,p4,p5⟩:=HR7.o;go_wp2
    refine bodyPost_ret (by simp [results,results144,go_sem,q0,q1,q2,q3,q4,q5];try rfl) rfl ?_
    refine ⟨x,HBX.o,?_⟩;rw [HE.o]
    have bel:=Ax (R:=(w.heap.size+1)) (by omega) HB7.o
    have hX:=HX.o _ (bel (.int .i64 td) (.slice o fo.length oc) (.slice ua L.length uk) (.slice (some ⟨gb,0,none⟩) (cs.length+1) kb) (.slice la A.length lk) (.slice g lg.length gc))
    have hlen:(cs++[C]).length=cs.length+1:=by simp
    refine ⟨⟨o,oc,ua,uk,some ⟨gb,0,none⟩,kb,la,lk,g,gc⟩,by simp [C5],⟨hX.off,Fd (Ea HU7.o (by omega) _ _ _ _ _ _),F2 (Ea HO7.o (by have:=HS5.o;omega) _ _ _ _ _ _),Rc HL7.o (Bb HLF.o (by omega)) _ _ _ _ _ _,hX.log⟩,rfl,rfl,⟨rfl,.inr (fun y hy=>by have:=Cw HU7.o y hy;omega),.inr (fun y hy=>by have:=Cw HO7.o y hy;have:=HS5.o;omega),.inr (fun y hy=>by have:=HLF.o y hy;omega)⟩,bel _ _ _ _ _ _⟩
end Go.Proofs.YtomiclakhjncbaaGreatDoor
