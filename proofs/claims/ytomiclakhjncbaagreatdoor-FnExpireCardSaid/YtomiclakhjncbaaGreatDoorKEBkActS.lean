import Derived.Test.YtomiclakhjncbaaGreatDoorJE2a
namespace Go.Proofs.YtomiclakhjncbaaGreatDoor
open Go.RowKit Go.Proofs.Tryz
set_option maxRecDepth 100000
set_option maxHeartbeats 12800000
theorem kC (F:Ff) (K:Nc F) (b:Bk) (p:Bp) (i:Int) (x:Ac) (w:World) (hx:Aq w b p) (hn:D0 b) :
  Calls prog 146 #[C5 b p,.int .i64 i,av x] w (U8 w p (Ja F b i x).1 (Ja F b i x).2):=by
 unfold av
 have HX:Hid (∀ u,BW w u→Aq u b p):=fun u h=>hx.below h
 have HN:Hid (D0 b):=hn;clear hx hn;obtain ⟨td,fo,az,cs,ls,lg⟩:=b;obtain ⟨o,oc,a,ac,c,cc,l,lc,g,gc⟩:=p;unfold C5
 simp only
 obtain ⟨u0,hu0⟩:∃ u,u=((w.alloc (.cells #[.int .i64 td,.slice o fo.length oc,.slice a az.length ac,.slice c cs.length cc,.slice l ls.length lc,.slice g lg.length gc] 31)).alloc (.cells #[.int .i64 x.kind,.int .i64 x.am,.int .i64 x.rsn] 165)).alloc (.cells qzB 31):=⟨_,rfl⟩
 have HB0:Hid (BW w u0):=by rw [Hid,hu0];go_grown
 have HS0:Hid ((w.heap.size+1+1)<u0.heap.size):=by rw [Hid,hu0];simp
 have HZ0:Hid (Z6 w.heap.size (.int .i64 td) (.slice o fo.length oc) (.slice a az.length ac) (.slice c cs.length cc) (.slice l ls.length lc) (.slice g lg.length gc) u0):=by
  rw [Hid,hu0];exact ((Z6.new w (.int .i64 td) (.slice o fo.length oc) (.slice a az.length ac) (.slice c cs.length cc) (.slice l ls.length lc) (.slice g lg.length gc) 31).below (bR.alloc nL _)).below (bR.alloc nL _)
 have HR0:Hid (Z6 (w.heap.size+1+1) (.int .i64 0) (.slice none 0 0) (.slice none 0 0) (.slice none 0 0) (.slice none 0 0) (.slice none 0 0) u0):=by
  have h:=Z6.new ((w.alloc (.cells #[.int .i64 td,.slice o fo.length oc,.slice a az.length ac,.slice c cs.length cc,.slice l ls.length lc,.slice g lg.length gc] 31)).alloc (.cells #[.int .i64 x.kind,.int .i64 x.am,.int .i64 x.rsn] 165)) (.int .i64 0) (.slice none 0 0) (.slice none 0 0) (.slice none 0 0) (.slice none 0 0) (.slice none 0 0) 31
  rw [Hid,hu0];simpa using h
 have HU0:Hid _:=hu0
 have HA0:Hid (u0.cell? ⟨w.heap.size+1,0,none⟩=some (.int .i64 x.kind)∧u0.cell? ⟨w.heap.size+1,1,none⟩=some (.int .i64 x.am)∧u0.cell? ⟨w.heap.size+1,2,none⟩=some (.int .i64 x.rsn)):=by
  rw [Hid,hu0];simp [go_sem]
 clear hu0
 have hcn:cs.length≤1048576:=by have:=HN.o.2.2.1;simpa using this
 go_enter func146,ntmps146
 go_upto_region 1 with fail
 rw [← HU0.o];clear HU0;obtain ⟨t0,t1,t2,t3,t4,t5,s0,s1,s2,s3,s4,s5⟩:=HZ0.o;obtain ⟨q0,q1,q2,q3,q4,q5,p0,p1,p2,p3,p4,p5⟩:=HR0.o;obtain ⟨y0,y1,y2⟩:=HA0.o
 by_cases hi:0≤i∧i≤(cs.length:Int) - 1
 case neg =>
  have HE:Hid _:=@cE F ⟨td,fo,az,cs,ls,lg⟩ i x hi
  have hin:Gk i 0 ((cs.length:Int) - 1)=false:=by simp [Gk];omega
  go_wp2_with (go_at_call 134;refine (Dl _ _ _ _).mono ?_;rintro e w' ⟨rfl,hw'⟩;replace hw':=hw'.symm;subst hw';rw [hin])
  refine bodyPost_ret (by simp [results,results146,go_sem,q0,q1,q2,q3,q4,q5];try rfl) rfl ?_
  rw [HE.o]
  have bel:=Ax (R:=(w.heap.size+1+1)) (by omega) HB0.o
  exact ⟨⟨o,oc,a,ac,c,cc,l,lc,g,gc⟩,rfl,HX.o _ (bel _ _ _ _ _ _),rfl,rfl,⟨rfl,.inl rfl,.inl rfl,.inl rfl⟩,bel _ _ _ _ _ _⟩
 have hin:Gk i 0 ((cs.length:Int) - 1)=true:=by simp [Gk];omega
 obtain ⟨k,rfl⟩:=Int.eq_ofNat_of_zero_le hi.1
 have hk:k<cs.length:=by omega
 have HN2:Hid _:=@cD F ⟨td,fo,az,cs,ls,lg⟩ (k:Int) x hi;have HN3:Hid _:=@dC F ⟨td,fo,az,cs,ls,lg⟩ (k:Int) x hi;have HY:Hid _:=@bE F ⟨td,fo,az,cs,ls,lg⟩ (k:Int) x hi
 simp only [Int.toNat_natCast] at HN2 HN3 HY
 have HCS:Hid (∀ u,BW w u→∃ cb off,c=some ⟨cb,off,none⟩∧cb<w.heap.size∧CB cb (off+k*12) (A8 cs k) u):=fun u h=>by
  obtain ⟨cb,off,e1,e2,e3⟩:=(HX.o w bR).cs.at hk
  exact ⟨cb,off,e1,e2,by
   have l:=e2;obtain ⟨t0,t1,t2,t3,t4,t5,t6,t7,t8,t9,t10,t11⟩:=e3;exact ⟨(h.cell (p:=⟨cb,off+k*12,none⟩) l).trans t0,(h.cell (p:=⟨cb,off+k*12+1,none⟩) l).trans t1,(h.cell (p:=⟨cb,off+k*12+2,none⟩) l).trans t2,(h.cell (p:=⟨cb,off+k*12+3,none⟩) l).trans t3,(h.cell (p:=⟨cb,off+k*12+4,none⟩) l).trans t4,(h.cell (p:=⟨cb,off+k*12+5,none⟩) l).trans t5,(h.cell (p:=⟨cb,off+k*12+6,none⟩) l).trans t6,(h.cell (p:=⟨cb,off+k*12+7,none⟩) l).trans t7,(h.cell (p:=⟨cb,off+k*12+8,none⟩) l).trans t8,(h.cell (p:=⟨cb,off+k*12+9,none⟩) l).trans t9,(h.cell (p:=⟨cb,off+k*12+10,none⟩) l).trans t10,(h.cell (p:=⟨cb,off+k*12+11,none⟩) l).trans t11⟩⟩
 have HDO:Hid (∀ u,BW w u→Calls prog 184 #[cv (A8 cs k),av x,.int .i64 td,.slice o fo.length oc] u fun e w'=>∃ ao cap,e=.returned (.tuple #[cv (F.doC (A8 cs k) x td fo),.slice ao (F.doE (A8 cs k) x td fo).length cap,.int .i64 (F.doV (A8 cs k) x td fo)])∧w'.ownsRow u.heap.size 269 4 (.slice ao (F.doE (A8 cs k) x td fo).length cap) (F.doE (A8 cs k) x td fo).length (Ba (F.doE (A8 cs k) x td fo))∧BW u w'):=fun u h=>K.act _ x td o oc fo u (HX.o u h).off (by have:=HN.o.1;simpa using this)
 have HEN:Hid _:=K.few (A8 cs k) x td fo;have HVB:Hid _:=K.code (A8 cs k) x td fo
 have HPO:Hid (∀ (u:World) (eo:Option Addr) (ec:Nat),BW w u→C8 u eo (F.doE (A8 cs k) x td fo)→Calls prog 182 #[.agg #[.slice l ls.length lc],.slice eo (F.doE (A8 cs k) x td fo).length ec] u fun e w'=>∃ ao cap,e=.returned (.tuple #[.agg #[.slice ao (F.all ls (F.doE (A8 cs k) x td fo)).length cap],.bool (F.allOk ls (F.doE (A8 cs k) x td fo))])∧w'.ownsRow u.heap.size 113 3 (.slice ao (F.all ls (F.doE (A8 cs k) x td fo)).length cap) (F.all ls (F.doE (A8 cs k) x td fo)).length (Ag (F.all ls (F.doE (A8 cs k) x td fo)))∧BW u w'):=fun u eo ec h he=>K.post l lc ls eo ec _ u (HX.o u h).ls (by have:=HN.o.2.2.2.1;simpa using this) he HEN.o
 obtain ⟨C,hC⟩:∃ C,A8 cs k=C:=⟨_,rfl⟩;rw [hC] at HDO HPO HN2 HN3 HY HEN HVB HCS;obtain ⟨D,hD⟩:∃ D,F.doC C x td fo=D:=⟨_,rfl⟩;obtain ⟨E,hE⟩:∃ E,F.doE C x td fo=E:=⟨_,rfl⟩;obtain ⟨V,hV⟩:∃ V,F.doV C x td fo=V:=⟨_,rfl⟩;rw [hD] at HDO HY;rw [hE] at HDO HPO HN3 HY HEN;rw [hV] at HDO HN2 HN3 HY HVB;obtain ⟨A,hA⟩:∃ A,F.all ls E=A:=⟨_,rfl⟩;obtain ⟨O,hO⟩:∃ O,F.allOk ls E=O:=⟨_,rfl⟩;rw [hA] at HPO HY;rw [hO] at HPO HN3 HY;have hvb:=HVB.o;clear hC hD hE hV hA hO;obtain ⟨cb,off,rfl,hcb,hcc⟩:=HCS.o u0 HB0.o;obtain ⟨iY,aZ,uV,am,st,rJ,cl,bk,fW,cW,sS,dX⟩:=C;obtain ⟨z0,z1,z2,z3,z4,z5,z6,z7,z8,z9,z10,z11⟩:=hcc
 simp only at z0 z1 z2 z3 z4 z5 z6 z7 z8 z9 z10 z11
 obtain ⟨xk,xa,xr⟩:=x
 simp only at y0 y1 y2
 unfold cv av at HDO
 simp only at HDO
 have hki:(k:Int)<(cs.length:Int):=by omega
 go_upto_region 3 with (go_at_call 134;refine (Dl _ _ _ _).mono ?_;rintro e w' ⟨rfl,hw'⟩;replace hw':=hw'.symm;subst hw';rw [hin])
 go_cut [8,9,10] (fun v8 v9 v10 wc=>∃ (X:Nat) (ea:Option Addr) (ek:Nat),v8=.pointer (some ⟨X,0,none⟩)∧v9=.slice ea E.length ek∧v10=.int .i64 V∧CB X 0 D wc∧C8 wc ea E∧u0.heap.size≤X∧X<wc.heap.size∧BW u0 wc)
 case first =>
  have HSS:Hid (∀ u,BW u0 u→u.cell? ⟨w.heap.size,0,none⟩=some (.int .i64 td)∧u.cell? ⟨w.heap.size,1,none⟩=some (.slice o fo.length oc)∧u.cell? ⟨w.heap.size,3,none⟩=some (.slice (some ⟨cb,off,none⟩) cs.length cc)∧u.cell? ⟨w.heap.size+1,0,none⟩=some (.int .i64 xk)∧u.cell? ⟨w.heap.size+1,1,none⟩=some (.int .i64 xa)∧u.cell? ⟨w.heap.size+1,2,none⟩=some (.int .i64 xr)∧u.cell? ⟨cb,off+k*12,none⟩=some (.int .i64 iY)∧u.cell? ⟨cb,off+k*12+1,none⟩=some (.int .i64 aZ)∧u.cell? ⟨cb,off+k*12+2,none⟩=some (.int .i64 uV)∧u.cell? ⟨cb,off+k*12+3,none⟩=some (.int .i64 am)∧u.cell? ⟨cb,off+k*12+4,none⟩=some (.int .i64 st)∧u.cell? ⟨cb,off+k*12+5,none⟩=some (.int .i64 rJ)∧u.cell? ⟨cb,off+k*12+6,none⟩=some (.int .i64 cl)∧u.cell? ⟨cb,off+k*12+7,none⟩=some (.int .i64 bk)∧u.cell? ⟨cb,off+k*12+8,none⟩=some (.int .i64 fW)∧u.cell? ⟨cb,off+k*12+9,none⟩=some (.bool cW)∧u.cell? ⟨cb,off+k*12+10,none⟩=some (.int .i64 sS)∧u.cell? ⟨cb,off+k*12+11,none⟩=some (.int .i64 dX)):=fun u h=>by
   have l0:=World.block_lt_of_cell? u0 _ t0;have l1:=World.block_lt_of_cell? u0 _ y0;have l2:=World.block_lt_of_cell? u0 _ z0;exact ⟨(h.cell (p:=⟨w.heap.size,0,none⟩) l0).trans t0,(h.cell (p:=⟨w.heap.size,1,none⟩) l0).trans t1,(h.cell (p:=⟨w.heap.size,3,none⟩) l0).trans t3,(h.cell (p:=⟨w.heap.size+1,0,none⟩) l1).trans y0,(h.cell (p:=⟨w.heap.size+1,1,none⟩) l1).trans y1,(h.cell (p:=⟨w.heap.size+1,2,none⟩) l1).trans y2,(h.cell (p:=⟨cb,off+k*12,none⟩) l2).trans z0,(h.cell (p:=⟨cb,off+k*12+1,none⟩) l2).trans z1,(h.cell (p:=⟨cb,off+k*12+2,none⟩) l2).trans z2,(h.cell (p:=⟨cb,off+k*12+3,none⟩) l2).trans z3,(h.cell (p:=⟨cb,off+k*12+4,none⟩) l2).trans z4,(h.cell (p:=⟨cb,off+k*12+5,none⟩) l2).trans z5,(h.cell (p:=⟨cb,off+k*12+6,none⟩) l2).trans z6,(h.cell (p:=⟨cb,off+k*12+7,none⟩) l2).trans z7,(h.cell (p:=⟨cb,off+k*12+8,none⟩) l2).trans z8,(h.cell (p:=⟨cb,off+k*12+9,none⟩) l2).trans z9,(h.cell (p:=⟨cb,off+k*12+10,none⟩) l2).trans z10,(h.cell (p:=⟨cb,off+k*12+11,none⟩) l2).trans z11⟩
  have k0:BW u0 u0:=bR;have HP1:Hid (BW w u0.drew):=HB0.o.trans ((bR.drew).mono (HB0.o.size));have HP2:Hid (Below w.heap.size w (u0.alloc (.cells #[.int .i64 0,.int .i64 0,.int .i64 0,.int .i64 0,.int .i64 0,.int .i64 0,.int .i64 0,.int .i64 0,.int .i64 0,.bool false,.int .i64 0,.int .i64 0] 61)).drew):=HB0.o.trans (((((Below.refl u0.heap.size u0).alloc nL _).drew)).mono (HB0.o.size));clear q0 q1 q2 q3 q4 q5 p0 p1 p2 p3 p4 p5 s0 s1 s2 s3 s4 s5 t2 t4 t5 z0 z1 z2 z3 z4 z5 z6 z7 z8 z9 z10 z11
  go_region_held3 (fun u=>u.cell? ⟨w.heap.size,0,none⟩=some (.int .i64 td)∧u.cell? ⟨w.heap.size,1,none⟩=some (.slice o fo.length oc)∧u.cell? ⟨w.heap.size,3,none⟩=some (.slice (some ⟨cb,off,none⟩) cs.length cc)∧u.cell? ⟨w.heap.size+1,0,none⟩=some (.int .i64 xk)∧u.cell? ⟨w.heap.size+1,1,none⟩=some (.int .i64 xa)∧u.cell? ⟨w.heap.size+1,2,none⟩=some (.int .i64 xr)∧u.cell? ⟨cb,off+k*12,none⟩=some (.int .i64 iY)∧u.cell? ⟨cb,off+k*12+1,none⟩=some (.int .i64 aZ)∧u.cell? ⟨cb,off+k*12+2,none⟩=some (.int .i64 uV)∧u.cell? ⟨cb,off+k*12+3,none⟩=some (.int .i64 am)∧u.cell? ⟨cb,off+k*12+4,none⟩=some (.int .i64 st)∧u.cell? ⟨cb,off+k*12+5,none⟩=some (.int .i64 rJ)∧u.cell? ⟨cb,off+k*12+6,none⟩=some (.int .i64 cl)∧u.cell? ⟨cb,off+k*12+7,none⟩=some (.int .i64 bk)∧u.cell? ⟨cb,off+k*12+8,none⟩=some (.int .i64 fW)∧u.cell? ⟨cb,off+k*12+9,none⟩=some (.bool cW)∧u.cell? ⟨cb,off+k*12+10,none⟩=some (.int .i64 sS)∧u.cell? ⟨cb,off+k*12+11,none⟩=some (.int .i64 dX)) (first | with_reducible exact HSS.o _ hb2 | with_reducible exact HSS.o _ k0 | with_reducible exact HSS.o _ k0.drew | with_reducible exact HSS.o _ (k0.alloc nL _) | with_reducible exact HSS.o _ ((k0.alloc nL _).drew) | with_reducible exact HSS.o _ (hb2.alloc hb2.size _) | exact HSS.o _ (Cp D hb2 nL)) ((first
   | (go_at_call 184;(with_reducible refine Calls.mono (HDO.o u0.drew HP1.o) ?_);rintro e u2 ⟨ea,ek,rfl,he,bb⟩;have hb2:BW u0 u2:=Below.trans ((Below.refl u0.heap.size u0).drew) bb)
   | (go_at_call 184;(with_reducible refine Calls.mono (HDO.o (u0.alloc (.cells #[.int .i64 0,.int .i64 0,.int .i64 0,.int .i64 0,.int .i64 0,.int .i64 0,.int .i64 0,.int .i64 0,.int .i64 0,.bool false,.int .i64 0,.int .i64 0] 61)).drew HP2.o) ?_);rintro e u2 ⟨ea,ek,rfl,he,bb⟩;obtain ⟨hcz,hfz,hbz⟩:=Qf bb;have HCZ:Hid _:=hcz;obtain ⟨g0,g1,g2,g3,g4,g5,g6,g7,g8,g9,g10,g11⟩:=hcz;obtain ⟨m0,m1,m2,m3,m4,m5,m6,m7,m8,m9,m10,m11⟩:=hfz;simp only [Nat.zero_add] at g0 g1 g2 g3 g4 g5 g6 g7 g8 g9 g10 g11 m0 m1 m2 m3 m4 m5 m6 m7 m8 m9 m10 m11;have hb2:BW u0 u2:=Below.trans ((Below.refl u0.heap.size u0).alloc nL (.cells #[.int .i64 0,.int .i64 0,.int .i64 0,.int .i64 0,.int .i64 0,.int .i64 0,.int .i64 0,.int .i64 0,.int .i64 0,.bool false,.int .i64 0,.int .i64 0] 61)) (hbz.mono (Nat.le_succ _)))))
  ·go_wp2_with fail
   go_meet;have h1:=hb2.alloc hb2.size (.cells #[.int .i64 D.iss,.int .i64 D.acq,.int .i64 D.cur,.int .i64 D.am,.int .i64 D.st,.int .i64 D.rsn,.int .i64 D.cl,.int .i64 D.bk,.int .i64 D.fee,.bool D.cop,.int .i64 D.sta,.int .i64 D.due] 61)
   exact ⟨u2.heap.size,ea,ek,rfl,rfl,rfl,CB.new u2 D _,Hk (he.alloc _),hb2.size,by simp,h1⟩
  ·go_wp2_with fail
   go_meet
   have hlt:u0.heap.size<(u0.alloc (.cells #[.int .i64 0,.int .i64 0,.int .i64 0,.int .i64 0,.int .i64 0,.int .i64 0,.int .i64 0,.int .i64 0,.int .i64 0,.bool false,.int .i64 0,.int .i64 0] 61)).drew.heap.size:=by simp
   exact ⟨u0.heap.size,ea,ek,rfl,rfl,rfl,Mb HCZ.o,Hk (N6 D he hlt),nL,by have h:=HCZ.o.lt;simpa using h,Cp D hb2 nL⟩
 case rest =>
  obtain ⟨X,ea,ek,rfl,rfl,rfl,hcx,hen,hx0,hx1,bc⟩:=hcut;have HZ1:Hid (Z6 w.heap.size (.int .i64 td) (.slice o fo.length oc) (.slice a az.length ac) (.slice (some ⟨cb,off,none⟩) cs.length cc) (.slice l ls.length lc) (.slice g lg.length gc) wc):=HZ0.o.below bc;have HR1:Hid (Z6 (w.heap.size+1+1) (.int .i64 0) (.slice none 0 0) (.slice none 0 0) (.slice none 0 0) (.slice none 0 0) (.slice none 0 0) wc):=HR0.o.below bc;have HB1:Hid (BW w wc):=next HB0.o bc;have HC1:Hid (CB X 0 D wc):=hcx;have HE1:Hid (C8 wc ea E):=hen
  have HS1:Hid (w.heap.size+1+1<X∧X<wc.heap.size):=⟨by have:=HS0.o;omega,hx1⟩
  clear t0 t1 t2 t3 t4 t5 s0 s1 s2 s3 s4 s5 q0 q1 q2 q3 q4 q5 p0 p1 p2 p3 p4 p5 y0 y1 y2 z0 z1 z2 z3 z4 z5 z6 z7 z8 z9 z10 z11 bc hcx hen hx0 hx1 HZ0 HR0 HA0 HDO HCS;obtain ⟨t0,t1,t2,t3,t4,t5,s0,s1,s2,s3,s4,s5⟩:=HZ1.o;obtain ⟨q0,q1,q2,q3,q4,q5,p0,p1,p2,p3,p4,p5⟩:=HR1.o
  by_cases hv:V=0
  case neg =>
   have hne:(V != 0)=true:=by simpa using hv
   have hwr:IntKind.i64.wrap (10+V)=10+V:=by rw [IntKind.wrap_i64];omega
   have HE:Hid _:=HN2.o hv;go_wp2
   refine bodyPost_ret (by simp [results,results146,go_sem,q0,q1,q2,q3,q4,q5];try rfl) rfl ?_
   rw [HE.o]
   have bel:=Ax (R:=(w.heap.size+1+1)) (by omega) HB1.o
   exact ⟨⟨o,oc,a,ac,some ⟨cb,off,none⟩,cc,l,lc,g,gc⟩,rfl,HX.o _ (bel _ _ _ _ _ _),rfl,rfl,⟨rfl,.inl rfl,.inl rfl,.inl rfl⟩,bel _ _ _ _ _ _⟩
  have HN3b:Hid _:=HN3.o hv;have HYb:Hid _:=HY.o hv
  have hv0:(V != 0)=false:=by simpa using hv
  clear HN2 HN3 HY;go_wp2_with fail
  refine Calls.mono (HPO.o wc ea ek HB1.o HE1.o) ?_;rintro e u2 ⟨la,lk,rfl,lo,b2⟩;obtain ⟨u3,hu3⟩:∃ u,u=u2.alloc (.cells #[.slice la A.length lk] 29):=⟨_,rfl⟩
  have b3:BW u2 u3:=by rw [hu3];exact bR.alloc nL _
  have b23:=next b2 b3;have HZ3:Hid _:=HZ1.o.below b23;have HR3:Hid _:=HR1.o.below b23;have HB3:Hid (BW w u3):=next HB1.o b23;have HC3:Hid (CB X 0 D u3):=HC1.o.below b23
  have HL3:Hid (u3.cell? ⟨u2.heap.size,0,none⟩=some (.slice la A.length lk)):=by rw [Hid,hu3];simp
  have HLO:Hid (Ai u3 la A):=Df (Av lo b3)
  have HLA:Hid (Dt la u3.heap.size∧Cm la (w.heap.size+1+1+1)):=⟨G8 (Av lo b3) nL,fun x hx=>by have:=Cw lo x hx;have:=HS1.o;omega⟩
  have HS3:Hid (w.heap.size+1+1<X∧X<u2.heap.size∧u2.heap.size<u3.heap.size):=⟨HS1.o.1,by have:=HS1.o.2;have:=b2.size;omega,by rw [hu3];simp⟩
  have HU3:Hid _:=hu3;obtain ⟨Y,hY⟩:∃ Y,u2.heap.size=Y:=⟨_,rfl⟩;rw [hY] at HL3 HS3;have HYE:Hid _:=hY;clear t0 t1 t2 t3 t4 t5 s0 s1 s2 s3 s4 s5 q0 q1 q2 q3 q4 q5 p0 p1 p2 p3 p4 p5 b2 b3 b23 lo hu3 hY HZ1 HR1 HB1 HC1 HE1 HS1 HPO;go_upto_region 7 with fail
  rw [← HU3.o,HYE.o];clear HU3 HYE;obtain ⟨t0,t1,t2,t3,t4,t5,s0,s1,s2,s3,s4,s5⟩:=HZ3.o;obtain ⟨q0,q1,q2,q3,q4,q5,p0,p1,p2,p3,p4,p5⟩:=HR3.o
  cases O
  ·have HE:Hid _:=HN3b.o rfl
   go_wp2
   refine bodyPost_ret (by simp [results,results146,go_sem,q0,q1,q2,q3,q4,q5];try rfl) rfl ?_
   rw [HE.o]
   have bel:=Ax (R:=(w.heap.size+1+1)) (by omega) HB3.o
   exact ⟨⟨o,oc,a,ac,some ⟨cb,off,none⟩,cc,l,lc,g,gc⟩,rfl,HX.o _ (bel _ _ _ _ _ _),rfl,rfl,⟨rfl,.inl rfl,.inl rfl,.inl rfl⟩,bel _ _ _ _ _ _⟩
  ·have HE:Hid _:=HYb.o rfl
   clear HN3b HYb;obtain ⟨B,hBB⟩:∃ B,u3.heap.size=B:=⟨_,rfl⟩
   have HEM:Hid ((u3.alloc (.cells #[] 61)).ownsRow B 61 12 (.slice (some ⟨u3.heap.size,0,none⟩) 0 0) 0 []):=by rw [Hid,← hBB];exact mM u3
   have HI3:Hid (A0 (u3.alloc (.cells #[] 61)) (some ⟨cb,off,none⟩) cs):=(HX.o _ (HB3.o.alloc HB3.o.size (.cells #[] 61))).cs
   have HP3:Hid (∀ v2 w2,w2.ownsRow B 61 12 v2 (0+cs.length) ([]++(Aj cs))→(u3.alloc (.cells #[] 61)).grownBy w2 (some u3.heap.size)→∃ g9 k9,v2=.slice (some ⟨g9,0,none⟩) cs.length k9∧w2.ownsRow B 61 12 (.slice (some ⟨g9,0,none⟩) cs.length k9) cs.length (Aj cs)∧B≤g9∧BW u3 w2):=by
    intro v2 w2 o2 g2;rw [Nat.zero_add,List.nil_append] at o2;obtain ⟨a9,k9,hv⟩:=Hb o2;subst hv
    obtain ⟨g9,rfl,h9,_⟩:=Hf o2 (by omega)
    exact ⟨g9,k9,rfl,o2,h9,Jz rfl g2⟩
   have hBs:B≤u3.heap.size+1:=by omega
   have xa3:=(HZ3.o.below (bR.alloc nL (.cells #[] 61))).c3;have HBE:Hid _:=hBB;clear hBB
   go_upto_region 10 with (at_builtin;refine Eh _ rfl (.tmp 51) (.tmp 53) rfl B _ 0 [] rfl HEM.o (some ⟨cb,off,none⟩) cc cs rfl HI3.o (by omega) (by simp;omega) ?_;intro v2 w2 o2 g2 _;obtain ⟨g9,k9,hv2,r3,h9,bb⟩:=HP3.o v2 w2 o2 g2;subst hv2;have zz:=HZ3.o.below bb;have y3:=zz.c3;have f3:=zz.z3;have HRW:Hid (w2.ownsRow B 61 12 (.slice (some ⟨g9,0,none⟩) cs.length k9) cs.length (Aj cs)):=r3;have HBB:Hid (BW u3 w2):=bb;have H9:Hid (B≤g9):=h9;clear o2 g2 r3 bb h9 zz t0 t1 t2 t3 t4 t5 s0 s1 s2 s3 s4 s5 q0 q1 q2 q3 q4 q5 p0 p1 p2 p3 p4 p5)
   clear HEM HI3 HP3 xa3;obtain ⟨u5,hu5⟩:∃ u,u=w2.setCell ⟨w.heap.size,3,none⟩ (.slice (some ⟨g9,0,none⟩) cs.length k9):=⟨_,rfl⟩
   have HZ5:Hid (Z6 w.heap.size (.int .i64 td) (.slice o fo.length oc) (.slice a az.length ac) (.slice (some ⟨g9,0,none⟩) cs.length k9) (.slice l ls.length lc) (.slice g lg.length gc) u5):=by rw [Hid,hu5];exact (HZ3.o.below HBB.o).set3 _
   have HR5:Hid (Z6 (w.heap.size+1+1) (.int .i64 0) (.slice none 0 0) (.slice none 0 0) (.slice none 0 0) (.slice none 0 0) (.slice none 0 0) u5):=by rw [Hid,hu5];exact (HR3.o.below HBB.o).far (by omega)
   have HB5:Hid (BW w u5):=by rw [Hid,hu5];exact (next HB3.o HBB.o).setCell nL _
   have HC5:Hid (CB X 0 D u5):=by rw [Hid,hu5];exact (HC3.o.below HBB.o).grown (An _ _ _ _) (by have:=HS3.o;simp;omega)
   have HL5:Hid (u5.cell? ⟨Y,0,none⟩=some (.slice la A.length lk)):=by
    rw [Hid,hu5]
    have h1:=(HBB.o.cell (p:=⟨Y,0,none⟩) (by have:=HS3.o;show Y<_;omega)).trans HL3.o
    exact ((An w2 w.heap.size 3 _).cell_far ⟨Y,0,none⟩ (World.block_lt_of_cell? w2 _ h1) (by have:=HS3.o;simp;omega)).trans h1
   have HW5:Hid (u5.ownsRow B 61 12 (.slice (some ⟨g9,0,none⟩) cs.length k9) cs.length (Aj cs)):=by rw [Hid,hu5];exact Ad HRW.o (by have:=HS3.o;have:=HBE.o;omega)
   have HLL:Hid (Ai u5 la A):=by
    rw [Hid,hu5]
    exact (HLO.o.below HBB.o).far (An _ _ _ _) (fun Q hQ=>by cases hQ;exact Bb HLA.o.2 (by omega))
   have H95:Hid (B≤g9∧g9<u5.heap.size):=⟨H9.o,by rw [hu5];have:=(HRW.o.lt g9 rfl).2;simpa using this⟩
   rw [← hu5];clear hu5 y3 f3 HZ3 HR3 HB3 HC3 HL3 HLO HRW HBB H9;obtain ⟨t0,t1,t2,t3,t4,t5,s0,s1,s2,s3,s4,s5⟩:=HZ5.o;obtain ⟨q0,q1,q2,q3,q4,q5,p0,p1,p2,p3,p4,p5⟩:=HR5.o;obtain ⟨d0,d1,d2,d3,d4,d5,d6,d7,d8,d9,d10,d11⟩:=HC5.o
   simp only [Nat.zero_add] at d0 d1 d2 d3 d4 d5 d6 d7 d8 d9 d10 d11
   have hat:∀ j,j<12→(Aj cs)[k*12+j]?=(Xt (A8 cs k)).toList[j]?:=fun j hj=>E6 cs k j hk hj
   have n0:u5.cell? ⟨g9,k*12,none⟩=some (.int .i64 (A8 cs k).iss):=by rw [HW5.o.cellAt (k*12) (by omega)];exact hat 0 (by omega)
   have o0:u5.frozen? ⟨g9,k*12,none⟩=false:=HW5.o.frozenAt _
   have n1:u5.cell? ⟨g9,k*12+1,none⟩=some (.int .i64 (A8 cs k).acq):=by rw [HW5.o.cellAt (k*12+1) (by omega)];exact hat 1 (by omega)
   have o1:u5.frozen? ⟨g9,k*12+1,none⟩=false:=HW5.o.frozenAt _
   have n2:u5.cell? ⟨g9,k*12+2,none⟩=some (.int .i64 (A8 cs k).cur):=by rw [HW5.o.cellAt (k*12+2) (by omega)];exact hat 2 (by omega)
   have o2:u5.frozen? ⟨g9,k*12+2,none⟩=false:=HW5.o.frozenAt _
   have n3:u5.cell? ⟨g9,k*12+3,none⟩=some (.int .i64 (A8 cs k).am):=by rw [HW5.o.cellAt (k*12+3) (by omega)];exact hat 3 (by omega)
   have o3:u5.frozen? ⟨g9,k*12+3,none⟩=false:=HW5.o.frozenAt _
   have n4:u5.cell? ⟨g9,k*12+4,none⟩=some (.int .i64 (A8 cs k).st):=by rw [HW5.o.cellAt (k*12+4) (by omega)];exact hat 4 (by omega)
   have o4:u5.frozen? ⟨g9,k*12+4,none⟩=false:=HW5.o.frozenAt _
   have n5:u5.cell? ⟨g9,k*12+5,none⟩=some (.int .i64 (A8 cs k).rsn):=by rw [HW5.o.cellAt (k*12+5) (by omega)];exact hat 5 (by omega)
   have o5:u5.frozen? ⟨g9,k*12+5,none⟩=false:=HW5.o.frozenAt _
   have n6:u5.cell? ⟨g9,k*12+6,none⟩=some (.int .i64 (A8 cs k).cl):=by rw [HW5.o.cellAt (k*12+6) (by omega)];exact hat 6 (by omega)
   have o6:u5.frozen? ⟨g9,k*12+6,none⟩=false:=HW5.o.frozenAt _
   have n7:u5.cell? ⟨g9,k*12+7,none⟩=some (.int .i64 (A8 cs k).bk):=by rw [HW5.o.cellAt (k*12+7) (by omega)];exact hat 7 (by omega)
   have o7:u5.frozen? ⟨g9,k*12+7,none⟩=false:=HW5.o.frozenAt _
   have n8:u5.cell? ⟨g9,k*12+8,none⟩=some (.int .i64 (A8 cs k).fee):=by rw [HW5.o.cellAt (k*12+8) (by omega)];exact hat 8 (by omega)
   have o8:u5.frozen? ⟨g9,k*12+8,none⟩=false:=HW5.o.frozenAt _
   have n9:u5.cell? ⟨g9,k*12+9,none⟩=some (.bool (A8 cs k).cop):=by rw [HW5.o.cellAt (k*12+9) (by omega)];exact hat 9 (by omega)
   have o9:u5.frozen? ⟨g9,k*12+9,none⟩=false:=HW5.o.frozenAt _
   have n10:u5.cell? ⟨g9,k*12+10,none⟩=some (.int .i64 (A8 cs k).sta):=by rw [HW5.o.cellAt (k*12+10) (by omega)];exact hat 10 (by omega)
   have o10:u5.frozen? ⟨g9,k*12+10,none⟩=false:=HW5.o.frozenAt _
   have n11:u5.cell? ⟨g9,k*12+11,none⟩=some (.int .i64 (A8 cs k).due):=by rw [HW5.o.cellAt (k*12+11) (by omega)];exact hat 11 (by omega)
   have o11:u5.frozen? ⟨g9,k*12+11,none⟩=false:=HW5.o.frozenAt _;obtain ⟨u6,hu6⟩:∃ u,u=Gs u5 g9 k D:=⟨_,rfl⟩
   have b6:Below g9 u5 u6:=by rw [hu6];exact Pa k D bR nL
   have HZ6:Hid _:=HZ5.o.under b6 (by have:=HS3.o;have:=HBE.o;have:=H95.o;omega)
   have HR6:Hid _:=HR5.o.under b6 (by have:=HS3.o;have:=HBE.o;have:=H95.o;omega)
   have HB6:Hid (BW w u6):=by rw [Hid,hu6];exact Pa k D HB5.o (by have:=HS3.o;have:=HBE.o;have:=H95.o;omega)
   have hl6:u6.cell? ⟨Y,0,none⟩=some (.slice la A.length lk):=(b6.cell (p:=⟨Y,0,none⟩) (by have:=HS3.o;have:=HBE.o;have:=H95.o;show Y<g9;omega)).trans HL5.o
   have HLL6:Hid (Ai u6 la A):=Vg HLL.o (by have h:=HLA.o.1;rw [HBE.o] at h;exact h.mono H95.o.1) b6
   have HW6:Hid (u6.ownsRow B 61 12 (.slice (some ⟨g9,0,none⟩) cs.length k9) cs.length (Aj (cs.set k D))):=by rw [Hid,hu6];exact Od D hk HW5.o
   unfold Gs at hu6;have HU6:Hid _:=hu6;clear hu6 b6 hat;go_upto_region 11 with fail
   rw [← HU6.o];clear HU6 n0 n1 n2 n3 n4 n5 n6 n7 n8 n9 n10 n11 o0 o1 o2 o3 o4 o5 o6 o7 o8 o9 o10 o11 d0 d1 d2 d3 d4 d5 d6 d7 d8 d9 d10 d11 t0 t1 t2 t3 t4 t5 s0 s1 s2 s3 s4 s5 q0 q1 q2 q3 q4 q5 p0 p1 p2 p3 p4 p5;obtain ⟨t0,t1,t2,t3,t4,t5,s0,s1,s2,s3,s4,s5⟩:=HZ6.o;obtain ⟨q0,q1,q2,q3,q4,q5,p0,p1,p2,p3,p4,p5⟩:=HR6.o;obtain ⟨u7,hu7⟩:∃ u,u=u6.setCell ⟨w.heap.size,4,none⟩ (.slice la A.length lk):=⟨_,rfl⟩;have HZ7:Hid _:=HZ6.o.set4 (.slice la A.length lk)
   have HR7:Hid (Z6 (w.heap.size+1+1) (.int .i64 0) (.slice none 0 0) (.slice none 0 0) (.slice none 0 0) (.slice none 0 0) (.slice none 0 0) u7):=by rw [Hid,hu7];exact HR6.o.far (by omega)
   have HB7:Hid (BW w u7):=by rw [Hid,hu7];exact HB6.o.setCell nL _
   have HW7:Hid (u7.ownsRow B 61 12 (.slice (some ⟨g9,0,none⟩) cs.length k9) cs.length (Aj (cs.set k D))):=by rw [Hid,hu7];exact Ad HW6.o (by have:=HS3.o;have:=HBE.o;omega)
   have HL7:Hid (Ai u7 la A):=by rw [Hid,hu7];exact HLL6.o.far (An _ _ _ _) (fun Q hQ=>by cases hQ;exact Bb HLA.o.2 (by omega))
   rw [← hu7] at HZ7;have HU7:Hid _:=hu7;clear hu7;go_upto_region 12 with fail
   rw [← HU7.o];clear HU7 t0 t1 t2 t3 t4 t5 s0 s1 s2 s3 s4 s5 q0 q1 q2 q3 q4 q5 p0 p1 p2 p3 p4 p5 hl6;obtain ⟨t0,t1,t2,t3,t4,t5,s0,s1,s2,s3,s4,s5⟩:=HZ7.o;obtain ⟨q0,q1,q2,q3,q4,q5,p0,p1,p2,p3,p4,p5⟩:=HR7.o;go_wp2
   refine bodyPost_ret (by simp [results,results146,go_sem,q0,q1,q2,q3,q4,q5];try rfl) rfl ?_
   rw [HE.o]
   have bel:=Ax (R:=(w.heap.size+1+1)) (by omega) HB7.o
   have hX:=HX.o _ (bel (.int .i64 td) (.slice o fo.length oc) (.slice a az.length ac) (.slice (some ⟨g9,0,none⟩) cs.length k9) (.slice la A.length lk) (.slice g lg.length gc));have hlen:(cs.set k D).length=cs.length:=List.length_set ..
   refine ⟨⟨o,oc,a,ac,some ⟨g9,0,none⟩,k9,la,lk,g,gc⟩,by simp [C5,hlen],⟨hX.off,hX.az,F2 (Ea HW7.o (by have:=HS3.o;have:=HBE.o;omega) _ _ _ _ _ _),?_,hX.log⟩,rfl,rfl,⟨rfl,.inl rfl,.inr (fun x hx=>by cases hx;have:=H95.o;have:=HS3.o;have:=HBE.o;show w.heap.size≤g9;omega),.inr (fun x hx=>by have:=HLA.o.2 x hx;omega)⟩,bel _ _ _ _ _ _⟩
   exact Rc HL7.o (Bb HLA.o.2 (by omega)) _ _ _ _ _ _
end Go.Proofs.YtomiclakhjncbaaGreatDoor
