import Derived.Test.YtfpafnefpmmofaaGreatDoorJW3a
namespace Go.Proofs.YtfpafnefpmmofaaGreatDoor
open Go.RowKit Go.Proofs.Tryz
set_option maxRecDepth 100000
set_option maxHeartbeats 12800000
theorem Aac (F:Ii) (K:Vw F) (b:Bk) (p:Bp) (i:Int) (x:Ac) (w:ql) (hx:Az w b p) (hn:Ld b) :
  qi 100 #[Fx b p,qzI i,av x] w (BdR w p (Mc F b i x).1 (Mc F b i x).2):=by
 unfold av
 have HX:qj (∀ u,BW w u->Az u b p):=λu h=>hx.below h
 have HN:=Aa hn;clear hx hn;obtain ⟨td,q,az,cs,ls,lg⟩:=b;obtain ⟨o,oc,a,ac,c,cc,l,lc,g,gc⟩:=p;unfold Fx
 simp only
 obtain ⟨r,S⟩:=A0 (((w.alloc (.cells #[qzI td,qf o q.length oc,qf a az.length ac,qf c cs.length cc,qf l ls.length lc,qf g lg.length gc] 40)).alloc (.cells #[qzI x.kind,qzI x.am,qzI x.rsn] 149)).alloc (.cells qzB 40))
 have J:qj (BW w r):=by rw [qj,S];go_grown
 have q6:qj ((w.heap.size+1+1)<r.heap.size):=by rw [qj,S];simp
 have h6:qj (Z6 w.heap.size (qzI td) (qf o q.length oc) (qf a az.length ac) (qf c cs.length cc) (qf l ls.length lc) (qf g lg.length gc) r):=by
  rw [qj,S];exact ((Z6.new w (qzI td) (qf o q.length oc) (qf a az.length ac) (qf c cs.length cc) (qf l ls.length lc) (qf g lg.length gc) 40).below (bR.alloc nL _)).below (bR.alloc nL _)
 have h0:qj (Z6 (w.heap.size+1+1) (qzI 0) qe qe qe qe qe r):=by
  have h:=Z6.new ((w.alloc (.cells #[qzI td,qf o q.length oc,qf a az.length ac,qf c cs.length cc,qf l ls.length lc,qf g lg.length gc] 40)).alloc (.cells #[qzI x.kind,qzI x.am,qzI x.rsn] 149)) (qzI 0) qe qe qe qe qe 40
  rw [qj,S];simpa using h
 have j3:qj _:=S
 have i1:qj (r.cell? ⟨w.heap.size+1,0,none⟩=some (qzI x.kind)/\r.cell? ⟨w.heap.size+1,1,none⟩=some (qzI x.am)/\r.cell? ⟨w.heap.size+1,2,none⟩=some (qzI x.rsn)):=by
  rw [qj,S];simp [go_sem]
 clear S
 have v3:cs.length<=1048576:=by have:=HN.o.2.2.1;simpa using this
 go_enter func100,ntmps100
 go_upto_region 1 with fail
 rw [<- j3.o];clear j3;obtain ⟨t0,t1,t2,t3,t4,t5,s0,s1,s2,s3,s4,s5⟩:=h6.o;obtain ⟨W,Z,q2,q3,q4,q5,p0,p1,p2,p3,p4,p5⟩:=h0.o;obtain ⟨y0,y1,y2⟩:=i1.o
 by_cases hi:0<=i/\i<=(cs.length:Int) - 1
 case neg =>
  have HE:qj _:=@rC F ⟨td,q,az,cs,ls,lg⟩ i x hi
  have i0:Gb i 0 ((cs.length:Int) - 1)=false:=by simp [Gb];omega
  go_wp2_with (go_at_call 89;refine (Cg _ _ _ _).m ?_;rintro e w' ⟨rfl,U⟩;replace U:=U.s;subst U;rw [i0])
  refine bodyPost_ret (by simp [results,results100,go_sem,W,Z,q2,q3,q4,q5];try rfl) rfl ?_
  rw [HE.o]
  have bel:=Bj (R:=(w.heap.size+1+1)) (by omega) J.o
  exact ⟨⟨o,oc,a,ac,c,cc,l,lc,g,gc⟩,rfl,HX.o _ (bel _ _ _ _ _ _),rfl,rfl,⟨rfl,.inl rfl,.inl rfl,.inl rfl⟩,bel _ _ _ _ _ _⟩
 have i0:Gb i 0 ((cs.length:Int) - 1)=true:=by simp [Gb];omega
 obtain ⟨k,rfl⟩:=jj hi.1
 have hk:k<cs.length:=by omega
 have a8:qj _:=@rM F ⟨td,q,az,cs,ls,lg⟩ (k:Int) x hi;have M:qj _:=@rU F ⟨td,q,az,cs,ls,lg⟩ (k:Int) x hi;have HY:qj _:=@qK F ⟨td,q,az,cs,ls,lg⟩ (k:Int) x hi
 simp only [Int.toNat_natCast] at a8 M HY
 have b9:qj (∀ u,BW w u->∃ cb off,c=some (qzA cb off)/\cb<w.heap.size/\CB cb (off+k*12) (Bm cs k) u):=λu h=>by
  obtain ⟨cb,off,e1,e2,e3⟩:=(HX.o w bR).cs.at hk
  exact ⟨cb,off,e1,e2,by
   have l:=e2;obtain ⟨t0,t1,t2,t3,t4,t5,t6,t7,t8,t9,u1,u4⟩:=e3;exact ⟨(h.c cb (off+k*12) l).t t0,(h.c cb (off+k*12+1) l).t t1,(h.c cb (off+k*12+2) l).t t2,(h.c cb (off+k*12+3) l).t t3,(h.c cb (off+k*12+4) l).t t4,(h.c cb (off+k*12+5) l).t t5,(h.c cb (off+k*12+6) l).t t6,(h.c cb (off+k*12+7) l).t t7,(h.c cb (off+k*12+8) l).t t8,(h.c cb (off+k*12+9) l).t t9,(h.c cb (off+k*12+10) l).t u1,(h.c cb (off+k*12+11) l).t u4⟩⟩
 have H:qj (∀ u,BW w u->qi 125 #[cv (Bm cs k),av x,qzI td,qf o q.length oc] u λe w'=>∃ ao cap,e=.returned (.tuple #[cv (F.doC (Bm cs k) x td q),qf ao (F.doE (Bm cs k) x td q).length cap,qzI (F.doV (Bm cs k) x td q)])/\w'.ownsRow u.heap.size 217 4 (qf ao (F.doE (Bm cs k) x td q).length cap) (F.doE (Bm cs k) x td q).length (B9 (F.doE (Bm cs k) x td q))/\BW u w'):=λu h=>K.act _ x td o oc q u (HX.o u h).off (by have:=HN.o.1;simpa using this)
 have c8:qj _:=K.few (Bm cs k) x td q;have h5:qj _:=K.code (Bm cs k) x td q
 have a4:qj (∀ (u:ql) (eo:qm) (ec:Nat),BW w u->Fg u eo (F.doE (Bm cs k) x td q)->qi 122 #[.agg #[qf l ls.length lc],qf eo (F.doE (Bm cs k) x td q).length ec] u λe w'=>∃ ao cap,e=.returned (.tuple #[.agg #[qf ao (F.all ls (F.doE (Bm cs k) x td q)).length cap],.bool (F.allOk ls (F.doE (Bm cs k) x td q))])/\w'.ownsRow u.heap.size 151 3 (qf ao (F.all ls (F.doE (Bm cs k) x td q)).length cap) (F.all ls (F.doE (Bm cs k) x td q)).length (Ak (F.all ls (F.doE (Bm cs k) x td q)))/\BW u w'):=λu eo ec h he=>K.post l lc ls eo ec _ u (HX.o u h).ls (by have:=HN.o.2.2.2.1;simpa using this) he c8.o
 obtain ⟨C,hC⟩:=Ae (Bm cs k);rw [hC] at H a4 a8 M HY c8 h5 b9;obtain ⟨D,hD⟩:=Ae (F.doC C x td q);obtain ⟨E,hE⟩:=Ae (F.doE C x td q);obtain ⟨V,hV⟩:=Ae (F.doV C x td q);rw [hD] at H HY;rw [hE] at H a4 M HY c8;rw [hV] at H a8 M HY h5;obtain ⟨A,hA⟩:=Ae (F.all ls E);obtain ⟨O,hO⟩:=Ae (F.allOk ls E);rw [hA] at a4 HY;rw [hO] at a4 M HY;have v7:=h5.o;clear hC hD hE hV hA hO;obtain ⟨cb,off,rfl,v1,r4⟩:=b9.o r J.o;obtain ⟨iz,ay,cw,am,st,ry,cl,bk,fy,cz,sy,dz⟩:=C;obtain ⟨z0,z1,z2,z3,z4,z5,z6,z7,z8,z9,z10,z11⟩:=r4
 simp only at z0 z1 z2 z3 z4 z5 z6 z7 z8 z9 z10 z11
 obtain ⟨xk,xa,xr⟩:=x
 simp only at y0 y1 y2
 unfold cv av at H
 simp only at H
 have v4:(k:Int)<(cs.length:Int):=by omega
 go_upto_region 3 with (go_at_call 89;refine (Cg _ _ _ _).m ?_;rintro e w' ⟨rfl,U⟩;replace U:=U.s;subst U;rw [i0])
 go_cut [8,9,10] (λv8 v9 v10 wc=>∃ (X:Nat) (ea:qm) (ek:Nat),v8=qh X/\v9=qf ea E.length ek/\v10=qzI V/\CB X 0 D wc/\Fg wc ea E/\r.heap.size<=X/\X<wc.heap.size/\BW r wc)
 case first =>
  have N:qj (∀ u,BW r u->u.cell? ⟨w.heap.size,0,none⟩=some (qzI td)/\u.cell? ⟨w.heap.size,1,none⟩=some (qf o q.length oc)/\u.cell? ⟨w.heap.size,3,none⟩=some (qf (some (qzA cb off)) cs.length cc)/\u.cell? ⟨w.heap.size+1,0,none⟩=some (qzI xk)/\u.cell? ⟨w.heap.size+1,1,none⟩=some (qzI xa)/\u.cell? ⟨w.heap.size+1,2,none⟩=some (qzI xr)/\u.cell? (qzA cb (off+k*12))=some (qzI iz)/\u.cell? (qzA cb (off+k*12+1))=some (qzI ay)/\u.cell? (qzA cb (off+k*12+2))=some (qzI cw)/\u.cell? (qzA cb (off+k*12+3))=some (qzI am)/\u.cell? (qzA cb (off+k*12+4))=some (qzI st)/\u.cell? (qzA cb (off+k*12+5))=some (qzI ry)/\u.cell? (qzA cb (off+k*12+6))=some (qzI cl)/\u.cell? (qzA cb (off+k*12+7))=some (qzI bk)/\u.cell? (qzA cb (off+k*12+8))=some (qzI fy)/\u.cell? (qzA cb (off+k*12+9))=some (.bool cz)/\u.cell? (qzA cb (off+k*12+10))=some (qzI sy)/\u.cell? (qzA cb (off+k*12+11))=some (qzI dz)):=λu h=>by
   have l0:=qs r _ t0;have l1:=qs r _ y0;have l2:=qs r _ z0;exact ⟨(h.cell (p:=⟨w.heap.size,0,none⟩) l0).t t0,(h.cell (p:=⟨w.heap.size,1,none⟩) l0).t t1,(h.cell (p:=⟨w.heap.size,3,none⟩) l0).t t3,(h.cell (p:=⟨w.heap.size+1,0,none⟩) l1).t y0,(h.cell (p:=⟨w.heap.size+1,1,none⟩) l1).t y1,(h.cell (p:=⟨w.heap.size+1,2,none⟩) l1).t y2,(h.c cb (off+k*12) l2).t z0,(h.c cb (off+k*12+1) l2).t z1,(h.c cb (off+k*12+2) l2).t z2,(h.c cb (off+k*12+3) l2).t z3,(h.c cb (off+k*12+4) l2).t z4,(h.c cb (off+k*12+5) l2).t z5,(h.c cb (off+k*12+6) l2).t z6,(h.c cb (off+k*12+7) l2).t z7,(h.c cb (off+k*12+8) l2).t z8,(h.c cb (off+k*12+9) l2).t z9,(h.c cb (off+k*12+10) l2).t z10,(h.c cb (off+k*12+11) l2).t z11⟩
  have k0:BW r r:=bR;have p7:=Aa (J.o.t ((bR.drew).m (J.o.size)));have p8:qj (Below w.heap.size w (r.alloc (.cells #[qzI 0,qzI 0,qzI 0,qzI 0,qzI 0,qzI 0,qzI 0,qzI 0,qzI 0,.bool false,qzI 0,qzI 0] 111)).drew):=J.o.t (((((Below.refl r.heap.size r).alloc nL _).drew)).m (J.o.size));clear W Z q2 q3 q4 q5 p0 p1 p2 p3 p4 p5 s0 s1 s2 s3 s4 s5 t2 t4 t5 z0 z1 z2 z3 z4 z5 z6 z7 z8 z9 z10 z11
  go_region_held3 (λu=>u.cell? ⟨w.heap.size,0,none⟩=some (qzI td)/\u.cell? ⟨w.heap.size,1,none⟩=some (qf o q.length oc)/\u.cell? ⟨w.heap.size,3,none⟩=some (qf (some (qzA cb off)) cs.length cc)/\u.cell? ⟨w.heap.size+1,0,none⟩=some (qzI xk)/\u.cell? ⟨w.heap.size+1,1,none⟩=some (qzI xa)/\u.cell? ⟨w.heap.size+1,2,none⟩=some (qzI xr)/\u.cell? (qzA cb (off+k*12))=some (qzI iz)/\u.cell? (qzA cb (off+k*12+1))=some (qzI ay)/\u.cell? (qzA cb (off+k*12+2))=some (qzI cw)/\u.cell? (qzA cb (off+k*12+3))=some (qzI am)/\u.cell? (qzA cb (off+k*12+4))=some (qzI st)/\u.cell? (qzA cb (off+k*12+5))=some (qzI ry)/\u.cell? (qzA cb (off+k*12+6))=some (qzI cl)/\u.cell? (qzA cb (off+k*12+7))=some (qzI bk)/\u.cell? (qzA cb (off+k*12+8))=some (qzI fy)/\u.cell? (qzA cb (off+k*12+9))=some (.bool cz)/\u.cell? (qzA cb (off+k*12+10))=some (qzI sy)/\u.cell? (qzA cb (off+k*12+11))=some (qzI dz)) (first|with_reducible exact N.o _ I|with_reducible exact N.o _ k0|with_reducible exact N.o _ k0.drew|with_reducible exact N.o _ (k0.alloc nL _)|with_reducible exact N.o _ ((k0.alloc nL _).drew)|with_reducible exact N.o _ (I.alloc I.size _)|exact N.o _ (Dc D I nL)) ((first
   | (go_at_call 125;(with_reducible refine Calls.m (H.o r.drew p7.o) ?_);rintro e u2 ⟨ea,ek,rfl,he,bb⟩;have I:BW r u2:=Below.t ((Below.refl r.heap.size r).drew) bb)
   | (go_at_call 125;(with_reducible refine Calls.m (H.o (r.alloc (.cells #[.int .i64 0,.int .i64 0,.int .i64 0,.int .i64 0,.int .i64 0,.int .i64 0,.int .i64 0,.int .i64 0,.int .i64 0,.bool false,.int .i64 0,.int .i64 0] 111)).drew p8.o) ?_);rintro e u2 ⟨ea,ek,rfl,he,bb⟩;obtain ⟨k6,r5,r2⟩:=V5 bb;have i4:qj _:=k6;obtain ⟨g0,g1,g2,g3,g4,g5,g6,g7,g8,f,q9,r1⟩:=k6;obtain ⟨m0,m1,m2,m3,m4,m5,m6,m7,m8,m9,s6,s7⟩:=r5;simp only [qu] at g0 g1 g2 g3 g4 g5 g6 g7 g8 f q9 r1 m0 m1 m2 m3 m4 m5 m6 m7 m8 m9 s6 s7;have I:BW r u2:=Below.t ((Below.refl r.heap.size r).alloc nL (.cells #[.int .i64 0,.int .i64 0,.int .i64 0,.int .i64 0,.int .i64 0,.int .i64 0,.int .i64 0,.int .i64 0,.int .i64 0,.bool false,.int .i64 0,.int .i64 0] 111)) (r2.m (Nat.le_succ _)))))
  ·go_wp2_with fail
   go_meet;have h1:=I.alloc I.size (.cells #[qzI D.iss,qzI D.acq,qzI D.cur,qzI D.am,qzI D.st,qzI D.rsn,qzI D.cl,qzI D.bk,qzI D.fee,.bool D.cop,qzI D.sta,qzI D.due] 111)
   exact ⟨u2.heap.size,ea,ek,rfl,rfl,rfl,CB.new u2 D _,Js (he.alloc _),I.size,by simp,h1⟩
  ·go_wp2_with fail
   go_meet
   have r7:r.heap.size<(r.alloc (.cells #[qzI 0,qzI 0,qzI 0,qzI 0,qzI 0,qzI 0,qzI 0,qzI 0,qzI 0,.bool false,qzI 0,qzI 0] 111)).drew.heap.size:=by simp
   exact ⟨r.heap.size,ea,ek,rfl,rfl,rfl,Sd i4.o,Js (Tf D he r7),nL,by have h:=i4.o.lt;simpa using h,Dc D I nL⟩
 case rest =>
  obtain ⟨X,ea,ek,rfl,rfl,rfl,k5,k7,r9,l3,bc⟩:=hcut;have h7:=Aa (h6.o.below bc);have h2:=Aa (h0.o.below bc);have b5:=Aa (next J.o bc);have i2:=Aa k5;have i5:=Aa k7
  have b7:qj (w.heap.size+1+1<X/\X<wc.heap.size):=⟨by have:=q6.o;omega,l3⟩
  clear t0 t1 t2 t3 t4 t5 s0 s1 s2 s3 s4 s5 W Z q2 q3 q4 q5 p0 p1 p2 p3 p4 p5 y0 y1 y2 z0 z1 z2 z3 z4 z5 z6 z7 z8 z9 z10 z11 bc k5 k7 r9 l3 h6 h0 i1 H b9;obtain ⟨t0,t1,t2,t3,t4,t5,s0,s1,s2,s3,s4,s5⟩:=h7.o;obtain ⟨W,Z,q2,q3,q4,q5,p0,p1,p2,p3,p4,p5⟩:=h2.o
  by_cases hv:V=0
  case neg =>
   have v5:(V != 0)=true:=by simpa using hv
   have w0:IntKind.i64.wrap (10+V)=10+V:=by rw [IntKind.wrap_i64];omega
   have HE:qj _:=a8.o hv;go_wp2
   refine bodyPost_ret (by simp [results,results100,go_sem,W,Z,q2,q3,q4,q5];try rfl) rfl ?_
   rw [HE.o]
   have bel:=Bj (R:=(w.heap.size+1+1)) (by omega) b5.o
   exact ⟨⟨o,oc,a,ac,some (qzA cb off),cc,l,lc,g,gc⟩,rfl,HX.o _ (bel _ _ _ _ _ _),rfl,rfl,⟨rfl,.inl rfl,.inl rfl,.inl rfl⟩,bel _ _ _ _ _ _⟩
  have b8:qj _:=M.o hv;have j8:qj _:=HY.o hv
  have v6:(V != 0)=false:=by simpa using hv
  clear a8 M HY;go_wp2_with fail
  refine Calls.m (a4.o wc ea ek b5.o i5.o) ?_;rintro e u2 ⟨la,lk,rfl,lo,b2⟩;obtain ⟨u3,b4⟩:=A0 (u2.alloc (.cells #[qf la A.length lk] 38))
  have b3:BW u2 u3:=by rw [b4];exact bR.alloc nL _
  have b1:=next b2 b3;have b0:qj _:=h7.o.below b1;have h3:qj _:=h2.o.below b1;have a6:=Aa (next b5.o b1);have i3:=Aa (i2.o.below b1)
  have c9:qj (u3.cell? ⟨u2.heap.size,0,none⟩=some (qf la A.length lk)):=by rw [qj,b4];simp
  have i9:=Aa (Eb (A5 lo b3))
  have a7:qj (Fw la u3.heap.size/\Df la (w.heap.size+1+1+1)):=⟨Jh (A5 lo b3) nL,λx hx=>by have:=D9 lo x hx;have:=b7.o;omega⟩
  have y:qj (w.heap.size+1+1<X/\X<u2.heap.size/\u2.heap.size<u3.heap.size):=⟨b7.o.1,by have:=b7.o.2;have:=b2.size;omega,by rw [b4];simp⟩
  have j4:qj _:=b4;obtain ⟨Y,hY⟩:=Ae u2.heap.size;rw [hY] at c9 y;have j7:qj _:=hY;clear t0 t1 t2 t3 t4 t5 s0 s1 s2 s3 s4 s5 W Z q2 q3 q4 q5 p0 p1 p2 p3 p4 p5 b2 b3 b1 lo b4 hY h7 h2 b5 i2 i5 b7 a4;go_upto_region 7 with fail
  rw [<- j4.o,j7.o];clear j4 j7;obtain ⟨t0,t1,t2,t3,t4,t5,s0,s1,s2,s3,s4,s5⟩:=b0.o;obtain ⟨W,Z,q2,q3,q4,q5,p0,p1,p2,p3,p4,p5⟩:=h3.o
  cases O
  ·have HE:qj _:=b8.o rfl
   go_wp2
   refine bodyPost_ret (by simp [results,results100,go_sem,W,Z,q2,q3,q4,q5];try rfl) rfl ?_
   rw [HE.o]
   have bel:=Bj (R:=(w.heap.size+1+1)) (by omega) a6.o
   exact ⟨⟨o,oc,a,ac,some (qzA cb off),cc,l,lc,g,gc⟩,rfl,HX.o _ (bel _ _ _ _ _ _),rfl,rfl,⟨rfl,.inl rfl,.inl rfl,.inl rfl⟩,bel _ _ _ _ _ _⟩
  ·have HE:qj _:=j8.o rfl
   clear b8 j8;obtain ⟨B,h8⟩:=Ae u3.heap.size
   have i6:qj ((u3.alloc (.cells #[] 111)).ownsRow B 111 12 (qf (some ⟨u3.heap.size,0,none⟩) 0 0) 0 []):=by rw [qj,<- h8];exact yH u3
   have i7:=Aa ((HX.o _ (a6.o.alloc a6.o.size (.cells #[] 111))).cs)
   have j0:qj (∀ v2 w2,w2.ownsRow B 111 12 v2 (0+cs.length) ([]++(Am cs))->(u3.alloc (.cells #[] 111)).grownBy w2 (some u3.heap.size)->∃ f k9,v2=qf (some (qzA f 0)) cs.length k9/\w2.ownsRow B 111 12 (qf (some (qzA f 0)) cs.length k9) cs.length (Am cs)/\B<=f/\BW u3 w2):=by
    intro v2 w2 o2 g2;rw [qu,List.nil_append] at o2;obtain ⟨a9,k9,hv⟩:=Jd o2;subst hv
    obtain ⟨f,rfl,h9,_⟩:=Lg o2 (by omega)
    exact ⟨f,k9,rfl,o2,h9,N1 rfl g2⟩
   have v0:B<=u3.heap.size+1:=by omega
   have u9:=(b0.o.below (bR.alloc nL (.cells #[] 111))).c3;have G:qj _:=h8;clear h8
   go_upto_region 10 with (at_builtin;refine F5 _ rfl (.tmp 51) (.tmp 53) rfl B _ 0 [] rfl i6.o (some (qzA cb off)) cc cs rfl i7.o (by omega) (by simp;omega) ?_;intro v2 w2 o2 g2 _;obtain ⟨f,k9,r8,r3,h9,bb⟩:=j0.o v2 w2 o2 g2;subst r8;have zz:=b0.o.below bb;have y3:=zz.c3;have f3:=zz.z3;have h4:=Aa r3;have L:=Aa bb;have H9:=Aa h9;clear o2 g2 r3 bb h9 zz t0 t1 t2 t3 t4 t5 s0 s1 s2 s3 s4 s5 W Z q2 q3 q4 q5 p0 p1 p2 p3 p4 p5)
   clear i6 i7 j0 u9;obtain ⟨n,z⟩:=A0 (w2.setCell ⟨w.heap.size,3,none⟩ (qf (some (qzA f 0)) cs.length k9))
   have j9:qj (Z6 w.heap.size (qzI td) (qf o q.length oc) (qf a az.length ac) (qf (some (qzA f 0)) cs.length k9) (qf l ls.length lc) (qf g lg.length gc) n):=by rw [qj,z];exact (b0.o.below L.o).set3 _
   have j1:qj (Z6 (w.heap.size+1+1) (qzI 0) qe qe qe qe qe n):=by rw [qj,z];exact (h3.o.below L.o).far (by omega)
   have l4:qj (BW w n):=by rw [qj,z];exact (next a6.o L.o).setCell nL _
   have l7:qj (CB X 0 D n):=by rw [qj,z];exact (i3.o.below L.o).grown (An _ _ _ _) (by have:=y.o;simp;omega)
   have l8:qj (n.cell? (qzA Y 0)=some (qf la A.length lk)):=by
    rw [qj,z]
    have h1:=(L.o.c Y 0 (by have:=y.o;show Y<_;omega)).t c9.o
    exact ((An w2 w.heap.size 3 _).cell_far (qzA Y 0) (qs w2 _ h1) (by have:=y.o;simp;omega)).t h1
   have d:qj (n.ownsRow B 111 12 (qf (some (qzA f 0)) cs.length k9) cs.length (Am cs)):=by rw [qj,z];exact Al h4.o (by have:=y.o;have:=G.o;omega)
   have p6:qj (Ar n la A):=by
    rw [qj,z]
    exact (i9.o.below L.o).far (An _ _ _ _) (λQ hQ=>by cases hQ;exact Bb a7.o.2 (by omega))
   have a3:qj (B<=f/\f<n.heap.size):=⟨H9.o,by rw [z];have:=(h4.o.lt f rfl).2;simpa using this⟩
   rw [<- z];clear z y3 f3 b0 h3 a6 i3 c9 i9 h4 L H9;obtain ⟨t0,t1,t2,t3,t4,t5,s0,s1,s2,s3,s4,s5⟩:=j9.o;obtain ⟨W,Z,q2,q3,q4,q5,p0,p1,p2,p3,p4,p5⟩:=j1.o;obtain ⟨d0,d1,d2,d3,d4,d5,d6,d7,d8,d9,k3,k4⟩:=l7.o
   simp only [qu] at d0 d1 d2 d3 d4 d5 d6 d7 d8 d9 k3 k4
   have v:∀ j,j<12->(Am cs)[k*12+j]?=(jX (Bm cs k)).toList[j]?:=λj hj=>Gn cs k j hk hj
   have n0:n.cell? (qzA f (k*12))=some (qzI (Bm cs k).iss):=by rw [d.o.cellAt (k*12) (by omega)];exact v 0 (by omega)
   have o0:n.frozen? (qzA f (k*12))=false:=d.o.frozenAt _
   have n1:n.cell? (qzA f (k*12+1))=some (qzI (Bm cs k).acq):=by rw [d.o.cellAt (k*12+1) (by omega)];exact v 1 (by omega)
   have o1:n.frozen? (qzA f (k*12+1))=false:=d.o.frozenAt _
   have n2:n.cell? (qzA f (k*12+2))=some (qzI (Bm cs k).cur):=by rw [d.o.cellAt (k*12+2) (by omega)];exact v 2 (by omega)
   have o2:n.frozen? (qzA f (k*12+2))=false:=d.o.frozenAt _
   have n3:n.cell? (qzA f (k*12+3))=some (qzI (Bm cs k).am):=by rw [d.o.cellAt (k*12+3) (by omega)];exact v 3 (by omega)
   have o3:n.frozen? (qzA f (k*12+3))=false:=d.o.frozenAt _
   have n4:n.cell? (qzA f (k*12+4))=some (qzI (Bm cs k).st):=by rw [d.o.cellAt (k*12+4) (by omega)];exact v 4 (by omega)
   have o4:n.frozen? (qzA f (k*12+4))=false:=d.o.frozenAt _
   have n5:n.cell? (qzA f (k*12+5))=some (qzI (Bm cs k).rsn):=by rw [d.o.cellAt (k*12+5) (by omega)];exact v 5 (by omega)
   have o5:n.frozen? (qzA f (k*12+5))=false:=d.o.frozenAt _
   have n6:n.cell? (qzA f (k*12+6))=some (qzI (Bm cs k).cl):=by rw [d.o.cellAt (k*12+6) (by omega)];exact v 6 (by omega)
   have o6:n.frozen? (qzA f (k*12+6))=false:=d.o.frozenAt _
   have n7:n.cell? (qzA f (k*12+7))=some (qzI (Bm cs k).bk):=by rw [d.o.cellAt (k*12+7) (by omega)];exact v 7 (by omega)
   have o7:n.frozen? (qzA f (k*12+7))=false:=d.o.frozenAt _
   have n8:n.cell? (qzA f (k*12+8))=some (qzI (Bm cs k).fee):=by rw [d.o.cellAt (k*12+8) (by omega)];exact v 8 (by omega)
   have o8:n.frozen? (qzA f (k*12+8))=false:=d.o.frozenAt _
   have n9:n.cell? (qzA f (k*12+9))=some (.bool (Bm cs k).cop):=by rw [d.o.cellAt (k*12+9) (by omega)];exact v 9 (by omega)
   have o9:n.frozen? (qzA f (k*12+9))=false:=d.o.frozenAt _
   have n10:n.cell? (qzA f (k*12+10))=some (qzI (Bm cs k).sta):=by rw [d.o.cellAt (k*12+10) (by omega)];exact v 10 (by omega)
   have s8:n.frozen? (qzA f (k*12+10))=false:=d.o.frozenAt _
   have n11:n.cell? (qzA f (k*12+11))=some (qzI (Bm cs k).due):=by rw [d.o.cellAt (k*12+11) (by omega)];exact v 11 (by omega)
   have s9:n.frozen? (qzA f (k*12+11))=false:=d.o.frozenAt _;obtain ⟨u6,a5⟩:=A0 (Kq n f k D)
   have b6:Below f n u6:=by rw [a5];exact Ug k D bR nL
   have k1:qj _:=j9.o.under b6 (by have:=y.o;have:=G.o;have:=a3.o;omega)
   have j2:qj _:=j1.o.under b6 (by have:=y.o;have:=G.o;have:=a3.o;omega)
   have l5:qj (BW w u6):=by rw [qj,a5];exact Ug k D l4.o (by have:=y.o;have:=G.o;have:=a3.o;omega)
   have r6:u6.cell? (qzA Y 0)=some (qf la A.length lk):=(b6.c Y 0 (by have:=y.o;have:=G.o;have:=a3.o;show Y<f;omega)).t l8.o
   have i8:=Aa (gS p6.o (by have h:=a7.o.1;rw [G.o] at h;exact h.m a3.o.1) b6)
   have q7:qj (u6.ownsRow B 111 12 (qf (some (qzA f 0)) cs.length k9) cs.length (Am (cs.set k D))):=by rw [qj,a5];exact Sz D hk d.o
   unfold Kq at a5;have j5:qj _:=a5;clear a5 b6 v;go_upto_region 11 with fail
   rw [<- j5.o];clear j5 n0 n1 n2 n3 n4 n5 n6 n7 n8 n9 n10 n11 o0 o1 o2 o3 o4 o5 o6 o7 o8 o9 s8 s9 d0 d1 d2 d3 d4 d5 d6 d7 d8 d9 k3 k4 t0 t1 t2 t3 t4 t5 s0 s1 s2 s3 s4 s5 W Z q2 q3 q4 q5 p0 p1 p2 p3 p4 p5;obtain ⟨t0,t1,t2,t3,t4,t5,s0,s1,s2,s3,s4,s5⟩:=k1.o;obtain ⟨W,Z,q2,q3,q4,q5,p0,p1,p2,p3,p4,p5⟩:=j2.o;obtain ⟨u7,T⟩:=A0 (u6.setCell ⟨w.heap.size,4,none⟩ (qf la A.length lk));have k2:qj _:=k1.o.set4 (qf la A.length lk)
   have p9:qj (Z6 (w.heap.size+1+1) (qzI 0) qe qe qe qe qe u7):=by rw [qj,T];exact j2.o.far (by omega)
   have l6:qj (BW w u7):=by rw [qj,T];exact l5.o.setCell nL _
   have q8:qj (u7.ownsRow B 111 12 (qf (some (qzA f 0)) cs.length k9) cs.length (Am (cs.set k D))):=by rw [qj,T];exact Al q7.o (by have:=y.o;have:=G.o;omega)
   have l9:qj (Ar u7 la A):=by rw [qj,T];exact i8.o.far (An _ _ _ _) (λQ hQ=>by cases hQ;exact Bb a7.o.2 (by omega))
   rw [<- T] at k2;have j6:qj _:=T;clear T;go_upto_region 12 with fail
   rw [<- j6.o];clear j6 t0 t1 t2 t3 t4 t5 s0 s1 s2 s3 s4 s5 W Z q2 q3 q4 q5 p0 p1 p2 p3 p4 p5 r6;obtain ⟨t0,t1,t2,t3,t4,t5,s0,s1,s2,s3,s4,s5⟩:=k2.o;obtain ⟨W,Z,q2,q3,q4,q5,p0,p1,p2,p3,p4,p5⟩:=p9.o;go_wp2
   refine bodyPost_ret (by simp [results,results100,go_sem,W,Z,q2,q3,q4,q5];try rfl) rfl ?_
   rw [HE.o]
   have bel:=Bj (R:=(w.heap.size+1+1)) (by omega) l6.o
   have hX:=HX.o _ (bel (qzI td) (qf o q.length oc) (qf a az.length ac) (qf (some (qzA f 0)) cs.length k9) (qf la A.length lk) (qf g lg.length gc));have k8:(cs.set k D).length=cs.length:=List.length_set ..
   refine ⟨⟨o,oc,a,ac,some (qzA f 0),k9,la,lk,g,gc⟩,by simp [Fx,k8],⟨hX.off,hX.az,Hz (Es q8.o (by have:=y.o;have:=G.o;omega) _ _ _ _ _ _),?_,hX.log⟩,rfl,rfl,⟨rfl,.inl rfl,.inr (λx hx=>by cases hx;have:=a3.o;have:=y.o;have:=G.o;show w.heap.size<=f;omega),.inr (λx hx=>by have:=a7.o.2 x hx;omega)⟩,bel _ _ _ _ _ _⟩
   exact Yl l9.o (Bb a7.o.2 (by omega)) _ _ _ _ _ _
end Go.Proofs.YtfpafnefpmmofaaGreatDoor
