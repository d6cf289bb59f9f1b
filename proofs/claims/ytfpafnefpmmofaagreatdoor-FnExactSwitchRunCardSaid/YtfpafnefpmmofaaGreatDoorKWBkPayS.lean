import Derived.Test.YtfpafnefpmmofaaGreatDoorKWBkActS
namespace Go.Proofs.YtfpafnefpmmofaaGreatDoor
open Go.RowKit Go.Proofs.Tryz
set_option maxRecDepth 100000
set_option maxHeartbeats 12800000
theorem zR (F:Ii) (K:Vw F) (b:Bk) (p:Bp) (q kn:Nat) (n0 n1 n2 n3:Int) (w:ql) (hx:Az w b p) (hn:Ld b) (r8:∀ a ∈ b.az,a.ref.length<=1048576) (s7:(Lit.int .i64 b.today).wf=true) (s6:(Lit.int .i64 n3).wf=true)
  (hm0:w.cell? (qzA q 0)=some (qzI n0)) (hm1:w.cell? (qzA q 1)=some (qzI n1)) (hm2:w.cell? (qzA q 2)=some (qzI n2)) (hm3:w.cell? (qzA q 3)=some (qzI n3)) :
  qi 98 #[Fx b p,qf (some (qzA q 0)) 4 kn] w λe w'=>∃ x,F.best b.az n0 n2 n3 b.today x/\BdR w p (Lx F b n0 n1 n2 n3 x).1 (Lx F b n0 n1 n2 n3 x).2 e w':=by
 have b6:qj (∀ u,BW w u->u.cell? (qzA q 0)=some (qzI n0)/\u.cell? (qzA q 1)=some (qzI n1)/\u.cell? (qzA q 2)=some (qzI n2)/\u.cell? (qzA q 3)=some (qzI n3)):=λu h=>by
  have l:=qs w _ hm0;exact ⟨(h.c q 0 l).t hm0,(h.c q 1 l).t hm1,(h.c q 2 l).t hm2,(h.c q 3 l).t hm3⟩
 have B:qj (∀ u,BW w u->qi 120 #[qf p.a b.az.length p.ac,qzI n0,qzI n2,qzI n3,qzI b.today] u λe w'=>∃ x,e=.returned (qzI x)/\F.best b.az n0 n2 n3 b.today x/\BW u w'):=λu h=>K.best p.a p.ac b.az n0 n2 n3 b.today u (hx.below h).az hn.2.1 r8 s6 s7
 have s:qj (∀ u:ql,qi 121 #[qzI n0,qzI n1,qzI n2,qzI n3,qzI b.today] u λe w'=>∃ ao cap,e=.returned (.tuple #[cv (F.stC n0 n1 n2 n3 b.today),qf ao (F.stE n0 n1 n2 n3 b.today).length cap,.bool (F.stOk n0 n1 n2 n3 b.today)])/\w'.ownsRow u.heap.size 217 4 (qf ao (F.stE n0 n1 n2 n3 b.today).length cap) (F.stE n0 n1 n2 n3 b.today).length (B9 (F.stE n0 n1 n2 n3 b.today))/\BW u w'):=λu=>K.start n0 n1 n2 n3 b.today u
 have a6:qj (∀ (u:ql) (eo:qm) (ec:Nat),BW w u->Fg u eo (F.stE n0 n1 n2 n3 b.today)->qi 122 #[.agg #[qf p.l b.ls.length p.lc],qf eo (F.stE n0 n1 n2 n3 b.today).length ec] u λe w'=>∃ ao cap,e=.returned (.tuple #[.agg #[qf ao (F.all b.ls (F.stE n0 n1 n2 n3 b.today)).length cap],.bool (F.allOk b.ls (F.stE n0 n1 n2 n3 b.today))])/\w'.ownsRow u.heap.size 151 3 (qf ao (F.all b.ls (F.stE n0 n1 n2 n3 b.today)).length cap) (F.all b.ls (F.stE n0 n1 n2 n3 b.today)).length (Ak (F.all b.ls (F.stE n0 n1 n2 n3 b.today)))/\BW u w'):=λu eo ec h he=>K.post p.l p.lc b.ls eo ec _ u (hx.below h).ls hn.2.2.2.1 he (K.small _ _ _ _ _)
 have b8:qj (∀ (u:ql) (x:Int),BW w u->qi 123 #[qf p.a b.az.length p.ac,qzI x] u (Wv u (F.use b.az x) (F.useOk b.az x))):=λu x h=>K.use p.a p.ac b.az x u (hx.below h).az hn.2.1
 have i3:qj _:=λx=>@rE F b n0 n1 n2 n3 x
 have i4:qj _:=λx=>@qW F b n0 n1 n2 n3 x
 have h5:qj _:=λx=>@qE F b n0 n1 n2 n3 x
 have a5:qj _:=λx=>@rJ F b n0 n1 n2 n3 x
 have G:qj _:=λx=>@rS F b n0 n1 n2 n3 x
 clear hm0 hm1 hm2 hm3 r8 s7 s6
 have HX:qj (∀ u,BW w u->Az u b p):=λu h=>hx.below h
 have HN:=Aa hn;clear hx hn;obtain ⟨td,fo,az,cs,ls,lg⟩:=b;obtain ⟨o,oc,a,ac,c,cc,l,lc,g,gc⟩:=p;unfold Fx
 simp only
 obtain ⟨S,b0⟩:=A0 (((w.alloc (.cells #[qzI td,qf o fo.length oc,qf a az.length ac,qf c cs.length cc,qf l ls.length lc,qf g lg.length gc] 40))).alloc (.cells qzB 40))
 have V:qj (BW w S):=by rw [qj,b0];go_grown
 have l8:qj ((w.heap.size+1)<S.heap.size):=by rw [qj,b0];simp
 have j0:qj (Z6 w.heap.size (qzI td) (qf o fo.length oc) (qf a az.length ac) (qf c cs.length cc) (qf l ls.length lc) (qf g lg.length gc) S):=by
  rw [qj,b0];exact ((Z6.new w (qzI td) (qf o fo.length oc) (qf a az.length ac) (qf c cs.length cc) (qf l ls.length lc) (qf g lg.length gc) 40)).below (bR.alloc nL _)
 have i5:qj (Z6 (w.heap.size+1) (qzI 0) qe qe qe qe qe S):=by
  have h:=Z6.new ((w.alloc (.cells #[qzI td,qf o fo.length oc,qf a az.length ac,qf c cs.length cc,qf l ls.length lc,qf g lg.length gc] 40))) (qzI 0) qe qe qe qe qe 40
  rw [qj,b0];simpa using h
 have n5:qj _:=b0;clear b0
 simp only at B s a6 b8 i3 i4 h5 a5 G
 obtain ⟨C,hC⟩:=Ae (F.stC n0 n1 n2 n3 td);obtain ⟨E,hE⟩:=Ae (F.stE n0 n1 n2 n3 td);obtain ⟨O1,q8⟩:=Ae (F.stOk n0 n1 n2 n3 td);rw [hC] at s G;rw [hE] at s a6 a5 G;rw [q8] at s h5 a5 G;obtain ⟨A,hA⟩:=Ae (F.all ls E);obtain ⟨O2,q9⟩:=Ae (F.allOk ls E);rw [hA] at a6 G;rw [q9] at a6 a5 G;rw [@Aid C] at s;clear hC hE q8 hA q9
 have B3:cs.length<=1048576:=by have:=HN.o.2.2.1;simpa using this
 go_enter func98,ntmps98
 go_upto_region 1 with fail
 rw [<- n5.o];clear n5;obtain ⟨O,t1,t2,t3,t4,t5,Z,s1,s2,s3,s4,s5⟩:=j0.o;obtain ⟨I,J,M,n,i,N,p0,p1,p2,p3,p4,p5⟩:=i5.o
 go_cut [6] (λv6 wc=>∃ x:Int,v6=qzI x/\F.best az n0 n2 n3 td x/\BW S wc)
 case first =>
  have d:qj (∀ u,BW S u->u.cell? ⟨w.heap.size,0,none⟩=some (qzI td)/\u.cell? ⟨w.heap.size,2,none⟩=some (qf a az.length ac)/\u.cell? (qzA q 0)=some (qzI n0)/\u.cell? (qzA q 2)=some (qzI n2)/\u.cell? (qzA q 3)=some (qzI n3)):=λu h=>by
   have l0:=qs S _ O;obtain ⟨e0,e1,e2,e3⟩:=b6.o u (next V.o h);exact ⟨(h.cell (p:=⟨w.heap.size,0,none⟩) l0).t O,(h.cell (p:=⟨w.heap.size,2,none⟩) l0).t t2,e0,e2,e3⟩
  have k0:BW S S:=bR;have v1:=Aa (V.o.t ((bR.drew).m (V.o.size)));obtain ⟨e0,e1,e2,e3⟩:=b6.o S V.o;clear I J M n i N p0 p1 p2 p3 p4 p5 Z s1 s2 s3 s4 s5 t1 t3 t4 t5
  go_region_held3 (λu=>u.cell? ⟨w.heap.size,0,none⟩=some (qzI td)/\u.cell? ⟨w.heap.size,2,none⟩=some (qf a az.length ac)/\u.cell? (qzA q 0)=some (qzI n0)/\u.cell? (qzA q 2)=some (qzI n2)/\u.cell? (qzA q 3)=some (qzI n3)) (first|with_reducible exact d.o _ r|with_reducible exact d.o _ k0|with_reducible exact d.o _ k0.drew) ((first
   | (go_at_call 120;(with_reducible refine Calls.m (B.o S.drew v1.o) ?_);rintro e T ⟨x,rfl,c8,bb⟩;have r:BW S T:=Below.t ((Below.refl S.heap.size S).drew) bb)
   | (go_at_call 120;(with_reducible refine Calls.m (B.o S V.o) ?_);rintro e T ⟨x,rfl,c8,bb⟩;have r:BW S T:=bb)))
  all_goals
   go_wp2_with fail
   go_meet;exact ⟨x,rfl,c8,r⟩
 case rest =>
  obtain ⟨x,rfl,c8,bc⟩:=hcut;have b1:qj _:=c8;have j1:=Aa (j0.o.below bc);have i6:=Aa (i5.o.below bc);have a3:=Aa (next V.o bc)
  have l9:qj (w.heap.size+1<wc.heap.size):=by have:=l8.o;have:=bc.size;rw [qj];omega
  obtain ⟨D,x3⟩:=A0 wc;subst x3;clear bc c8 O t1 t2 t3 t4 t5 Z s1 s2 s3 s4 s5 I J M n i N p0 p1 p2 p3 p4 p5 j0 i5 V l8 B;obtain ⟨O,t1,t2,t3,t4,t5,Z,s1,s2,s3,s4,s5⟩:=j1.o;obtain ⟨I,J,M,n,i,N,p0,p1,p2,p3,p4,p5⟩:=i6.o
  by_cases hx0:x<0
  ·have HE:qj _:=i3.o x hx0
   go_wp2
   refine bodyPost_ret (by simp [results,results98,go_sem,I,J,M,n,i,N];try rfl) rfl ?_
   refine ⟨x,b1.o,?_⟩;rw [HE.o]
   have bel:=Bj (R:=(w.heap.size+1)) (by omega) a3.o
   exact ⟨⟨o,oc,a,ac,c,cc,l,lc,g,gc⟩,rfl,HX.o _ (bel _ _ _ _ _ _),rfl,rfl,⟨rfl,.inl rfl,.inl rfl,.inl rfl⟩,bel _ _ _ _ _ _⟩
  by_cases hfull:150<=cs.length
  ·have w9:(150:Int)<=(cs.length:Int):=by omega
   have HE:qj _:=i4.o x hx0 hfull;go_wp2
   refine bodyPost_ret (by simp [results,results98,go_sem,I,J,M,n,i,N];try rfl) rfl ?_
   refine ⟨x,b1.o,?_⟩;rw [HE.o]
   have bel:=Bj (R:=(w.heap.size+1)) (by omega) a3.o
   exact ⟨⟨o,oc,a,ac,c,cc,l,lc,g,gc⟩,rfl,HX.o _ (bel _ _ _ _ _ _),rfl,rfl,⟨rfl,.inl rfl,.inl rfl,.inl rfl⟩,bel _ _ _ _ _ _⟩
  have w9:¬ (150:Int)<=(cs.length:Int):=by omega
  have l5:qj _:=h5.o x hx0 hfull;have l6:qj _:=a5.o x hx0 hfull;have l7:qj _:=G.o x hx0 hfull;clear i3 i4 h5 a5 G;go_upto_region 6 with fail
  go_cut [7,8,9] (λv7 v8 v9 wd=>∃ (X:Nat) (ea:qm) (ek:Nat),v7=qh X/\v8=qf ea E.length ek/\v9=.bool O1/\CB X 0 C wd/\Fg wd ea E/\D.heap.size<=X/\X<wd.heap.size/\BW D wd)
  case first =>
   have d:qj (∀ u,BW D u->u.cell? ⟨w.heap.size,0,none⟩=some (qzI td)/\u.cell? (qzA q 0)=some (qzI n0)/\u.cell? (qzA q 1)=some (qzI n1)/\u.cell? (qzA q 2)=some (qzI n2)/\u.cell? (qzA q 3)=some (qzI n3)):=λu h=>by
    have l0:=qs D _ O;obtain ⟨e0,e1,e2,e3⟩:=b6.o u (next a3.o h);exact ⟨(h.cell (p:=⟨w.heap.size,0,none⟩) l0).t O,e0,e1,e2,e3⟩
   have k0:BW D D:=bR;obtain ⟨e0,e1,e2,e3⟩:=b6.o D a3.o;clear I J M n i N p0 p1 p2 p3 p4 p5 Z s1 s2 s3 s4 s5 t1 t2 t3 t4 t5
   go_region_held3 (λu=>u.cell? ⟨w.heap.size,0,none⟩=some (qzI td)/\u.cell? (qzA q 0)=some (qzI n0)/\u.cell? (qzA q 1)=some (qzI n1)/\u.cell? (qzA q 2)=some (qzI n2)/\u.cell? (qzA q 3)=some (qzI n3)) (first|with_reducible exact d.o _ r|with_reducible exact d.o _ k0|with_reducible exact d.o _ k0.drew|with_reducible exact d.o _ (k0.alloc nL _)|with_reducible exact d.o _ ((k0.alloc nL _).drew)|with_reducible exact d.o _ (r.alloc r.size _)|exact d.o _ (Dc C r nL)) ((first
    | (go_at_call 121;(with_reducible refine Calls.m (s.o D.drew) ?_);rintro e T ⟨ea,ek,rfl,he,bb⟩;have r:BW D T:=Below.t ((Below.refl D.heap.size D).drew) bb)
    | (go_at_call 121;(with_reducible refine Calls.m (s.o (D.alloc (.cells #[.int .i64 0,.int .i64 0,.int .i64 0,.int .i64 0,.int .i64 0,.int .i64 0,.int .i64 0,.int .i64 0,.int .i64 0,.bool false,.int .i64 0,.int .i64 0] 111)).drew) ?_);rintro e T ⟨ea,ek,rfl,he,bb⟩;obtain ⟨r3,x0,w8⟩:=V5 bb;have k6:qj _:=r3;obtain ⟨g0,g1,g2,g3,g4,g5,g6,g7,g8,g9,w6,w7⟩:=r3;obtain ⟨m0,m1,m2,m3,m4,m5,m6,m7,m8,m9,x6,x7⟩:=x0;simp only [qu] at g0 g1 g2 g3 g4 g5 g6 g7 g8 g9 w6 w7 m0 m1 m2 m3 m4 m5 m6 m7 m8 m9 x6 x7;have r:BW D T:=Below.t ((Below.refl D.heap.size D).alloc nL (.cells #[.int .i64 0,.int .i64 0,.int .i64 0,.int .i64 0,.int .i64 0,.int .i64 0,.int .i64 0,.int .i64 0,.int .i64 0,.bool false,.int .i64 0,.int .i64 0] 111)) (w8.m (Nat.le_succ _)))))
   ·go_wp2_with fail
    go_meet;have h1:=r.alloc r.size (.cells #[qzI C.iss,qzI C.acq,qzI C.cur,qzI C.am,qzI C.st,qzI C.rsn,qzI C.cl,qzI C.bk,qzI C.fee,.bool C.cop,qzI C.sta,qzI C.due] 111)
    exact ⟨T.heap.size,ea,ek,rfl,rfl,rfl,CB.new T C _,Js (he.alloc _),r.size,by simp,h1⟩
   ·go_wp2_with fail
    go_meet
    have x1:D.heap.size<(D.alloc (.cells #[qzI 0,qzI 0,qzI 0,qzI 0,qzI 0,qzI 0,qzI 0,qzI 0,qzI 0,.bool false,qzI 0,qzI 0] 111)).drew.heap.size:=by simp
    exact ⟨D.heap.size,ea,ek,rfl,rfl,rfl,Sd k6.o,Js (Tf C he x1),nL,by have h:=k6.o.lt;simpa using h,Dc C r nL⟩
  case rest =>
   obtain ⟨X,ea,ek,rfl,rfl,rfl,r2,r4,x4,s8,bc⟩:=hcut;have j2:=Aa (j1.o.below bc);have i7:=Aa (i6.o.below bc);have h2:=Aa (next a3.o bc);have k1:=Aa r2;have k7:=Aa r4
   have h6:qj (w.heap.size+1<X/\X<wc.heap.size):=⟨by have:=l9.o;omega,s8⟩
   clear O t1 t2 t3 t4 t5 Z s1 s2 s3 s4 s5 I J M n i N p0 p1 p2 p3 p4 p5 bc r2 r4 x4 s8 j1 i6 a3 l9 s b6;obtain ⟨O,t1,t2,t3,t4,t5,Z,s1,s2,s3,s4,s5⟩:=j2.o;obtain ⟨I,J,M,n,i,N,p0,p1,p2,p3,p4,p5⟩:=i7.o
   cases O1
   ·have HE:qj _:=l5.o rfl
    go_wp2
    refine bodyPost_ret (by simp [results,results98,go_sem,I,J,M,n,i,N];try rfl) rfl ?_
    refine ⟨x,b1.o,?_⟩;rw [HE.o]
    have bel:=Bj (R:=(w.heap.size+1)) (by omega) h2.o
    exact ⟨⟨o,oc,a,ac,c,cc,l,lc,g,gc⟩,rfl,HX.o _ (bel _ _ _ _ _ _),rfl,rfl,⟨rfl,.inl rfl,.inl rfl,.inl rfl⟩,bel _ _ _ _ _ _⟩
   go_wp2_with fail
   refine Calls.m (a6.o wc ea ek h2.o k7.o) ?_;rintro e T ⟨la,lk,rfl,lo,b2⟩;obtain ⟨u3,c9⟩:=A0 (T.alloc (.cells #[qf la A.length lk] 38))
   have b3:BW T u3:=by rw [c9];exact bR.alloc nL _
   have b9:=next b2 b3;have j3:=Aa (j2.o.below b9);have i8:=Aa (i7.o.below b9);have h3:=Aa (next h2.o b9);have k2:=Aa (k1.o.below b9)
   have h4:qj (u3.cell? ⟨T.heap.size,0,none⟩=some (qf la A.length lk)):=by rw [qj,c9];simp
   have l1:=Aa (Eb (A5 lo b3))
   have b5:qj (Df la (w.heap.size+1+1)):=λx hx=>by have:=D9 lo x hx;have:=h6.o;omega
   have a7:qj (w.heap.size+1<X/\X<T.heap.size/\T.heap.size<u3.heap.size):=⟨h6.o.1,by have:=h6.o.2;have:=b2.size;omega,by rw [c9];simp⟩
   have n7:qj _:=c9;obtain ⟨Y,hY⟩:=Ae T.heap.size;rw [hY] at h4 a7;have o2:qj _:=hY;clear O t1 t2 t3 t4 t5 Z s1 s2 s3 s4 s5 I J M n i N p0 p1 p2 p3 p4 p5 b2 b3 b9 lo c9 hY j2 i7 h2 k1 k7 h6 a6;go_upto_region 10 with fail
   rw [<- n7.o,o2.o];clear n7 o2;obtain ⟨O,t1,t2,t3,t4,t5,Z,s1,s2,s3,s4,s5⟩:=j3.o;obtain ⟨I,J,M,n,i,N,p0,p1,p2,p3,p4,p5⟩:=i8.o
   cases O2
   ·have HE:qj _:=l6.o (by first|rfl|trivial) (by first|rfl|trivial)
    go_wp2
    refine bodyPost_ret (by simp [results,results98,go_sem,I,J,M,n,i,N];try rfl) rfl ?_
    refine ⟨x,b1.o,?_⟩;rw [HE.o]
    have bel:=Bj (R:=(w.heap.size+1)) (by omega) h3.o
    exact ⟨⟨o,oc,a,ac,c,cc,l,lc,g,gc⟩,rfl,HX.o _ (bel _ _ _ _ _ _),rfl,rfl,⟨rfl,.inl rfl,.inl rfl,.inl rfl⟩,bel _ _ _ _ _ _⟩
   have HE:qj _:=l7.o (by first|rfl|trivial) (by first|rfl|trivial)
   clear l5 l6 l7;go_wp2_with fail
   refine Calls.m (b8.o u3 x h3.o) ?_;rintro e u4 ⟨ua,uk,rfl,uo,b4⟩;obtain ⟨L,hL⟩:=Ae (F.use az x);rw [hL] at uo HE ⊢;have j4:=Aa (j3.o.below b4);have i9:=Aa (i8.o.below b4);have j8:=Aa (next h3.o b4);have k3:=Aa (k2.o.below b4);have i2:=Aa ((b4.c Y 0 (qs u3 _ h4.o)).t h4.o);have h8:=Aa (l1.o.below b4)
   have n9:qj (u4.ownsRow (w.heap.size+1+1) 108 6 (qf ua L.length uk) L.length (Ap L)):=Bz uo (by have:=a7.o;omega)
   have a8:qj (w.heap.size+1<X/\X<Y/\Y<u4.heap.size):=⟨a7.o.1,a7.o.2.1,by have:=a7.o.2.2;have:=b4.size;omega⟩
   clear O t1 t2 t3 t4 t5 Z s1 s2 s3 s4 s5 I J M n i N p0 p1 p2 p3 p4 p5 b4 uo hL j3 i8 h3 k2 h4 l1 a7 b8;obtain ⟨O,t1,t2,t3,t4,t5,Z,s1,s2,s3,s4,s5⟩:=j4.o;obtain ⟨I,J,M,n,i,N,p0,p1,p2,p3,p4,p5⟩:=i9.o;go_upto_region 14 with fail
   obtain ⟨f,z⟩:=A0 (u4.setCell ⟨w.heap.size,2,none⟩ (qf ua L.length uk))
   have h7:qj (Z6 w.heap.size (qzI td) (qf o fo.length oc) (qf ua L.length uk) (qf c cs.length cc) (qf l ls.length lc) (qf g lg.length gc) f):=by rw [qj,z];exact j4.o.set2 _
   have v2:qj (Z6 (w.heap.size+1) (qzI 0) qe qe qe qe qe f):=by rw [qj,z];exact i9.o.far (by omega)
   have j9:qj (BW w f):=by rw [qj,z];exact j8.o.setCell nL _
   have t9:qj (CB X 0 C f):=by rw [qj,z];exact k3.o.grown (An _ _ _ _) (by have:=a8.o;simp;omega)
   have k9:qj (f.cell? (qzA Y 0)=some (qf la A.length lk)):=by
    rw [qj,z]
    exact ((An u4 w.heap.size 2 _).cell_far (qzA Y 0) (qs u4 _ i2.o) (by have:=a8.o;simp;omega)).t i2.o
   have l2:qj (Ar f la A):=by rw [qj,z];exact h8.o.far (An _ _ _ _) (λQ hQ=>by cases hQ;exact Bb b5.o (by omega))
   have o0:qj (f.ownsRow (w.heap.size+1+1) 108 6 (qf ua L.length uk) L.length (Ap L)):=by rw [qj,z];exact Al n9.o (by omega)
   have b7:qj (w.heap.size+1<X/\X<Y/\Y<f.heap.size):=⟨a8.o.1,a8.o.2.1,by rw [z];simpa using a8.o.2.2⟩
   have i1:qj (∀ u,BW f u->Cf u c cs):=λu h=>(HX.o u (next j9.o h)).cs
   rw [<- z];clear z O t1 t2 t3 t4 t5 Z s1 s2 s3 s4 s5 I J M n i N p0 p1 p2 p3 p4 p5 j4 i9 j8 k3 i2 h8 n9 a8
   go_cut [5] (λv5 wz=>v5=qzI 0/\∃ (gb v:Nat),Z6 w.heap.size (qzI td) (qf o fo.length oc) (qf ua L.length uk) (qf (some (qzA gb 0)) (cs.length+1) v) (qf l ls.length lc) (qf g lg.length gc) wz/\Z6 (w.heap.size+1) (qzI 0) qe qe qe qe qe wz/\BW w wz/\wz.ownsRow f.heap.size 111 12 (qf (some (qzA gb 0)) (cs.length+1) v) (cs.length+1) (Am (cs++[C]))/\Ar wz la A/\wz.cell? (qzA Y 0)=some (qf la A.length lk)/\wz.ownsRow (w.heap.size+1+1) 108 6 (qf ua L.length uk) L.length (Ap L))
   case first =>
    have d:qj (∀ u,BW f u->u.cell? ⟨w.heap.size,3,none⟩=some (qf c cs.length cc)/\u.cell? (qzA X 0)=some (qzI C.iss)/\u.cell? (qzA X 1)=some (qzI C.acq)/\u.cell? (qzA X 2)=some (qzI C.cur)/\u.cell? (qzA X 3)=some (qzI C.am)/\u.cell? (qzA X 4)=some (qzI C.st)/\u.cell? (qzA X 5)=some (qzI C.rsn)/\u.cell? (qzA X 6)=some (qzI C.cl)/\u.cell? (qzA X 7)=some (qzI C.bk)/\u.cell? (qzA X 8)=some (qzI C.fee)/\u.cell? (qzA X 9)=some (.bool C.cop)/\u.cell? (qzA X 10)=some (qzI C.sta)/\u.cell? (qzA X 11)=some (qzI C.due)):=λu h=>by
     obtain ⟨d0,d1,d2,d3,d4,d5,d6,d7,d8,d9,j5,j6⟩:=t9.o.below h
     simp only [qu] at d0 d1 d2 d3 d4 d5 d6 d7 d8 d9 j5 j6
     exact ⟨(h7.o.below h).c3,d0,d1,d2,d3,d4,d5,d6,d7,d8,d9,j5,j6⟩
    have k5:=Aa (Agm f C);have k4:qj (CB f.heap.size 0 C ((f.alloc (.cells #[qzI C.iss,qzI C.acq,qzI C.cur,qzI C.am,qzI C.st,qzI C.rsn,qzI C.cl,qzI C.bk,qzI C.fee,.bool C.cop,qzI C.sta,qzI C.due] 111)).alloc (.cells #[] 111))):=(CB.new f C _).below (bR.alloc nL _);have k0:BW f f:=bR
    have k8:qj (∀ (U:ql) (gb v:Nat),BW f U->U.ownsRow f.heap.size 111 12 (qf (some (qzA gb 0)) (cs.length+1) v) (cs.length+1) (Am cs++Am [C])->Z6 w.heap.size (qzI td) (qf o fo.length oc) (qf ua L.length uk) (qf (some (qzA gb 0)) (cs.length+1) v) (qf l ls.length lc) (qf g lg.length gc) (U.setCell ⟨w.heap.size,3,none⟩ (qf (some (qzA gb 0)) (cs.length+1) v))/\Z6 (w.heap.size+1) (qzI 0) qe qe qe qe qe (U.setCell ⟨w.heap.size,3,none⟩ (qf (some (qzA gb 0)) (cs.length+1) v))/\Below w.heap.size w (U.setCell ⟨w.heap.size,3,none⟩ (qf (some (qzA gb 0)) (cs.length+1) v))/\(U.setCell ⟨w.heap.size,3,none⟩ (qf (some (qzA gb 0)) (cs.length+1) v)).ownsRow f.heap.size 111 12 (qf (some (qzA gb 0)) (cs.length+1) v) (cs.length+1) (Am (cs++[C]))/\Ar (U.setCell ⟨w.heap.size,3,none⟩ (qf (some (qzA gb 0)) (cs.length+1) v)) la A/\(U.setCell ⟨w.heap.size,3,none⟩ (qf (some (qzA gb 0)) (cs.length+1) v)).cell? (qzA Y 0)=some (qf la A.length lk)/\(U.setCell ⟨w.heap.size,3,none⟩ (qf (some (qzA gb 0)) (cs.length+1) v)).ownsRow (w.heap.size+1+1) 108 6 (qf ua L.length uk) L.length (Ap L)):=λU gb v i o4=>by
     have hy:=(i.c Y 0 (qs f _ k9.o)).t k9.o
     refine ⟨(h7.o.below i).set3 _,(v2.o.below i).far (by omega),(next j9.o i).setCell nL _,?_,(l2.o.below i).far (An _ _ _ _) (λQ hQ=>by cases hQ;exact Bb b5.o (by omega)),((An U w.heap.size 3 _).cell_far (qzA Y 0) (qs U _ hy) (by have:=b7.o;simp;omega)).t hy,Al (A5 o0.o i) (by omega)⟩
     rw [Oh]
     exact Al o4 (by have:=b7.o;omega)
    obtain ⟨y3,d0,d1,d2,d3,d4,d5,d6,d7,d8,d9,j5,j6⟩:=d.o f k0
    have j:∀ o,Below f.heap.size f (f.alloc o):=λo=>bR.alloc nL _
    have q7:∀ o o',Below f.heap.size f ((f.alloc o).alloc o'):=λo o'=>(bR.alloc nL _).alloc (by simp) _
    have B4:=λo=>(d.o _ (j o)).1
    have B5:=λo o'=>(d.o _ (q7 o o')).1
    have y5:=λo=>(d.o _ (j o)).2.1
    have y6:=λo=>(d.o _ (j o)).2.2.1
    have y7:=λo=>(d.o _ (j o)).2.2.2.1
    have y8:=λo=>(d.o _ (j o)).2.2.2.2.1
    have y9:=λo=>(d.o _ (j o)).2.2.2.2.2.1
    have A1:=λo=>(d.o _ (j o)).2.2.2.2.2.2.1
    have A2:=λo=>(d.o _ (j o)).2.2.2.2.2.2.2.1
    have A3:=λo=>(d.o _ (j o)).2.2.2.2.2.2.2.2.1
    have A4:=λo=>(d.o _ (j o)).2.2.2.2.2.2.2.2.2.1
    have B1:=λo=>(d.o _ (j o)).2.2.2.2.2.2.2.2.2.2.1
    have y0:=λo=>(d.o _ (j o)).2.2.2.2.2.2.2.2.2.2.2.1
    have y1:=λo=>(d.o _ (j o)).2.2.2.2.2.2.2.2.2.2.2.2
    clear j q7
    go_region_law (first
     | (refine Dg rfl (.tmp 77) (.tmp 79) rfl f.heap.size (qf (some ⟨f.heap.size,0,none⟩) 0 0) 0 [] (by simp [Act.eval]) (A5 (yH f) bR.drew) c cc cs (by simp [Act.eval]) (i1.o _ (by go_grown)) (by omega) (by simp;done) ?_
        intro v3 w3 o3 g3 n3;rw [qu,List.nil_append] at o3
        obtain ⟨ga,ca,h0⟩:=N0 o3 (n3 (by simp))
        subst h0
        have n:BW f w3:=Below.grown (by go_grown) g3 (by simp;done) (λk hk=>by simp [Value.ownBlock] at hk;omega)
        have a4:=Aa o3;obtain ⟨t6,o5,o6,o7,o8,o9,p6,p7,p8,p9,q6,h9,i0⟩:=d.o _ n;have a9:=n.size;clear o3 g3 n3)
     | (refine Dg rfl (.tmp 77) (.tmp 79) rfl f.heap.size (qf (some ⟨f.heap.size,0,none⟩) 0 0) 0 [] (by simp [Act.eval]) (A5 ((yH f).alloc _) bR.drew) c cc cs (by simp [Act.eval]) (i1.o _ (by go_grown)) (by omega) (by simp;omega) ?_
        intro v3 w3 o3 g3 n3;rw [qu,List.nil_append] at o3
        obtain ⟨ga,ca,h0⟩:=N0 o3 (n3 (by simp))
        subst h0
        have n:BW f w3:=Below.grown (by go_grown) g3 (by simp;omega) (λk hk=>by simp [Value.ownBlock] at hk;omega)
        have C0:=Aa (Og (((k5.o.below (bR.drew))).grown g3 (by simp [Value.ownBlock])))
        have a4:=Aa o3;obtain ⟨t6,o5,o6,o7,o8,o9,p6,p7,p8,p9,q6,h9,i0⟩:=d.o _ n;have a9:=n.size;clear o3 g3 n3)
     | (refine Dg rfl (.tmp 77) (.tmp 79) rfl f.heap.size (qf (some ⟨f.heap.size+1,0,none⟩) 0 0) 0 [] (by simp [Act.eval]) (A5 (Agv f C) bR.drew) c cc cs (by simp [Act.eval]) (i1.o _ (by go_grown)) (by omega) (by simp;omega) ?_
        intro v3 w3 o3 g3 n3;rw [qu,List.nil_append] at o3
        obtain ⟨ga,ca,h0⟩:=N0 o3 (n3 (by simp))
        subst h0
        have n:BW f w3:=Below.grown (by go_grown) g3 (by simp;omega) (λk hk=>by simp [Value.ownBlock] at hk;omega)
        have C0:=Aa (Og (((k4.o.below (bR.drew))).grown g3 (by simp [Value.ownBlock])))
        have a4:=Aa o3;obtain ⟨t6,o5,o6,o7,o8,o9,p6,p7,p8,p9,q6,h9,i0⟩:=d.o _ n;have a9:=n.size;clear o3 g3 n3)
     | (refine Dg rfl (.tmp 80) (.tmp 82) rfl f.heap.size (qf (some ⟨ga,0,none⟩) cs.length ca) cs.length (Am cs) (by simp [Act.eval]) (A5 a4.o (by first|exact bR|go_grown)) _ 1 [C] (by simp [Act.eval];try rfl) (C0.o.below (by first|exact bR|go_grown)) (by simp;omega) (by first|exact a9|(simp;omega)) ?_
        intro v4 U o4 g4 n4
        obtain ⟨gb,v,j7⟩:=N0 o4 (n4 (by simp))
        subst j7
        have i:BW f U:=Below.grown (n.t (Below.m (by first|exact bR|go_grown) a9)) g4 (by first|exact a9|(simp;omega)) (λk hk=>(a4.o.lt k hk).1)
        have l3:=Aa o4;have x2:=i.size;have W:=h7.o.below i;have x8:=W.c3;have x9:=W.z3
        simp only [List.length_singleton]
        clear o4 g4 n4 W)
     | (refine Dg rfl (.tmp 80) (.tmp 82) rfl f.heap.size (qf (some ⟨ga,0,none⟩) cs.length ca) cs.length (Am cs) (by simp [Act.eval]) (A5 a4.o (by first|exact bR|go_grown)) (some ⟨w3.heap.size,0,none⟩) 1 [C] (by simp [Act.eval];try rfl) (Og (CB.new w3 C _)) (by simp;omega) (by simp;omega) ?_
        intro v4 U o4 g4 n4
        obtain ⟨gb,v,j7⟩:=N0 o4 (n4 (by simp))
        subst j7
        have i:BW f U:=Below.grown (n.t (Below.m (by first|exact bR|go_grown) a9)) g4 (by simp;omega) (λk hk=>(a4.o.lt k hk).1)
        have l3:=Aa o4;have x2:=i.size;have W:=h7.o.below i;have x8:=W.c3;have x9:=W.z3
        simp only [List.length_singleton]
        clear o4 g4 n4 W)
     | fail)
    all_goals
     go_wp2_with fail
     go_meet;exact ⟨rfl,gb,v,k8.o _ gb v i l3.o⟩
   case rest =>
    obtain ⟨rfl,gb,v,s9,r7,r1,r6,r5,x5,r9⟩:=hcut;have y4:qj _:=s9;have w0:=Aa r7;have t7:=Aa r1;have v0:=Aa r6;have u6:=Aa r5;have w2:=Aa r9;obtain ⟨O,t1,t2,t3,t4,t5,Z,s1,s2,s3,s4,s5⟩:=s9;clear r7 r1 r6 r5 r9;obtain ⟨u7,H⟩:=A0 (wc.setCell ⟨w.heap.size,4,none⟩ (qf la A.length lk))
    have w5:qj (Z6 w.heap.size (qzI td) (qf o fo.length oc) (qf ua L.length uk) (qf (some (qzA gb 0)) (cs.length+1) v) (qf la A.length lk) (qf g lg.length gc) u7):=by rw [qj,H];exact Z6.set4 ⟨O,t1,t2,t3,t4,t5,Z,s1,s2,s3,s4,s5⟩ _
    have w1:qj (Z6 (w.heap.size+1) (qzI 0) qe qe qe qe qe u7):=by rw [qj,H];exact w0.o.far (by omega)
    have t8:qj (BW w u7):=by rw [qj,H];exact t7.o.setCell nL _
    have l4:qj (u7.ownsRow f.heap.size 111 12 (qf (some (qzA gb 0)) (cs.length+1) v) (cs.length+1) (Am (cs++[C]))):=by rw [qj,H];exact Al v0.o (by have:=b7.o;omega)
    have u9:qj (Ar u7 la A):=by rw [qj,H];exact u6.o.far (An _ _ _ _) (λQ hQ=>by cases hQ;exact Bb b5.o (by omega))
    have n8:qj (u7.ownsRow (w.heap.size+1+1) 108 6 (qf ua L.length uk) L.length (Ap L)):=by rw [qj,H];exact Al w2.o (by omega)
    have o1:qj _:=H;clear H;go_upto_region 16 with fail
    rw [<- o1.o];clear o1 O t1 t2 t3 t4 t5 Z s1 s2 s3 s4 s5 x5;obtain ⟨O,t1,t2,t3,t4,t5,Z,s1,s2,s3,s4,s5⟩:=w5.o;obtain ⟨I,J,M,n,i,N,p0,p1,p2,p3,p4,p5⟩:=w1.o;go_wp2
    refine bodyPost_ret (by simp [results,results98,go_sem,I,J,M,n,i,N];try rfl) rfl ?_
    refine ⟨x,b1.o,?_⟩;rw [HE.o]
    have bel:=Bj (R:=(w.heap.size+1)) (by omega) t8.o
    have hX:=HX.o _ (bel (qzI td) (qf o fo.length oc) (qf ua L.length uk) (qf (some (qzA gb 0)) (cs.length+1) v) (qf la A.length lk) (qf g lg.length gc))
    have y2:(cs++[C]).length=cs.length+1:=by simp
    refine ⟨⟨o,oc,ua,uk,some (qzA gb 0),v,la,lk,g,gc⟩,by simp [Fx],⟨hX.off,Hu (Es n8.o (by omega) _ _ _ _ _ _),Hz (Es l4.o (by have:=b7.o;omega) _ _ _ _ _ _),Yl u9.o (Bb b5.o (by omega)) _ _ _ _ _ _,hX.log⟩,rfl,rfl,⟨rfl,.inr (λy hy=>by have:=D9 n8.o y hy;omega),.inr (λy hy=>by have:=D9 l4.o y hy;have:=b7.o;omega),.inr (λy hy=>by have:=b5.o y hy;omega)⟩,bel _ _ _ _ _ _⟩
end Go.Proofs.YtfpafnefpmmofaaGreatDoor
