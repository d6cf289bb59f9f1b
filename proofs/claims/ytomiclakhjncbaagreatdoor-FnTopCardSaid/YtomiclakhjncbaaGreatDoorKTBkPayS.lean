import Derived.Test.YtomiclakhjncbaaGreatDoorKTBkActS
namespace Go.Proofs.YtomiclakhjncbaaGreatDoor
open Go.RowKit Go.Proofs.Tryz
set_option maxRecDepth 100000
set_option maxHeartbeats 12800000
theorem lR (F:Ff) (K:Nc F) (b:Bk) (p:Bp) (n kn:Nat) (n0 n1 n2 n3:Int) (w:World) (hx:Aq w b p) (hn:D0 b) (s8:∀ a ∈ b.az,a.ref.length<=1048576) (t8:(Lit.int .i64 b.today).wf=true) (t6:(Lit.int .i64 n3).wf=true)
  (hm0:w.cell? (qzA n 0)=some (qzI n0)) (hm1:w.cell? (qzA n 1)=some (qzI n1)) (hm2:w.cell? (qzA n 2)=some (qzI n2)) (hm3:w.cell? (qzA n 3)=some (qzI n3)) :
  Calls prog 144 #[C5 b p,.slice (some (qzA n 0)) 4 kn] w fun e w'=>∃ x,F.best b.az n0 n2 n3 b.today x/\U8 w p (Jk F b n0 n1 n2 n3 x).1 (Jk F b n0 n1 n2 n3 x).2 e w':=by
 have b6:Hid (∀ u,BW w u->u.cell? (qzA n 0)=some (qzI n0)/\u.cell? (qzA n 1)=some (qzI n1)/\u.cell? (qzA n 2)=some (qzI n2)/\u.cell? (qzA n 3)=some (qzI n3)):=fun u h=>by
  have l:=World.block_lt_of_cell? w _ hm0;exact ⟨(h.cell (p:=(qzA n 0)) l).trans hm0,(h.cell (p:=(qzA n 1)) l).trans hm1,(h.cell (p:=(qzA n 2)) l).trans hm2,(h.cell (p:=(qzA n 3)) l).trans hm3⟩
 have v:Hid (∀ u,BW w u->Calls prog 180 #[.slice p.a b.az.length p.ac,qzI n0,qzI n2,qzI n3,qzI b.today] u fun e w'=>∃ x,e=.returned (qzI x)/\F.best b.az n0 n2 n3 b.today x/\BW u w'):=fun u h=>K.best p.a p.ac b.az n0 n2 n3 b.today u (hx.below h).az hn.2.1 s8 t6 t8
 have r:Hid (∀ u:World,Calls prog 181 #[qzI n0,qzI n1,qzI n2,qzI n3,qzI b.today] u fun e w'=>∃ ao cap,e=.returned (.tuple #[cv (F.stC n0 n1 n2 n3 b.today),.slice ao (F.stE n0 n1 n2 n3 b.today).length cap,.bool (F.stOk n0 n1 n2 n3 b.today)])/\w'.ownsRow u.heap.size 269 4 (.slice ao (F.stE n0 n1 n2 n3 b.today).length cap) (F.stE n0 n1 n2 n3 b.today).length (Ba (F.stE n0 n1 n2 n3 b.today))/\BW u w'):=fun u=>K.start n0 n1 n2 n3 b.today u
 have a6:Hid (∀ (u:World) (eo:Option Addr) (ec:Nat),BW w u->C8 u eo (F.stE n0 n1 n2 n3 b.today)->Calls prog 182 #[.agg #[.slice p.l b.ls.length p.lc],.slice eo (F.stE n0 n1 n2 n3 b.today).length ec] u fun e w'=>∃ ao cap,e=.returned (.tuple #[.agg #[.slice ao (F.all b.ls (F.stE n0 n1 n2 n3 b.today)).length cap],.bool (F.allOk b.ls (F.stE n0 n1 n2 n3 b.today))])/\w'.ownsRow u.heap.size 113 3 (.slice ao (F.all b.ls (F.stE n0 n1 n2 n3 b.today)).length cap) (F.all b.ls (F.stE n0 n1 n2 n3 b.today)).length (Ag (F.all b.ls (F.stE n0 n1 n2 n3 b.today)))/\BW u w'):=fun u eo ec h he=>K.post p.l p.lc b.ls eo ec _ u (hx.below h).ls hn.2.2.2.1 he (K.small _ _ _ _ _)
 have b8:Hid (∀ (u:World) (x:Int),BW w u->Calls prog 183 #[.slice p.a b.az.length p.ac,qzI x] u (Pi u (F.use b.az x) (F.useOk b.az x))):=fun u x h=>K.use p.a p.ac b.az x u (hx.below h).az hn.2.1
 have i5:Hid _:=fun x=>@cK F b n0 n1 n2 n3 x
 have i6:Hid _:=fun x=>@bQ F b n0 n1 n2 n3 x
 have h6:Hid _:=fun x=>@cO F b n0 n1 n2 n3 x
 have a5:Hid _:=fun x=>@cM F b n0 n1 n2 n3 x
 have D:Hid _:=fun x=>@bF F b n0 n1 n2 n3 x
 clear hm0 hm1 hm2 hm3 s8 t8 t6
 have HX:Hid (∀ u,BW w u->Aq u b p):=fun u h=>hx.below h
 have HN:Hid (D0 b):=hn;clear hx hn;obtain ⟨td,fo,az,cs,ls,lg⟩:=b;obtain ⟨o,oc,a,ac,c,cc,l,lc,g,gc⟩:=p;unfold C5
 simp only
 obtain ⟨S,b0⟩:∃ u,u=((w.alloc (.cells #[qzI td,.slice o fo.length oc,.slice a az.length ac,.slice c cs.length cc,.slice l ls.length lc,.slice g lg.length gc] 31))).alloc (.cells qzB 31):=⟨_,rfl⟩
 have U:Hid (BW w S):=by rw [Hid,b0];go_grown
 have n8:Hid ((w.heap.size+1)<S.heap.size):=by rw [Hid,b0];simp
 have j2:Hid (Z6 w.heap.size (qzI td) (.slice o fo.length oc) (.slice a az.length ac) (.slice c cs.length cc) (.slice l ls.length lc) (.slice g lg.length gc) S):=by
  rw [Hid,b0];exact ((Z6.new w (qzI td) (.slice o fo.length oc) (.slice a az.length ac) (.slice c cs.length cc) (.slice l ls.length lc) (.slice g lg.length gc) 31)).below (bR.alloc nL _)
 have i7:Hid (Z6 (w.heap.size+1) (qzI 0) (.slice none 0 0) (.slice none 0 0) (.slice none 0 0) (.slice none 0 0) (.slice none 0 0) S):=by
  have h:=Z6.new ((w.alloc (.cells #[qzI td,.slice o fo.length oc,.slice a az.length ac,.slice c cs.length cc,.slice l ls.length lc,.slice g lg.length gc] 31))) (qzI 0) (.slice none 0 0) (.slice none 0 0) (.slice none 0 0) (.slice none 0 0) (.slice none 0 0) 31
  rw [Hid,b0];simpa using h
 have o0:Hid _:=b0;clear b0
 simp only at v r a6 b8 i5 i6 h6 a5 D
 obtain ⟨C,hC⟩:∃ C,F.stC n0 n1 n2 n3 td=C:=⟨_,rfl⟩;obtain ⟨E,hE⟩:∃ E,F.stE n0 n1 n2 n3 td=E:=⟨_,rfl⟩;obtain ⟨O1,r3⟩:∃ O,F.stOk n0 n1 n2 n3 td=O:=⟨_,rfl⟩;rw [hC] at r D;rw [hE] at r a6 a5 D;rw [r3] at r h6 a5 D;obtain ⟨A,hA⟩:∃ A,F.all ls E=A:=⟨_,rfl⟩;obtain ⟨O2,r4⟩:∃ O,F.allOk ls E=O:=⟨_,rfl⟩;rw [hA] at a6 D;rw [r4] at a6 a5 D;rw [@sC C] at r;clear hC hE r3 hA r4
 have D2:cs.length<=1048576:=by have:=HN.o.2.2.1;simpa using this
 go_enter func144,ntmps144
 go_upto_region 1 with fail
 rw [<- o0.o];clear o0;obtain ⟨N,t1,t2,t3,t4,t5,W,Z,s2,s3,s4,s5⟩:=j2.o;obtain ⟨H,I,J,m,i,M,p0,p1,p2,p3,p4,p5⟩:=i7.o
 go_cut [6] (fun v6 wc=>∃ x:Int,v6=qzI x/\F.best az n0 n2 n3 td x/\BW S wc)
 case first =>
  have d:Hid (∀ u,BW S u->u.cell? ⟨w.heap.size,0,none⟩=some (qzI td)/\u.cell? ⟨w.heap.size,2,none⟩=some (.slice a az.length ac)/\u.cell? (qzA n 0)=some (qzI n0)/\u.cell? (qzA n 2)=some (qzI n2)/\u.cell? (qzA n 3)=some (qzI n3)):=fun u h=>by
   have l0:=World.block_lt_of_cell? S _ N;obtain ⟨e0,e1,e2,e3⟩:=b6.o u (next U.o h);exact ⟨(h.cell (p:=⟨w.heap.size,0,none⟩) l0).trans N,(h.cell (p:=⟨w.heap.size,2,none⟩) l0).trans t2,e0,e2,e3⟩
  have k0:BW S S:=bR;have w5:Hid (BW w S.drew):=U.o.trans ((bR.drew).mono (U.o.size));obtain ⟨e0,e1,e2,e3⟩:=b6.o S U.o;clear H I J m i M p0 p1 p2 p3 p4 p5 W Z s2 s3 s4 s5 t1 t3 t4 t5
  go_region_held3 (fun u=>u.cell? ⟨w.heap.size,0,none⟩=some (qzI td)/\u.cell? ⟨w.heap.size,2,none⟩=some (.slice a az.length ac)/\u.cell? (qzA n 0)=some (qzI n0)/\u.cell? (qzA n 2)=some (qzI n2)/\u.cell? (qzA n 3)=some (qzI n3)) (first | with_reducible exact d.o _ q | with_reducible exact d.o _ k0 | with_reducible exact d.o _ k0.drew) ((first
   | (go_at_call 180;(with_reducible refine Calls.mono (v.o S.drew w5.o) ?_);rintro e T ⟨x,rfl,c8,bb⟩;have q:BW S T:=Below.trans ((Below.refl S.heap.size S).drew) bb)
   | (go_at_call 180;(with_reducible refine Calls.mono (v.o S U.o) ?_);rintro e T ⟨x,rfl,c8,bb⟩;have q:BW S T:=bb)))
  all_goals
   go_wp2_with fail
   go_meet;exact ⟨x,rfl,c8,q⟩
 case rest =>
  obtain ⟨x,rfl,c8,bc⟩:=hcut;have b1:Hid _:=c8;have j3:Hid (Z6 w.heap.size (qzI td) (.slice o fo.length oc) (.slice a az.length ac) (.slice c cs.length cc) (.slice l ls.length lc) (.slice g lg.length gc) wc):=j2.o.below bc;have i8:Hid (Z6 (w.heap.size+1) (qzI 0) (.slice none 0 0) (.slice none 0 0) (.slice none 0 0) (.slice none 0 0) (.slice none 0 0) wc):=i7.o.below bc;have a3:Hid (BW w wc):=next U.o bc
  have n9:Hid (w.heap.size+1<wc.heap.size):=by have:=n8.o;have:=bc.size;rw [Hid];omega
  obtain ⟨z,x8⟩:∃ u,u=wc:=⟨_,rfl⟩;subst x8;clear bc c8 N t1 t2 t3 t4 t5 W Z s2 s3 s4 s5 H I J m i M p0 p1 p2 p3 p4 p5 j2 i7 U n8 v;obtain ⟨N,t1,t2,t3,t4,t5,W,Z,s2,s3,s4,s5⟩:=j3.o;obtain ⟨H,I,J,m,i,M,p0,p1,p2,p3,p4,p5⟩:=i8.o
  by_cases hx0:x<0
  ·have HE:Hid _:=i5.o x hx0
   go_wp2
   refine bodyPost_ret (by simp [results,results144,go_sem,H,I,J,m,i,M];try rfl) rfl ?_
   refine ⟨x,b1.o,?_⟩;rw [HE.o]
   have bel:=Ax (R:=(w.heap.size+1)) (by omega) a3.o
   exact ⟨⟨o,oc,a,ac,c,cc,l,lc,g,gc⟩,rfl,HX.o _ (bel _ _ _ _ _ _),rfl,rfl,⟨rfl,.inl rfl,.inl rfl,.inl rfl⟩,bel _ _ _ _ _ _⟩
  by_cases hfull:150<=cs.length
  ·have x4:(150:Int)<=(cs.length:Int):=by omega
   have HE:Hid _:=i6.o x hx0 hfull;go_wp2
   refine bodyPost_ret (by simp [results,results144,go_sem,H,I,J,m,i,M];try rfl) rfl ?_
   refine ⟨x,b1.o,?_⟩;rw [HE.o]
   have bel:=Ax (R:=(w.heap.size+1)) (by omega) a3.o
   exact ⟨⟨o,oc,a,ac,c,cc,l,lc,g,gc⟩,rfl,HX.o _ (bel _ _ _ _ _ _),rfl,rfl,⟨rfl,.inl rfl,.inl rfl,.inl rfl⟩,bel _ _ _ _ _ _⟩
  have x4:¬ (150:Int)<=(cs.length:Int):=by omega
  have l9:Hid _:=h6.o x hx0 hfull;have n5:Hid _:=a5.o x hx0 hfull;have n7:Hid _:=D.o x hx0 hfull;clear i5 i6 h6 a5 D;go_upto_region 6 with fail
  go_cut [7,8,9] (fun v7 v8 v9 wd=>∃ (X:Nat) (ea:Option Addr) (ek:Nat),v7=.pointer (some (qzA X 0))/\v8=.slice ea E.length ek/\v9=.bool O1/\CB X 0 C wd/\C8 wd ea E/\z.heap.size<=X/\X<wd.heap.size/\BW z wd)
  case first =>
   have d:Hid (∀ u,BW z u->u.cell? ⟨w.heap.size,0,none⟩=some (qzI td)/\u.cell? (qzA n 0)=some (qzI n0)/\u.cell? (qzA n 1)=some (qzI n1)/\u.cell? (qzA n 2)=some (qzI n2)/\u.cell? (qzA n 3)=some (qzI n3)):=fun u h=>by
    have l0:=World.block_lt_of_cell? z _ N;obtain ⟨e0,e1,e2,e3⟩:=b6.o u (next a3.o h);exact ⟨(h.cell (p:=⟨w.heap.size,0,none⟩) l0).trans N,e0,e1,e2,e3⟩
   have k0:BW z z:=bR;obtain ⟨e0,e1,e2,e3⟩:=b6.o z a3.o;clear H I J m i M p0 p1 p2 p3 p4 p5 W Z s2 s3 s4 s5 t1 t2 t3 t4 t5
   go_region_held3 (fun u=>u.cell? ⟨w.heap.size,0,none⟩=some (qzI td)/\u.cell? (qzA n 0)=some (qzI n0)/\u.cell? (qzA n 1)=some (qzI n1)/\u.cell? (qzA n 2)=some (qzI n2)/\u.cell? (qzA n 3)=some (qzI n3)) (first | with_reducible exact d.o _ q | with_reducible exact d.o _ k0 | with_reducible exact d.o _ k0.drew | with_reducible exact d.o _ (k0.alloc nL _) | with_reducible exact d.o _ ((k0.alloc nL _).drew) | with_reducible exact d.o _ (q.alloc q.size _) | exact d.o _ (Cp C q nL)) ((first
    | (go_at_call 181;(with_reducible refine Calls.mono (r.o z.drew) ?_);rintro e T ⟨ea,ek,rfl,he,bb⟩;have q:BW z T:=Below.trans ((Below.refl z.heap.size z).drew) bb)
    | (go_at_call 181;(with_reducible refine Calls.mono (r.o (z.alloc (.cells #[.int .i64 0,.int .i64 0,.int .i64 0,.int .i64 0,.int .i64 0,.int .i64 0,.int .i64 0,.int .i64 0,.int .i64 0,.bool false,.int .i64 0,.int .i64 0] 61)).drew) ?_);rintro e T ⟨ea,ek,rfl,he,bb⟩;obtain ⟨r7,x5,x3⟩:=Qf bb;have l1:Hid _:=r7;obtain ⟨g0,g1,g2,g3,g4,g5,g6,g7,g8,g9,x1,x2⟩:=r7;obtain ⟨m0,m1,m2,m3,m4,m5,m6,m7,m8,m9,y1,y2⟩:=x5;simp only [Nat.zero_add] at g0 g1 g2 g3 g4 g5 g6 g7 g8 g9 x1 x2 m0 m1 m2 m3 m4 m5 m6 m7 m8 m9 y1 y2;have q:BW z T:=Below.trans ((Below.refl z.heap.size z).alloc nL (.cells #[.int .i64 0,.int .i64 0,.int .i64 0,.int .i64 0,.int .i64 0,.int .i64 0,.int .i64 0,.int .i64 0,.int .i64 0,.bool false,.int .i64 0,.int .i64 0] 61)) (x3.mono (Nat.le_succ _)))))
   ·go_wp2_with fail
    go_meet;have h1:=q.alloc q.size (.cells #[qzI C.iss,qzI C.acq,qzI C.cur,qzI C.am,qzI C.st,qzI C.rsn,qzI C.cl,qzI C.bk,qzI C.fee,.bool C.cop,qzI C.sta,qzI C.due] 61)
    exact ⟨T.heap.size,ea,ek,rfl,rfl,rfl,CB.new T C _,Hk (he.alloc _),q.size,by simp,h1⟩
   ·go_wp2_with fail
    go_meet
    have x6:z.heap.size<(z.alloc (.cells #[qzI 0,qzI 0,qzI 0,qzI 0,qzI 0,qzI 0,qzI 0,qzI 0,qzI 0,.bool false,qzI 0,qzI 0] 61)).drew.heap.size:=by simp
    exact ⟨z.heap.size,ea,ek,rfl,rfl,rfl,Mb l1.o,Hk (N6 C he x6),nL,by have h:=l1.o.lt;simpa using h,Cp C q nL⟩
  case rest =>
   obtain ⟨X,ea,ek,rfl,rfl,rfl,r6,r8,x9,t9,bc⟩:=hcut;have j4:Hid (Z6 w.heap.size (qzI td) (.slice o fo.length oc) (.slice a az.length ac) (.slice c cs.length cc) (.slice l ls.length lc) (.slice g lg.length gc) wc):=j3.o.below bc;have i9:Hid (Z6 (w.heap.size+1) (qzI 0) (.slice none 0 0) (.slice none 0 0) (.slice none 0 0) (.slice none 0 0) (.slice none 0 0) wc):=i8.o.below bc;have h2:Hid (BW w wc):=next a3.o bc;have k3:Hid (CB X 0 C wc):=r6;have l2:Hid (C8 wc ea E):=r8
   have h8:Hid (w.heap.size+1<X/\X<wc.heap.size):=⟨by have:=n9.o;omega,t9⟩
   clear N t1 t2 t3 t4 t5 W Z s2 s3 s4 s5 H I J m i M p0 p1 p2 p3 p4 p5 bc r6 r8 x9 t9 j3 i8 a3 n9 r b6;obtain ⟨N,t1,t2,t3,t4,t5,W,Z,s2,s3,s4,s5⟩:=j4.o;obtain ⟨H,I,J,m,i,M,p0,p1,p2,p3,p4,p5⟩:=i9.o
   cases O1
   ·have HE:Hid _:=l9.o rfl
    go_wp2
    refine bodyPost_ret (by simp [results,results144,go_sem,H,I,J,m,i,M];try rfl) rfl ?_
    refine ⟨x,b1.o,?_⟩;rw [HE.o]
    have bel:=Ax (R:=(w.heap.size+1)) (by omega) h2.o
    exact ⟨⟨o,oc,a,ac,c,cc,l,lc,g,gc⟩,rfl,HX.o _ (bel _ _ _ _ _ _),rfl,rfl,⟨rfl,.inl rfl,.inl rfl,.inl rfl⟩,bel _ _ _ _ _ _⟩
   go_wp2_with fail
   refine Calls.mono (a6.o wc ea ek h2.o l2.o) ?_;rintro e T ⟨la,lk,rfl,lo,b2⟩;obtain ⟨u3,c9⟩:∃ u,u=T.alloc (.cells #[.slice la A.length lk] 29):=⟨_,rfl⟩
   have b3:BW T u3:=by rw [c9];exact bR.alloc nL _
   have b9:=next b2 b3;have j5:Hid (Z6 w.heap.size (qzI td) (.slice o fo.length oc) (.slice a az.length ac) (.slice c cs.length cc) (.slice l ls.length lc) (.slice g lg.length gc) u3):=j4.o.below b9;have j0:Hid (Z6 (w.heap.size+1) (qzI 0) (.slice none 0 0) (.slice none 0 0) (.slice none 0 0) (.slice none 0 0) (.slice none 0 0) u3):=i9.o.below b9;have h3:Hid (BW w u3):=next h2.o b9;have k4:Hid (CB X 0 C u3):=k3.o.below b9
   have h4:Hid (u3.cell? ⟨T.heap.size,0,none⟩=some (.slice la A.length lk)):=by rw [Hid,c9];simp
   have l5:Hid (Ai u3 la A):=Df (Av lo b3)
   have b5:Hid (Cm la (w.heap.size+1+1)):=fun x hx=>by have:=Cw lo x hx;have:=h8.o;omega
   have a7:Hid (w.heap.size+1<X/\X<T.heap.size/\T.heap.size<u3.heap.size):=⟨h8.o.1,by have:=h8.o.2;have:=b2.size;omega,by rw [c9];simp⟩
   have o1:Hid _:=c9;obtain ⟨Y,hY⟩:∃ Y,T.heap.size=Y:=⟨_,rfl⟩;rw [hY] at h4 a7;have o8:Hid _:=hY;clear N t1 t2 t3 t4 t5 W Z s2 s3 s4 s5 H I J m i M p0 p1 p2 p3 p4 p5 b2 b3 b9 lo c9 hY j4 i9 h2 k3 l2 h8 a6;go_upto_region 10 with fail
   rw [<- o1.o,o8.o];clear o1 o8;obtain ⟨N,t1,t2,t3,t4,t5,W,Z,s2,s3,s4,s5⟩:=j5.o;obtain ⟨H,I,J,m,i,M,p0,p1,p2,p3,p4,p5⟩:=j0.o
   cases O2
   ·have HE:Hid _:=n5.o (by first | rfl | trivial) (by first | rfl | trivial)
    go_wp2
    refine bodyPost_ret (by simp [results,results144,go_sem,H,I,J,m,i,M];try rfl) rfl ?_
    refine ⟨x,b1.o,?_⟩;rw [HE.o]
    have bel:=Ax (R:=(w.heap.size+1)) (by omega) h3.o
    exact ⟨⟨o,oc,a,ac,c,cc,l,lc,g,gc⟩,rfl,HX.o _ (bel _ _ _ _ _ _),rfl,rfl,⟨rfl,.inl rfl,.inl rfl,.inl rfl⟩,bel _ _ _ _ _ _⟩
   have HE:Hid _:=n7.o (by first | rfl | trivial) (by first | rfl | trivial)
   clear l9 n5 n7;go_wp2_with fail
   refine Calls.mono (b8.o u3 x h3.o) ?_;rintro e u4 ⟨ua,uk,rfl,uo,b4⟩;obtain ⟨L,hL⟩:∃ L,F.use az x=L:=⟨_,rfl⟩;rw [hL] at uo HE ⊢;have j6:Hid (Z6 w.heap.size (qzI td) (.slice o fo.length oc) (.slice a az.length ac) (.slice c cs.length cc) (.slice l ls.length lc) (.slice g lg.length gc) u4):=j5.o.below b4;have j1:Hid (Z6 (w.heap.size+1) (qzI 0) (.slice none 0 0) (.slice none 0 0) (.slice none 0 0) (.slice none 0 0) (.slice none 0 0) u4):=j0.o.below b4;have k1:Hid (BW w u4):=next h3.o b4;have k6:Hid (CB X 0 C u4):=k4.o.below b4;have i4:Hid (u4.cell? (qzA Y 0)=some (.slice la A.length lk)):=(b4.cell (p:=(qzA Y 0)) (World.block_lt_of_cell? u3 _ h4.o)).trans h4.o;have i0:Hid (Ai u4 la A):=l5.o.below b4
   have o5:Hid (u4.ownsRow (w.heap.size+1+1) 107 6 (.slice ua L.length uk) L.length (Ah L)):=Bi uo (by have:=a7.o;omega)
   have a8:Hid (w.heap.size+1<X/\X<Y/\Y<u4.heap.size):=⟨a7.o.1,a7.o.2.1,by have:=a7.o.2.2;have:=b4.size;omega⟩
   clear N t1 t2 t3 t4 t5 W Z s2 s3 s4 s5 H I J m i M p0 p1 p2 p3 p4 p5 b4 uo hL j5 j0 h3 k4 h4 l5 a7 b8;obtain ⟨N,t1,t2,t3,t4,t5,W,Z,s2,s3,s4,s5⟩:=j6.o;obtain ⟨H,I,J,m,i,M,p0,p1,p2,p3,p4,p5⟩:=j1.o;go_upto_region 14 with fail
   obtain ⟨f,t⟩:∃ u,u=u4.setCell ⟨w.heap.size,2,none⟩ (.slice ua L.length uk):=⟨_,rfl⟩
   have h9:Hid (Z6 w.heap.size (qzI td) (.slice o fo.length oc) (.slice ua L.length uk) (.slice c cs.length cc) (.slice l ls.length lc) (.slice g lg.length gc) f):=by rw [Hid,t];exact j6.o.set2 _
   have w6:Hid (Z6 (w.heap.size+1) (qzI 0) (.slice none 0 0) (.slice none 0 0) (.slice none 0 0) (.slice none 0 0) (.slice none 0 0) f):=by rw [Hid,t];exact j1.o.far (by omega)
   have k2:Hid (BW w f):=by rw [Hid,t];exact k1.o.setCell nL _
   have v2:Hid (CB X 0 C f):=by rw [Hid,t];exact k6.o.grown (An _ _ _ _) (by have:=a8.o;simp;omega)
   have l4:Hid (f.cell? (qzA Y 0)=some (.slice la A.length lk)):=by
    rw [Hid,t]
    exact ((An u4 w.heap.size 2 _).cell_far (qzA Y 0) (World.block_lt_of_cell? u4 _ i4.o) (by have:=a8.o;simp;omega)).trans i4.o
   have l6:Hid (Ai f la A):=by rw [Hid,t];exact i0.o.far (An _ _ _ _) (fun Q hQ=>by cases hQ;exact Bb b5.o (by omega))
   have o6:Hid (f.ownsRow (w.heap.size+1+1) 107 6 (.slice ua L.length uk) L.length (Ah L)):=by rw [Hid,t];exact Ad o5.o (by omega)
   have b7:Hid (w.heap.size+1<X/\X<Y/\Y<f.heap.size):=⟨a8.o.1,a8.o.2.1,by rw [t];simpa using a8.o.2.2⟩
   have i3:Hid (∀ u,BW f u->A0 u c cs):=fun u h=>(HX.o u (next k2.o h)).cs
   rw [<- t];clear t N t1 t2 t3 t4 t5 W Z s2 s3 s4 s5 H I J m i M p0 p1 p2 p3 p4 p5 j6 j1 k1 k6 i4 i0 o5 a8
   go_cut [5] (fun v5 wz=>v5=qzI 0/\∃ (gb s:Nat),Z6 w.heap.size (qzI td) (.slice o fo.length oc) (.slice ua L.length uk) (.slice (some (qzA gb 0)) (cs.length+1) s) (.slice l ls.length lc) (.slice g lg.length gc) wz/\Z6 (w.heap.size+1) (qzI 0) (.slice none 0 0) (.slice none 0 0) (.slice none 0 0) (.slice none 0 0) (.slice none 0 0) wz/\BW w wz/\wz.ownsRow f.heap.size 61 12 (.slice (some (qzA gb 0)) (cs.length+1) s) (cs.length+1) (Aj (cs++[C]))/\Ai wz la A/\wz.cell? (qzA Y 0)=some (.slice la A.length lk)/\wz.ownsRow (w.heap.size+1+1) 107 6 (.slice ua L.length uk) L.length (Ah L))
   case first =>
    have d:Hid (∀ u,BW f u->u.cell? ⟨w.heap.size,3,none⟩=some (.slice c cs.length cc)/\u.cell? (qzA X 0)=some (qzI C.iss)/\u.cell? (qzA X 1)=some (qzI C.acq)/\u.cell? (qzA X 2)=some (qzI C.cur)/\u.cell? (qzA X 3)=some (qzI C.am)/\u.cell? (qzA X 4)=some (qzI C.st)/\u.cell? (qzA X 5)=some (qzI C.rsn)/\u.cell? (qzA X 6)=some (qzI C.cl)/\u.cell? (qzA X 7)=some (qzI C.bk)/\u.cell? (qzA X 8)=some (qzI C.fee)/\u.cell? (qzA X 9)=some (.bool C.cop)/\u.cell? (qzA X 10)=some (qzI C.sta)/\u.cell? (qzA X 11)=some (qzI C.due)):=fun u h=>by
     obtain ⟨d0,d1,d2,d3,d4,d5,d6,d7,d8,d9,j7,j8⟩:=v2.o.below h
     simp only [Nat.zero_add] at d0 d1 d2 d3 d4 d5 d6 d7 d8 d9 j7 j8
     exact ⟨(h9.o.below h).c3,d0,d1,d2,d3,d4,d5,d6,d7,d8,d9,j7,j8⟩
    have k9:Hid (CB (f.heap.size+1) 0 C ((f.alloc (.cells #[] 61)).alloc (.cells #[qzI C.iss,qzI C.acq,qzI C.cur,qzI C.am,qzI C.st,qzI C.rsn,qzI C.cl,qzI C.bk,qzI C.fee,.bool C.cop,qzI C.sta,qzI C.due] 61))):=rF f C;have k8:Hid (CB f.heap.size 0 C ((f.alloc (.cells #[qzI C.iss,qzI C.acq,qzI C.cur,qzI C.am,qzI C.st,qzI C.rsn,qzI C.cl,qzI C.bk,qzI C.fee,.bool C.cop,qzI C.sta,qzI C.due] 61)).alloc (.cells #[] 61))):=(CB.new f C _).below (bR.alloc nL _);have k0:BW f f:=bR
    have l3:Hid (∀ (B:World) (gb s:Nat),BW f B->B.ownsRow f.heap.size 61 12 (.slice (some (qzA gb 0)) (cs.length+1) s) (cs.length+1) (Aj cs++Aj [C])->Z6 w.heap.size (qzI td) (.slice o fo.length oc) (.slice ua L.length uk) (.slice (some (qzA gb 0)) (cs.length+1) s) (.slice l ls.length lc) (.slice g lg.length gc) (B.setCell ⟨w.heap.size,3,none⟩ (.slice (some (qzA gb 0)) (cs.length+1) s))/\Z6 (w.heap.size+1) (qzI 0) (.slice none 0 0) (.slice none 0 0) (.slice none 0 0) (.slice none 0 0) (.slice none 0 0) (B.setCell ⟨w.heap.size,3,none⟩ (.slice (some (qzA gb 0)) (cs.length+1) s))/\Below w.heap.size w (B.setCell ⟨w.heap.size,3,none⟩ (.slice (some (qzA gb 0)) (cs.length+1) s))/\(B.setCell ⟨w.heap.size,3,none⟩ (.slice (some (qzA gb 0)) (cs.length+1) s)).ownsRow f.heap.size 61 12 (.slice (some (qzA gb 0)) (cs.length+1) s) (cs.length+1) (Aj (cs++[C]))/\Ai (B.setCell ⟨w.heap.size,3,none⟩ (.slice (some (qzA gb 0)) (cs.length+1) s)) la A/\(B.setCell ⟨w.heap.size,3,none⟩ (.slice (some (qzA gb 0)) (cs.length+1) s)).cell? (qzA Y 0)=some (.slice la A.length lk)/\(B.setCell ⟨w.heap.size,3,none⟩ (.slice (some (qzA gb 0)) (cs.length+1) s)).ownsRow (w.heap.size+1+1) 107 6 (.slice ua L.length uk) L.length (Ah L)):=fun B gb s i o4=>by
     have hy:=(i.cell (p:=(qzA Y 0)) (World.block_lt_of_cell? f _ l4.o)).trans l4.o
     refine ⟨(h9.o.below i).set3 _,(w6.o.below i).far (by omega),(next k2.o i).setCell nL _,?_,(l6.o.below i).far (An _ _ _ _) (fun Q hQ=>by cases hQ;exact Bb b5.o (by omega)),((An B w.heap.size 3 _).cell_far (qzA Y 0) (World.block_lt_of_cell? B _ hy) (by have:=b7.o;simp;omega)).trans hy,Ad (Av o6.o i) (by omega)⟩
     rw [J5]
     exact Ad o4 (by have:=b7.o;omega)
    obtain ⟨y3,d0,d1,d2,d3,d4,d5,d6,d7,d8,d9,j7,j8⟩:=d.o f k0
    have j:∀ o,Below f.heap.size f (f.alloc o):=fun o=>bR.alloc nL _
    have r2:∀ o o',Below f.heap.size f ((f.alloc o).alloc o'):=fun o o'=>(bR.alloc nL _).alloc (by simp) _
    have D3:=fun o=>(d.o _ (j o)).1
    have D4:=fun o o'=>(d.o _ (r2 o o')).1
    have A1:=fun o=>(d.o _ (j o)).2.1
    have B1:=fun o=>(d.o _ (j o)).2.2.1
    have B3:=fun o=>(d.o _ (j o)).2.2.2.1
    have B5:=fun o=>(d.o _ (j o)).2.2.2.2.1
    have B8:=fun o=>(d.o _ (j o)).2.2.2.2.2.1
    have C1:=fun o=>(d.o _ (j o)).2.2.2.2.2.2.1
    have C2:=fun o=>(d.o _ (j o)).2.2.2.2.2.2.2.1
    have C3:=fun o=>(d.o _ (j o)).2.2.2.2.2.2.2.2.1
    have C4:=fun o=>(d.o _ (j o)).2.2.2.2.2.2.2.2.2.1
    have D1:=fun o=>(d.o _ (j o)).2.2.2.2.2.2.2.2.2.2.1
    have y6:=fun o=>(d.o _ (j o)).2.2.2.2.2.2.2.2.2.2.2.1
    have y7:=fun o=>(d.o _ (j o)).2.2.2.2.2.2.2.2.2.2.2.2
    clear j r2
    go_region_law (first
     | (refine Cv rfl (.tmp 77) (.tmp 79) rfl f.heap.size (.slice (some ⟨f.heap.size,0,none⟩) 0 0) 0 [] (by simp [Act.eval]) (Av (mM f) bR.drew) c cc cs (by simp [Act.eval]) (i3.o _ (by go_grown)) (by omega) (by simp;done) ?_
        intro v3 w3 o3 g3 n3;rw [Nat.zero_add,List.nil_append] at o3
        obtain ⟨ga,ca,h0⟩:=Jq o3 (n3 (by simp))
        subst h0
        have m:BW f w3:=Below.grown (by go_grown) g3 (by simp;done) (fun k hk=>by simp [Value.ownBlock] at hk;omega)
        have a4:Hid (w3.ownsRow f.heap.size 61 12 (.slice (some (qzA ga 0)) cs.length ca) cs.length (Aj cs)):=o3;obtain ⟨u9,o9,p6,p7,p8,p9,q6,q7,q8,q9,r1,i1,i2⟩:=d.o _ m;have a9:=m.size;clear o3 g3 n3)
     | (refine Cv rfl (.tmp 77) (.tmp 79) rfl f.heap.size (.slice (some ⟨f.heap.size,0,none⟩) 0 0) 0 [] (by simp [Act.eval]) (Av ((mM f).alloc _) bR.drew) c cc cs (by simp [Act.eval]) (i3.o _ (by go_grown)) (by omega) (by simp;omega) ?_
        intro v3 w3 o3 g3 n3;rw [Nat.zero_add,List.nil_append] at o3
        obtain ⟨ga,ca,h0⟩:=Jq o3 (n3 (by simp))
        subst h0
        have m:BW f w3:=Below.grown (by go_grown) g3 (by simp;omega) (fun k hk=>by simp [Value.ownBlock] at hk;omega)
        have C0:Hid (A0 w3 (some ⟨f.heap.size+1,0,none⟩) [C]):=J3 (((k9.o.below (bR.drew))).grown g3 (by simp [Value.ownBlock]))
        have a4:Hid (w3.ownsRow f.heap.size 61 12 (.slice (some (qzA ga 0)) cs.length ca) cs.length (Aj cs)):=o3;obtain ⟨u9,o9,p6,p7,p8,p9,q6,q7,q8,q9,r1,i1,i2⟩:=d.o _ m;have a9:=m.size;clear o3 g3 n3)
     | (refine Cv rfl (.tmp 77) (.tmp 79) rfl f.heap.size (.slice (some ⟨f.heap.size+1,0,none⟩) 0 0) 0 [] (by simp [Act.eval]) (Av (qK f C) bR.drew) c cc cs (by simp [Act.eval]) (i3.o _ (by go_grown)) (by omega) (by simp;omega) ?_
        intro v3 w3 o3 g3 n3;rw [Nat.zero_add,List.nil_append] at o3
        obtain ⟨ga,ca,h0⟩:=Jq o3 (n3 (by simp))
        subst h0
        have m:BW f w3:=Below.grown (by go_grown) g3 (by simp;omega) (fun k hk=>by simp [Value.ownBlock] at hk;omega)
        have C0:Hid (A0 w3 (some ⟨f.heap.size,0,none⟩) [C]):=J3 (((k8.o.below (bR.drew))).grown g3 (by simp [Value.ownBlock]))
        have a4:Hid (w3.ownsRow f.heap.size 61 12 (.slice (some (qzA ga 0)) cs.length ca) cs.length (Aj cs)):=o3;obtain ⟨u9,o9,p6,p7,p8,p9,q6,q7,q8,q9,r1,i1,i2⟩:=d.o _ m;have a9:=m.size;clear o3 g3 n3)
     | (refine Cv rfl (.tmp 80) (.tmp 82) rfl f.heap.size (.slice (some ⟨ga,0,none⟩) cs.length ca) cs.length (Aj cs) (by simp [Act.eval]) (Av a4.o (by first | exact bR | go_grown)) _ 1 [C] (by simp [Act.eval];try rfl) (C0.o.below (by first | exact bR | go_grown)) (by simp;omega) (by first | exact a9 | (simp;omega)) ?_
        intro v4 B o4 g4 n4
        obtain ⟨gb,s,j9⟩:=Jq o4 (n4 (by simp))
        subst j9
        have i:BW f B:=Below.grown (m.trans (Below.mono (by first | exact bR | go_grown) a9)) g4 (by first | exact a9 | (simp;omega)) (fun k hk=>(a4.o.lt k hk).1)
        have l7:Hid (B.ownsRow f.heap.size 61 12 (.slice (some (qzA gb 0)) (cs.length+1) s) (cs.length+1) (Aj cs++Aj [C])):=o4;have x7:=i.size;have V:=h9.o.below i;have y4:=V.c3;have y5:=V.z3
        simp only [List.length_singleton]
        clear o4 g4 n4 V)
     | (refine Cv rfl (.tmp 80) (.tmp 82) rfl f.heap.size (.slice (some ⟨ga,0,none⟩) cs.length ca) cs.length (Aj cs) (by simp [Act.eval]) (Av a4.o (by first | exact bR | go_grown)) (some ⟨w3.heap.size,0,none⟩) 1 [C] (by simp [Act.eval];try rfl) (J3 (CB.new w3 C _)) (by simp;omega) (by simp;omega) ?_
        intro v4 B o4 g4 n4
        obtain ⟨gb,s,j9⟩:=Jq o4 (n4 (by simp))
        subst j9
        have i:BW f B:=Below.grown (m.trans (Below.mono (by first | exact bR | go_grown) a9)) g4 (by simp;omega) (fun k hk=>(a4.o.lt k hk).1)
        have l7:Hid (B.ownsRow f.heap.size 61 12 (.slice (some (qzA gb 0)) (cs.length+1) s) (cs.length+1) (Aj cs++Aj [C])):=o4;have x7:=i.size;have V:=h9.o.below i;have y4:=V.c3;have y5:=V.z3
        simp only [List.length_singleton]
        clear o4 g4 n4 V)
     | fail)
    all_goals
     go_wp2_with fail
     go_meet;exact ⟨rfl,gb,s,l3.o _ gb s i l7.o⟩
   case rest =>
    obtain ⟨rfl,gb,s,u6,s7,r5,s6,r9,y0,s9⟩:=hcut;have y9:Hid _:=u6;have w7:Hid (Z6 (w.heap.size+1) (qzI 0) (.slice none 0 0) (.slice none 0 0) (.slice none 0 0) (.slice none 0 0) (.slice none 0 0) wc):=s7;have v0:Hid (BW w wc):=r5;have w2:Hid (wc.ownsRow f.heap.size 61 12 (.slice (some (qzA gb 0)) (cs.length+1) s) (cs.length+1) (Aj (cs++[C]))):=s6;have w0:Hid (Ai wc la A):=r9;have w9:Hid (wc.ownsRow (w.heap.size+1+1) 107 6 (.slice ua L.length uk) L.length (Ah L)):=s9;obtain ⟨N,t1,t2,t3,t4,t5,W,Z,s2,s3,s4,s5⟩:=u6;clear s7 r5 s6 r9 s9;obtain ⟨u7,G⟩:∃ u,u=wc.setCell ⟨w.heap.size,4,none⟩ (.slice la A.length lk):=⟨_,rfl⟩
    have x0:Hid (Z6 w.heap.size (qzI td) (.slice o fo.length oc) (.slice ua L.length uk) (.slice (some (qzA gb 0)) (cs.length+1) s) (.slice la A.length lk) (.slice g lg.length gc) u7):=by rw [Hid,G];exact Z6.set4 ⟨N,t1,t2,t3,t4,t5,W,Z,s2,s3,s4,s5⟩ _
    have w8:Hid (Z6 (w.heap.size+1) (qzI 0) (.slice none 0 0) (.slice none 0 0) (.slice none 0 0) (.slice none 0 0) (.slice none 0 0) u7):=by rw [Hid,G];exact w7.o.far (by omega)
    have v1:Hid (BW w u7):=by rw [Hid,G];exact v0.o.setCell nL _
    have l8:Hid (u7.ownsRow f.heap.size 61 12 (.slice (some (qzA gb 0)) (cs.length+1) s) (cs.length+1) (Aj (cs++[C]))):=by rw [Hid,G];exact Ad w2.o (by have:=b7.o;omega)
    have w1:Hid (Ai u7 la A):=by rw [Hid,G];exact w0.o.far (An _ _ _ _) (fun Q hQ=>by cases hQ;exact Bb b5.o (by omega))
    have o2:Hid (u7.ownsRow (w.heap.size+1+1) 107 6 (.slice ua L.length uk) L.length (Ah L)):=by rw [Hid,G];exact Ad w9.o (by omega)
    have o7:Hid _:=G;clear G;go_upto_region 16 with fail
    rw [<- o7.o];clear o7 N t1 t2 t3 t4 t5 W Z s2 s3 s4 s5 y0;obtain ⟨N,t1,t2,t3,t4,t5,W,Z,s2,s3,s4,s5⟩:=x0.o;obtain ⟨H,I,J,m,i,M,p0,p1,p2,p3,p4,p5⟩:=w8.o;go_wp2
    refine bodyPost_ret (by simp [results,results144,go_sem,H,I,J,m,i,M];try rfl) rfl ?_
    refine ⟨x,b1.o,?_⟩;rw [HE.o]
    have bel:=Ax (R:=(w.heap.size+1)) (by omega) v1.o
    have hX:=HX.o _ (bel (qzI td) (.slice o fo.length oc) (.slice ua L.length uk) (.slice (some (qzA gb 0)) (cs.length+1) s) (.slice la A.length lk) (.slice g lg.length gc))
    have y8:(cs++[C]).length=cs.length+1:=by simp
    refine ⟨⟨o,oc,ua,uk,some (qzA gb 0),s,la,lk,g,gc⟩,by simp [C5],⟨hX.off,Fd (Ea o2.o (by omega) _ _ _ _ _ _),F2 (Ea l8.o (by have:=b7.o;omega) _ _ _ _ _ _),Rc w1.o (Bb b5.o (by omega)) _ _ _ _ _ _,hX.log⟩,rfl,rfl,⟨rfl,.inr (fun y hy=>by have:=Cw o2.o y hy;omega),.inr (fun y hy=>by have:=Cw l8.o y hy;have:=b7.o;omega),.inr (fun y hy=>by have:=b5.o y hy;omega)⟩,bel _ _ _ _ _ _⟩
end Go.Proofs.YtomiclakhjncbaaGreatDoor
