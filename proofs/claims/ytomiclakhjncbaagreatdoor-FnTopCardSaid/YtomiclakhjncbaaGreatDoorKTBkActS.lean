import Derived.Test.YtomiclakhjncbaaGreatDoorJT2a
namespace Go.Proofs.YtomiclakhjncbaaGreatDoor
open Go.RowKit Go.Proofs.Tryz
set_option maxRecDepth 100000
set_option maxHeartbeats 12800000
theorem kC (F:Ff) (K:Nc F) (b:Bk) (p:Bp) (i:Int) (x:Ac) (w:World) (hx:Aq w b p) (hn:D0 b) :
  Calls prog 146 #[C5 b p,qzI i,av x] w (U8 w p (Ja F b i x).1 (Ja F b i x).2):=by
 unfold av
 have HX:Hid (∀ u,BW w u->Aq u b p):=fun u h=>hx.below h
 have HN:Hid (D0 b):=hn;clear hx hn;obtain ⟨td,n,az,cs,ls,lg⟩:=b;obtain ⟨o,oc,a,ac,c,cc,l,lc,g,gc⟩:=p;unfold C5
 simp only
 obtain ⟨q,M⟩:∃ u,u=((w.alloc (.cells #[qzI td,.slice o n.length oc,.slice a az.length ac,.slice c cs.length cc,.slice l ls.length lc,.slice g lg.length gc] 31)).alloc (.cells #[qzI x.kind,qzI x.am,qzI x.rsn] 165)).alloc (.cells qzB 31):=⟨_,rfl⟩
 have H:Hid (BW w q):=by rw [Hid,M];go_grown
 have r1:Hid ((w.heap.size+1+1)<q.heap.size):=by rw [Hid,M];simp
 have h8:Hid (Z6 w.heap.size (qzI td) (.slice o n.length oc) (.slice a az.length ac) (.slice c cs.length cc) (.slice l ls.length lc) (.slice g lg.length gc) q):=by
  rw [Hid,M];exact ((Z6.new w (qzI td) (.slice o n.length oc) (.slice a az.length ac) (.slice c cs.length cc) (.slice l ls.length lc) (.slice g lg.length gc) 31).below (bR.alloc nL _)).below (bR.alloc nL _)
 have h0:Hid (Z6 (w.heap.size+1+1) (qzI 0) (.slice none 0 0) (.slice none 0 0) (.slice none 0 0) (.slice none 0 0) (.slice none 0 0) q):=by
  have h:=Z6.new ((w.alloc (.cells #[qzI td,.slice o n.length oc,.slice a az.length ac,.slice c cs.length cc,.slice l ls.length lc,.slice g lg.length gc] 31)).alloc (.cells #[qzI x.kind,qzI x.am,qzI x.rsn] 165)) (qzI 0) (.slice none 0 0) (.slice none 0 0) (.slice none 0 0) (.slice none 0 0) (.slice none 0 0) 31
  rw [Hid,M];simpa using h
 have j5:Hid _:=M
 have i3:Hid (q.cell? ⟨w.heap.size+1,0,none⟩=some (qzI x.kind)/\q.cell? ⟨w.heap.size+1,1,none⟩=some (qzI x.am)/\q.cell? ⟨w.heap.size+1,2,none⟩=some (qzI x.rsn)):=by
  rw [Hid,M];simp [go_sem]
 clear M
 have v7:cs.length<=1048576:=by have:=HN.o.2.2.1;simpa using this
 go_enter func146,ntmps146
 go_upto_region 1 with fail
 rw [<- j5.o];clear j5;obtain ⟨t0,t1,t2,t3,t4,t5,s0,s1,s2,s3,s4,s5⟩:=h8.o;obtain ⟨T,U,W,Z,q4,q5,p0,p1,p2,p3,p4,p5⟩:=h0.o;obtain ⟨y0,y1,y2⟩:=i3.o
 by_cases hi:0<=i/\i<=(cs.length:Int) - 1
 case neg =>
  have HE:Hid _:=@cE F ⟨td,n,az,cs,ls,lg⟩ i x hi
  have i2:Gk i 0 ((cs.length:Int) - 1)=false:=by simp [Gk];omega
  go_wp2_with (go_at_call 134;refine (Dl _ _ _ _).mono ?_;rintro e w' ⟨rfl,S⟩;replace S:=S.symm;subst S;rw [i2])
  refine bodyPost_ret (by simp [results,results146,go_sem,T,U,W,Z,q4,q5];try rfl) rfl ?_
  rw [HE.o]
  have bel:=Ax (R:=(w.heap.size+1+1)) (by omega) H.o
  exact ⟨⟨o,oc,a,ac,c,cc,l,lc,g,gc⟩,rfl,HX.o _ (bel _ _ _ _ _ _),rfl,rfl,⟨rfl,.inl rfl,.inl rfl,.inl rfl⟩,bel _ _ _ _ _ _⟩
 have i2:Gk i 0 ((cs.length:Int) - 1)=true:=by simp [Gk];omega
 obtain ⟨k,rfl⟩:=Int.eq_ofNat_of_zero_le hi.1
 have hk:k<cs.length:=by omega
 have a8:Hid _:=@cD F ⟨td,n,az,cs,ls,lg⟩ (k:Int) x hi;have J:Hid _:=@dC F ⟨td,n,az,cs,ls,lg⟩ (k:Int) x hi;have HY:Hid _:=@bE F ⟨td,n,az,cs,ls,lg⟩ (k:Int) x hi
 simp only [Int.toNat_natCast] at a8 J HY
 have b9:Hid (∀ u,BW w u->∃ cb off,c=some (qzA cb off)/\cb<w.heap.size/\CB cb (off+k*12) (A8 cs k) u):=fun u h=>by
  obtain ⟨cb,off,e1,e2,e3⟩:=(HX.o w bR).cs.at hk
  exact ⟨cb,off,e1,e2,by
   have l:=e2;obtain ⟨t0,t1,t2,t3,t4,t5,t6,t7,t8,t9,v1,v3⟩:=e3;exact ⟨(h.cell (p:=(qzA cb (off+k*12))) l).trans t0,(h.cell (p:=(qzA cb (off+k*12+1))) l).trans t1,(h.cell (p:=(qzA cb (off+k*12+2))) l).trans t2,(h.cell (p:=(qzA cb (off+k*12+3))) l).trans t3,(h.cell (p:=(qzA cb (off+k*12+4))) l).trans t4,(h.cell (p:=(qzA cb (off+k*12+5))) l).trans t5,(h.cell (p:=(qzA cb (off+k*12+6))) l).trans t6,(h.cell (p:=(qzA cb (off+k*12+7))) l).trans t7,(h.cell (p:=(qzA cb (off+k*12+8))) l).trans t8,(h.cell (p:=(qzA cb (off+k*12+9))) l).trans t9,(h.cell (p:=(qzA cb (off+k*12+10))) l).trans v1,(h.cell (p:=(qzA cb (off+k*12+11))) l).trans v3⟩⟩
 have y:Hid (∀ u,BW w u->Calls prog 184 #[cv (A8 cs k),av x,qzI td,.slice o n.length oc] u fun e w'=>∃ ao cap,e=.returned (.tuple #[cv (F.doC (A8 cs k) x td n),.slice ao (F.doE (A8 cs k) x td n).length cap,qzI (F.doV (A8 cs k) x td n)])/\w'.ownsRow u.heap.size 269 4 (.slice ao (F.doE (A8 cs k) x td n).length cap) (F.doE (A8 cs k) x td n).length (Ba (F.doE (A8 cs k) x td n))/\BW u w'):=fun u h=>K.act _ x td o oc n u (HX.o u h).off (by have:=HN.o.1;simpa using this)
 have c8:Hid _:=K.few (A8 cs k) x td n;have h6:Hid _:=K.code (A8 cs k) x td n
 have a4:Hid (∀ (u:World) (eo:Option Addr) (ec:Nat),BW w u->C8 u eo (F.doE (A8 cs k) x td n)->Calls prog 182 #[.agg #[.slice l ls.length lc],.slice eo (F.doE (A8 cs k) x td n).length ec] u fun e w'=>∃ ao cap,e=.returned (.tuple #[.agg #[.slice ao (F.all ls (F.doE (A8 cs k) x td n)).length cap],.bool (F.allOk ls (F.doE (A8 cs k) x td n))])/\w'.ownsRow u.heap.size 113 3 (.slice ao (F.all ls (F.doE (A8 cs k) x td n)).length cap) (F.all ls (F.doE (A8 cs k) x td n)).length (Ag (F.all ls (F.doE (A8 cs k) x td n)))/\BW u w'):=fun u eo ec h he=>K.post l lc ls eo ec _ u (HX.o u h).ls (by have:=HN.o.2.2.2.1;simpa using this) he c8.o
 obtain ⟨C,hC⟩:∃ C,A8 cs k=C:=⟨_,rfl⟩;rw [hC] at y a4 a8 J HY c8 h6 b9;obtain ⟨D,hD⟩:∃ D,F.doC C x td n=D:=⟨_,rfl⟩;obtain ⟨E,hE⟩:∃ E,F.doE C x td n=E:=⟨_,rfl⟩;obtain ⟨V,hV⟩:∃ V,F.doV C x td n=V:=⟨_,rfl⟩;rw [hD] at y HY;rw [hE] at y a4 J HY c8;rw [hV] at y a8 J HY h6;obtain ⟨A,hA⟩:∃ A,F.all ls E=A:=⟨_,rfl⟩;obtain ⟨O,hO⟩:∃ O,F.allOk ls E=O:=⟨_,rfl⟩;rw [hA] at a4 HY;rw [hO] at a4 J HY;have w4:=h6.o;clear hC hD hE hV hA hO;obtain ⟨cb,off,rfl,v6,r8⟩:=b9.o q H.o;obtain ⟨iY,aZ,cQ,am,st,rW,cl,bk,fW,cW,sS,dX⟩:=C;obtain ⟨z0,z1,z2,z3,z4,z5,z6,z7,z8,z9,z10,z11⟩:=r8
 simp only at z0 z1 z2 z3 z4 z5 z6 z7 z8 z9 z10 z11
 obtain ⟨xk,xa,xr⟩:=x
 simp only at y0 y1 y2
 unfold cv av at y
 simp only at y
 have w0:(k:Int)<(cs.length:Int):=by omega
 go_upto_region 3 with (go_at_call 134;refine (Dl _ _ _ _).mono ?_;rintro e w' ⟨rfl,S⟩;replace S:=S.symm;subst S;rw [i2])
 go_cut [8,9,10] (fun v8 v9 v10 wc=>∃ (X:Nat) (ea:Option Addr) (ek:Nat),v8=.pointer (some (qzA X 0))/\v9=.slice ea E.length ek/\v10=qzI V/\CB X 0 D wc/\C8 wc ea E/\q.heap.size<=X/\X<wc.heap.size/\BW q wc)
 case first =>
  have L:Hid (∀ u,BW q u->u.cell? ⟨w.heap.size,0,none⟩=some (qzI td)/\u.cell? ⟨w.heap.size,1,none⟩=some (.slice o n.length oc)/\u.cell? ⟨w.heap.size,3,none⟩=some (.slice (some (qzA cb off)) cs.length cc)/\u.cell? ⟨w.heap.size+1,0,none⟩=some (qzI xk)/\u.cell? ⟨w.heap.size+1,1,none⟩=some (qzI xa)/\u.cell? ⟨w.heap.size+1,2,none⟩=some (qzI xr)/\u.cell? (qzA cb (off+k*12))=some (qzI iY)/\u.cell? (qzA cb (off+k*12+1))=some (qzI aZ)/\u.cell? (qzA cb (off+k*12+2))=some (qzI cQ)/\u.cell? (qzA cb (off+k*12+3))=some (qzI am)/\u.cell? (qzA cb (off+k*12+4))=some (qzI st)/\u.cell? (qzA cb (off+k*12+5))=some (qzI rW)/\u.cell? (qzA cb (off+k*12+6))=some (qzI cl)/\u.cell? (qzA cb (off+k*12+7))=some (qzI bk)/\u.cell? (qzA cb (off+k*12+8))=some (qzI fW)/\u.cell? (qzA cb (off+k*12+9))=some (.bool cW)/\u.cell? (qzA cb (off+k*12+10))=some (qzI sS)/\u.cell? (qzA cb (off+k*12+11))=some (qzI dX)):=fun u h=>by
   have l0:=World.block_lt_of_cell? q _ t0;have l1:=World.block_lt_of_cell? q _ y0;have l2:=World.block_lt_of_cell? q _ z0;exact ⟨(h.cell (p:=⟨w.heap.size,0,none⟩) l0).trans t0,(h.cell (p:=⟨w.heap.size,1,none⟩) l0).trans t1,(h.cell (p:=⟨w.heap.size,3,none⟩) l0).trans t3,(h.cell (p:=⟨w.heap.size+1,0,none⟩) l1).trans y0,(h.cell (p:=⟨w.heap.size+1,1,none⟩) l1).trans y1,(h.cell (p:=⟨w.heap.size+1,2,none⟩) l1).trans y2,(h.cell (p:=(qzA cb (off+k*12))) l2).trans z0,(h.cell (p:=(qzA cb (off+k*12+1))) l2).trans z1,(h.cell (p:=(qzA cb (off+k*12+2))) l2).trans z2,(h.cell (p:=(qzA cb (off+k*12+3))) l2).trans z3,(h.cell (p:=(qzA cb (off+k*12+4))) l2).trans z4,(h.cell (p:=(qzA cb (off+k*12+5))) l2).trans z5,(h.cell (p:=(qzA cb (off+k*12+6))) l2).trans z6,(h.cell (p:=(qzA cb (off+k*12+7))) l2).trans z7,(h.cell (p:=(qzA cb (off+k*12+8))) l2).trans z8,(h.cell (p:=(qzA cb (off+k*12+9))) l2).trans z9,(h.cell (p:=(qzA cb (off+k*12+10))) l2).trans z10,(h.cell (p:=(qzA cb (off+k*12+11))) l2).trans z11⟩
  have k0:BW q q:=bR;have q7:Hid (BW w q.drew):=H.o.trans ((bR.drew).mono (H.o.size));have q8:Hid (Below w.heap.size w (q.alloc (.cells #[qzI 0,qzI 0,qzI 0,qzI 0,qzI 0,qzI 0,qzI 0,qzI 0,qzI 0,.bool false,qzI 0,qzI 0] 61)).drew):=H.o.trans (((((Below.refl q.heap.size q).alloc nL _).drew)).mono (H.o.size));clear T U W Z q4 q5 p0 p1 p2 p3 p4 p5 s0 s1 s2 s3 s4 s5 t2 t4 t5 z0 z1 z2 z3 z4 z5 z6 z7 z8 z9 z10 z11
  go_region_held3 (fun u=>u.cell? ⟨w.heap.size,0,none⟩=some (qzI td)/\u.cell? ⟨w.heap.size,1,none⟩=some (.slice o n.length oc)/\u.cell? ⟨w.heap.size,3,none⟩=some (.slice (some (qzA cb off)) cs.length cc)/\u.cell? ⟨w.heap.size+1,0,none⟩=some (qzI xk)/\u.cell? ⟨w.heap.size+1,1,none⟩=some (qzI xa)/\u.cell? ⟨w.heap.size+1,2,none⟩=some (qzI xr)/\u.cell? (qzA cb (off+k*12))=some (qzI iY)/\u.cell? (qzA cb (off+k*12+1))=some (qzI aZ)/\u.cell? (qzA cb (off+k*12+2))=some (qzI cQ)/\u.cell? (qzA cb (off+k*12+3))=some (qzI am)/\u.cell? (qzA cb (off+k*12+4))=some (qzI st)/\u.cell? (qzA cb (off+k*12+5))=some (qzI rW)/\u.cell? (qzA cb (off+k*12+6))=some (qzI cl)/\u.cell? (qzA cb (off+k*12+7))=some (qzI bk)/\u.cell? (qzA cb (off+k*12+8))=some (qzI fW)/\u.cell? (qzA cb (off+k*12+9))=some (.bool cW)/\u.cell? (qzA cb (off+k*12+10))=some (qzI sS)/\u.cell? (qzA cb (off+k*12+11))=some (qzI dX)) (first | with_reducible exact L.o _ z | with_reducible exact L.o _ k0 | with_reducible exact L.o _ k0.drew | with_reducible exact L.o _ (k0.alloc nL _) | with_reducible exact L.o _ ((k0.alloc nL _).drew) | with_reducible exact L.o _ (z.alloc z.size _) | exact L.o _ (Cp D z nL)) ((first
   | (go_at_call 184;(with_reducible refine Calls.mono (y.o q.drew q7.o) ?_);rintro e u2 ⟨ea,ek,rfl,he,bb⟩;have z:BW q u2:=Below.trans ((Below.refl q.heap.size q).drew) bb)
   | (go_at_call 184;(with_reducible refine Calls.mono (y.o (q.alloc (.cells #[.int .i64 0,.int .i64 0,.int .i64 0,.int .i64 0,.int .i64 0,.int .i64 0,.int .i64 0,.int .i64 0,.int .i64 0,.bool false,.int .i64 0,.int .i64 0] 61)).drew q8.o) ?_);rintro e u2 ⟨ea,ek,rfl,he,bb⟩;obtain ⟨l4,r9,r7⟩:=Qf bb;have i6:Hid _:=l4;obtain ⟨g0,g1,g2,g3,g4,g5,g6,g7,g8,f,r5,r6⟩:=l4;obtain ⟨m0,m1,m2,m3,m4,m5,m6,m7,m8,m9,u1,u4⟩:=r9;simp only [Nat.zero_add] at g0 g1 g2 g3 g4 g5 g6 g7 g8 f r5 r6 m0 m1 m2 m3 m4 m5 m6 m7 m8 m9 u1 u4;have z:BW q u2:=Below.trans ((Below.refl q.heap.size q).alloc nL (.cells #[.int .i64 0,.int .i64 0,.int .i64 0,.int .i64 0,.int .i64 0,.int .i64 0,.int .i64 0,.int .i64 0,.int .i64 0,.bool false,.int .i64 0,.int .i64 0] 61)) (r7.mono (Nat.le_succ _)))))
  ·go_wp2_with fail
   go_meet;have h1:=z.alloc z.size (.cells #[qzI D.iss,qzI D.acq,qzI D.cur,qzI D.am,qzI D.st,qzI D.rsn,qzI D.cl,qzI D.bk,qzI D.fee,.bool D.cop,qzI D.sta,qzI D.due] 61)
   exact ⟨u2.heap.size,ea,ek,rfl,rfl,rfl,CB.new u2 D _,Hk (he.alloc _),z.size,by simp,h1⟩
  ·go_wp2_with fail
   go_meet
   have s7:q.heap.size<(q.alloc (.cells #[qzI 0,qzI 0,qzI 0,qzI 0,qzI 0,qzI 0,qzI 0,qzI 0,qzI 0,.bool false,qzI 0,qzI 0] 61)).drew.heap.size:=by simp
   exact ⟨q.heap.size,ea,ek,rfl,rfl,rfl,Mb i6.o,Hk (N6 D he s7),nL,by have h:=i6.o.lt;simpa using h,Cp D z nL⟩
 case rest =>
  obtain ⟨X,ea,ek,rfl,rfl,rfl,l3,l5,s9,l7,bc⟩:=hcut;have i0:Hid (Z6 w.heap.size (qzI td) (.slice o n.length oc) (.slice a az.length ac) (.slice (some (qzA cb off)) cs.length cc) (.slice l ls.length lc) (.slice g lg.length gc) wc):=h8.o.below bc;have h2:Hid (Z6 (w.heap.size+1+1) (qzI 0) (.slice none 0 0) (.slice none 0 0) (.slice none 0 0) (.slice none 0 0) (.slice none 0 0) wc):=h0.o.below bc;have b5:Hid (BW w wc):=next H.o bc;have i4:Hid (CB X 0 D wc):=l3;have i7:Hid (C8 wc ea E):=l5
  have b7:Hid (w.heap.size+1+1<X/\X<wc.heap.size):=⟨by have:=r1.o;omega,l7⟩
  clear t0 t1 t2 t3 t4 t5 s0 s1 s2 s3 s4 s5 T U W Z q4 q5 p0 p1 p2 p3 p4 p5 y0 y1 y2 z0 z1 z2 z3 z4 z5 z6 z7 z8 z9 z10 z11 bc l3 l5 s9 l7 h8 h0 i3 y b9;obtain ⟨t0,t1,t2,t3,t4,t5,s0,s1,s2,s3,s4,s5⟩:=i0.o;obtain ⟨T,U,W,Z,q4,q5,p0,p1,p2,p3,p4,p5⟩:=h2.o
  by_cases hv:V=0
  case neg =>
   have w1:(V != 0)=true:=by simpa using hv
   have w5:IntKind.i64.wrap (10+V)=10+V:=by rw [IntKind.wrap_i64];omega
   have HE:Hid _:=a8.o hv;go_wp2
   refine bodyPost_ret (by simp [results,results146,go_sem,T,U,W,Z,q4,q5];try rfl) rfl ?_
   rw [HE.o]
   have bel:=Ax (R:=(w.heap.size+1+1)) (by omega) b5.o
   exact ⟨⟨o,oc,a,ac,some (qzA cb off),cc,l,lc,g,gc⟩,rfl,HX.o _ (bel _ _ _ _ _ _),rfl,rfl,⟨rfl,.inl rfl,.inl rfl,.inl rfl⟩,bel _ _ _ _ _ _⟩
  have b8:Hid _:=J.o hv;have k1:Hid _:=HY.o hv
  have w3:(V != 0)=false:=by simpa using hv
  clear a8 J HY;go_wp2_with fail
  refine Calls.mono (a4.o wc ea ek b5.o i7.o) ?_;rintro e u2 ⟨la,lk,rfl,lo,b2⟩;obtain ⟨G,b4⟩:∃ u,u=u2.alloc (.cells #[.slice la A.length lk] 29):=⟨_,rfl⟩
  have b3:BW u2 G:=by rw [b4];exact bR.alloc nL _
  have b1:=next b2 b3;have b0:Hid _:=i0.o.below b1;have h3:Hid _:=h2.o.below b1;have a6:Hid (BW w G):=next b5.o b1;have i5:Hid (CB X 0 D G):=i4.o.below b1
  have c9:Hid (G.cell? ⟨u2.heap.size,0,none⟩=some (.slice la A.length lk)):=by rw [Hid,b4];simp
  have j1:Hid (Ai G la A):=Df (Av lo b3)
  have a7:Hid (Dt la G.heap.size/\Cm la (w.heap.size+1+1+1)):=⟨G8 (Av lo b3) nL,fun x hx=>by have:=Cw lo x hx;have:=b7.o;omega⟩
  have s:Hid (w.heap.size+1+1<X/\X<u2.heap.size/\u2.heap.size<G.heap.size):=⟨b7.o.1,by have:=b7.o.2;have:=b2.size;omega,by rw [b4];simp⟩
  have j6:Hid _:=b4;obtain ⟨Y,hY⟩:∃ Y,u2.heap.size=Y:=⟨_,rfl⟩;rw [hY] at c9 s;have j9:Hid _:=hY;clear t0 t1 t2 t3 t4 t5 s0 s1 s2 s3 s4 s5 T U W Z q4 q5 p0 p1 p2 p3 p4 p5 b2 b3 b1 lo b4 hY i0 h2 b5 i4 i7 b7 a4;go_upto_region 7 with fail
  rw [<- j6.o,j9.o];clear j6 j9;obtain ⟨t0,t1,t2,t3,t4,t5,s0,s1,s2,s3,s4,s5⟩:=b0.o;obtain ⟨T,U,W,Z,q4,q5,p0,p1,p2,p3,p4,p5⟩:=h3.o
  cases O
  ·have HE:Hid _:=b8.o rfl
   go_wp2
   refine bodyPost_ret (by simp [results,results146,go_sem,T,U,W,Z,q4,q5];try rfl) rfl ?_
   rw [HE.o]
   have bel:=Ax (R:=(w.heap.size+1+1)) (by omega) a6.o
   exact ⟨⟨o,oc,a,ac,some (qzA cb off),cc,l,lc,g,gc⟩,rfl,HX.o _ (bel _ _ _ _ _ _),rfl,rfl,⟨rfl,.inl rfl,.inl rfl,.inl rfl⟩,bel _ _ _ _ _ _⟩
  ·have HE:Hid _:=k1.o rfl
   clear b8 k1;obtain ⟨B,i1⟩:∃ B,G.heap.size=B:=⟨_,rfl⟩
   have i8:Hid ((G.alloc (.cells #[] 61)).ownsRow B 61 12 (.slice (some ⟨G.heap.size,0,none⟩) 0 0) 0 []):=by rw [Hid,<- i1];exact mM G
   have i9:Hid (A0 (G.alloc (.cells #[] 61)) (some (qzA cb off)) cs):=(HX.o _ (a6.o.alloc a6.o.size (.cells #[] 61))).cs
   have j2:Hid (∀ v2 w2,w2.ownsRow B 61 12 v2 (0+cs.length) ([]++(Aj cs))->(G.alloc (.cells #[] 61)).grownBy w2 (some G.heap.size)->∃ f k9,v2=.slice (some (qzA f 0)) cs.length k9/\w2.ownsRow B 61 12 (.slice (some (qzA f 0)) cs.length k9) cs.length (Aj cs)/\B<=f/\BW G w2):=by
    intro v2 w2 o2 g2;rw [Nat.zero_add,List.nil_append] at o2;obtain ⟨a9,k9,hv⟩:=Hb o2;subst hv
    obtain ⟨f,rfl,h9,_⟩:=Hf o2 (by omega)
    exact ⟨f,k9,rfl,o2,h9,Jz rfl g2⟩
   have v5:B<=G.heap.size+1:=by omega
   have v4:=(b0.o.below (bR.alloc nL (.cells #[] 61))).c3;have v:Hid _:=i1;clear i1
   go_upto_region 10 with (at_builtin;refine Eh _ rfl (.tmp 51) (.tmp 53) rfl B _ 0 [] rfl i8.o (some (qzA cb off)) cc cs rfl i9.o (by omega) (by simp;omega) ?_;intro v2 w2 o2 g2 _;obtain ⟨f,k9,s8,r3,h9,bb⟩:=j2.o v2 w2 o2 g2;subst s8;have zz:=b0.o.below bb;have y3:=zz.c3;have f3:=zz.z3;have h4:Hid (w2.ownsRow B 61 12 (.slice (some (qzA f 0)) cs.length k9) cs.length (Aj cs)):=r3;have I:Hid (BW G w2):=bb;have H9:Hid (B<=f):=h9;clear o2 g2 r3 bb h9 zz t0 t1 t2 t3 t4 t5 s0 s1 s2 s3 s4 s5 T U W Z q4 q5 p0 p1 p2 p3 p4 p5)
   clear i8 i9 j2 v4;obtain ⟨m,t⟩:∃ u,u=w2.setCell ⟨w.heap.size,3,none⟩ (.slice (some (qzA f 0)) cs.length k9):=⟨_,rfl⟩
   have k2:Hid (Z6 w.heap.size (qzI td) (.slice o n.length oc) (.slice a az.length ac) (.slice (some (qzA f 0)) cs.length k9) (.slice l ls.length lc) (.slice g lg.length gc) m):=by rw [Hid,t];exact (b0.o.below I.o).set3 _
   have j3:Hid (Z6 (w.heap.size+1+1) (qzI 0) (.slice none 0 0) (.slice none 0 0) (.slice none 0 0) (.slice none 0 0) (.slice none 0 0) m):=by rw [Hid,t];exact (h3.o.below I.o).far (by omega)
   have l8:Hid (BW w m):=by rw [Hid,t];exact (next a6.o I.o).setCell nL _
   have p7:Hid (CB X 0 D m):=by rw [Hid,t];exact (i5.o.below I.o).grown (An _ _ _ _) (by have:=s.o;simp;omega)
   have p8:Hid (m.cell? (qzA Y 0)=some (.slice la A.length lk)):=by
    rw [Hid,t]
    have h1:=(I.o.cell (p:=(qzA Y 0)) (by have:=s.o;show Y<_;omega)).trans c9.o
    exact ((An w2 w.heap.size 3 _).cell_far (qzA Y 0) (World.block_lt_of_cell? w2 _ h1) (by have:=s.o;simp;omega)).trans h1
   have d:Hid (m.ownsRow B 61 12 (.slice (some (qzA f 0)) cs.length k9) cs.length (Aj cs)):=by rw [Hid,t];exact Ad h4.o (by have:=s.o;have:=v.o;omega)
   have q6:Hid (Ai m la A):=by
    rw [Hid,t]
    exact (j1.o.below I.o).far (An _ _ _ _) (fun Q hQ=>by cases hQ;exact Bb a7.o.2 (by omega))
   have a3:Hid (B<=f/\f<m.heap.size):=⟨H9.o,by rw [t];have:=(h4.o.lt f rfl).2;simpa using this⟩
   rw [<- t];clear t y3 f3 b0 h3 a6 i5 c9 j1 h4 I H9;obtain ⟨t0,t1,t2,t3,t4,t5,s0,s1,s2,s3,s4,s5⟩:=k2.o;obtain ⟨T,U,W,Z,q4,q5,p0,p1,p2,p3,p4,p5⟩:=j3.o;obtain ⟨d0,d1,d2,d3,d4,d5,d6,d7,d8,d9,k6,k8⟩:=p7.o
   simp only [Nat.zero_add] at d0 d1 d2 d3 d4 d5 d6 d7 d8 d9 k6 k8
   have r:∀ j,j<12->(Aj cs)[k*12+j]?=(Xt (A8 cs k)).toList[j]?:=fun j hj=>E6 cs k j hk hj
   have n0:m.cell? (qzA f (k*12))=some (qzI (A8 cs k).iss):=by rw [d.o.cellAt (k*12) (by omega)];exact r 0 (by omega)
   have o0:m.frozen? (qzA f (k*12))=false:=d.o.frozenAt _
   have n1:m.cell? (qzA f (k*12+1))=some (qzI (A8 cs k).acq):=by rw [d.o.cellAt (k*12+1) (by omega)];exact r 1 (by omega)
   have o1:m.frozen? (qzA f (k*12+1))=false:=d.o.frozenAt _
   have n2:m.cell? (qzA f (k*12+2))=some (qzI (A8 cs k).cur):=by rw [d.o.cellAt (k*12+2) (by omega)];exact r 2 (by omega)
   have o2:m.frozen? (qzA f (k*12+2))=false:=d.o.frozenAt _
   have n3:m.cell? (qzA f (k*12+3))=some (qzI (A8 cs k).am):=by rw [d.o.cellAt (k*12+3) (by omega)];exact r 3 (by omega)
   have o3:m.frozen? (qzA f (k*12+3))=false:=d.o.frozenAt _
   have n4:m.cell? (qzA f (k*12+4))=some (qzI (A8 cs k).st):=by rw [d.o.cellAt (k*12+4) (by omega)];exact r 4 (by omega)
   have o4:m.frozen? (qzA f (k*12+4))=false:=d.o.frozenAt _
   have n5:m.cell? (qzA f (k*12+5))=some (qzI (A8 cs k).rsn):=by rw [d.o.cellAt (k*12+5) (by omega)];exact r 5 (by omega)
   have o5:m.frozen? (qzA f (k*12+5))=false:=d.o.frozenAt _
   have n6:m.cell? (qzA f (k*12+6))=some (qzI (A8 cs k).cl):=by rw [d.o.cellAt (k*12+6) (by omega)];exact r 6 (by omega)
   have o6:m.frozen? (qzA f (k*12+6))=false:=d.o.frozenAt _
   have n7:m.cell? (qzA f (k*12+7))=some (qzI (A8 cs k).bk):=by rw [d.o.cellAt (k*12+7) (by omega)];exact r 7 (by omega)
   have o7:m.frozen? (qzA f (k*12+7))=false:=d.o.frozenAt _
   have n8:m.cell? (qzA f (k*12+8))=some (qzI (A8 cs k).fee):=by rw [d.o.cellAt (k*12+8) (by omega)];exact r 8 (by omega)
   have o8:m.frozen? (qzA f (k*12+8))=false:=d.o.frozenAt _
   have n9:m.cell? (qzA f (k*12+9))=some (.bool (A8 cs k).cop):=by rw [d.o.cellAt (k*12+9) (by omega)];exact r 9 (by omega)
   have o9:m.frozen? (qzA f (k*12+9))=false:=d.o.frozenAt _
   have n10:m.cell? (qzA f (k*12+10))=some (qzI (A8 cs k).sta):=by rw [d.o.cellAt (k*12+10) (by omega)];exact r 10 (by omega)
   have u9:m.frozen? (qzA f (k*12+10))=false:=d.o.frozenAt _
   have n11:m.cell? (qzA f (k*12+11))=some (qzI (A8 cs k).due):=by rw [d.o.cellAt (k*12+11) (by omega)];exact r 11 (by omega)
   have v0:m.frozen? (qzA f (k*12+11))=false:=d.o.frozenAt _;obtain ⟨u6,a5⟩:∃ u,u=Gs m f k D:=⟨_,rfl⟩
   have b6:Below f m u6:=by rw [a5];exact Pa k D bR nL
   have k3:Hid _:=k2.o.under b6 (by have:=s.o;have:=v.o;have:=a3.o;omega)
   have j4:Hid _:=j3.o.under b6 (by have:=s.o;have:=v.o;have:=a3.o;omega)
   have l9:Hid (BW w u6):=by rw [Hid,a5];exact Pa k D l8.o (by have:=s.o;have:=v.o;have:=a3.o;omega)
   have s6:u6.cell? (qzA Y 0)=some (.slice la A.length lk):=(b6.cell (p:=(qzA Y 0)) (by have:=s.o;have:=v.o;have:=a3.o;show Y<f;omega)).trans p8.o
   have j0:Hid (Ai u6 la A):=Vg q6.o (by have h:=a7.o.1;rw [v.o] at h;exact h.mono a3.o.1) b6
   have r2:Hid (u6.ownsRow B 61 12 (.slice (some (qzA f 0)) cs.length k9) cs.length (Aj (cs.set k D))):=by rw [Hid,a5];exact Od D hk d.o
   unfold Gs at a5;have j7:Hid _:=a5;clear a5 b6 r;go_upto_region 11 with fail
   rw [<- j7.o];clear j7 n0 n1 n2 n3 n4 n5 n6 n7 n8 n9 n10 n11 o0 o1 o2 o3 o4 o5 o6 o7 o8 o9 u9 v0 d0 d1 d2 d3 d4 d5 d6 d7 d8 d9 k6 k8 t0 t1 t2 t3 t4 t5 s0 s1 s2 s3 s4 s5 T U W Z q4 q5 p0 p1 p2 p3 p4 p5;obtain ⟨t0,t1,t2,t3,t4,t5,s0,s1,s2,s3,s4,s5⟩:=k3.o;obtain ⟨T,U,W,Z,q4,q5,p0,p1,p2,p3,p4,p5⟩:=j4.o;obtain ⟨u7,N⟩:∃ u,u=u6.setCell ⟨w.heap.size,4,none⟩ (.slice la A.length lk):=⟨_,rfl⟩;have k4:Hid _:=k3.o.set4 (.slice la A.length lk)
   have q9:Hid (Z6 (w.heap.size+1+1) (qzI 0) (.slice none 0 0) (.slice none 0 0) (.slice none 0 0) (.slice none 0 0) (.slice none 0 0) u7):=by rw [Hid,N];exact j4.o.far (by omega)
   have p6:Hid (BW w u7):=by rw [Hid,N];exact l9.o.setCell nL _
   have r4:Hid (u7.ownsRow B 61 12 (.slice (some (qzA f 0)) cs.length k9) cs.length (Aj (cs.set k D))):=by rw [Hid,N];exact Ad r2.o (by have:=s.o;have:=v.o;omega)
   have p9:Hid (Ai u7 la A):=by rw [Hid,N];exact j0.o.far (An _ _ _ _) (fun Q hQ=>by cases hQ;exact Bb a7.o.2 (by omega))
   rw [<- N] at k4;have j8:Hid _:=N;clear N;go_upto_region 12 with fail
   rw [<- j8.o];clear j8 t0 t1 t2 t3 t4 t5 s0 s1 s2 s3 s4 s5 T U W Z q4 q5 p0 p1 p2 p3 p4 p5 s6;obtain ⟨t0,t1,t2,t3,t4,t5,s0,s1,s2,s3,s4,s5⟩:=k4.o;obtain ⟨T,U,W,Z,q4,q5,p0,p1,p2,p3,p4,p5⟩:=q9.o;go_wp2
   refine bodyPost_ret (by simp [results,results146,go_sem,T,U,W,Z,q4,q5];try rfl) rfl ?_
   rw [HE.o]
   have bel:=Ax (R:=(w.heap.size+1+1)) (by omega) p6.o
   have hX:=HX.o _ (bel (qzI td) (.slice o n.length oc) (.slice a az.length ac) (.slice (some (qzA f 0)) cs.length k9) (.slice la A.length lk) (.slice g lg.length gc));have l6:(cs.set k D).length=cs.length:=List.length_set ..
   refine ⟨⟨o,oc,a,ac,some (qzA f 0),k9,la,lk,g,gc⟩,by simp [C5,l6],⟨hX.off,hX.az,F2 (Ea r4.o (by have:=s.o;have:=v.o;omega) _ _ _ _ _ _),?_,hX.log⟩,rfl,rfl,⟨rfl,.inl rfl,.inr (fun x hx=>by cases hx;have:=a3.o;have:=s.o;have:=v.o;show w.heap.size<=f;omega),.inr (fun x hx=>by have:=a7.o.2 x hx;omega)⟩,bel _ _ _ _ _ _⟩
   exact Rc p9.o (Bb a7.o.2 (by omega)) _ _ _ _ _ _
end Go.Proofs.YtomiclakhjncbaaGreatDoor
