import Derived.Test.YtfpafnefpmmofaaGreatDoorJW7ar
import Derived.Test.YtfpafnefpmmofaaGreatDoorJW2d
namespace Go.Proofs.YtfpafnefpmmofaaGreatDoor.Kb
open Go.RowKit Go.Proofs.Tryz
set_option maxRecDepth 100000
set_option maxHeartbeats 12800000
theorem Acm {base g:Nat} {b:Bk} {q:Bp} {u:ql} (h:Jr base b q u) (hg:q.has g):base<=g/\g<u.heap.size:=by
 rcases hg with e|e|e|e|e
 ·exact h.off.lt g (by rw [e];rfl)
 ·exact h.az.lt g (by rw [e];rfl)
 ·exact h.cs.lt g (by rw [e];rfl)
 ·exact h.ls.lt g (by rw [e];rfl)
 ·exact h.log.lt g (by rw [e];rfl)
theorem Agk {b:Bk} (h:zM b) (hd:Aaf b):Hk b/\∀ l ∈ b.log,l.length<=1048576 :=
 ⟨⟨h.1.1,h.2,λa ha=>(hd.az.2 a ha).2.2.1,λc hc=>hd.cs.2 c hc,λx S=>hd.ls.2 x S,hd.td⟩,λl hl=>by have:=Aaj hl;have:=h.1.2;omega⟩
theorem Ma.at {B:Nat} {b:Bk} {q:Bp} {u:ql} (h:Ma B b q u):Az u b q:=⟨Nq h.off,Hu h.az,Hz h.cs,Eb h.ls,G5 h.log⟩
def TmR (f:List MV) (u:ql) (e:Ending) (w':ql):Prop :=
 ∃ i:List MV,e=.returned (qf (some ⟨u.heap.size,0,none⟩) i.length i.length)/\As i=As f/\Dq w' (some ⟨u.heap.size,0,none⟩) i/\U6 u.heap.size w'.heap.size i w'/\BW u w'
theorem zU (a:qm) (cap:Nat) (f:List MV) (w:ql) (hz:Dq w a f) (hn:f.length<=1048576) (hd:∀ x ∈ f,x.fs.length<=1048576):qi 8 #[qf a f.length cap] w (TmR f w) :=
 (Ux a cap f w hz hn hd).m λe w' ⟨i,U,Y,h3,h4,h5,h6⟩=>by
  have hl:f.length=i.length:=by have:=congrArg List.length Y;rw [Bh,Bh] at this;exact this.s
  rw [hl] at U h5;exact ⟨i,U,Y,h3,U6.of h5.1 h5.2.1 h4 h5.2.2,h6⟩
theorem Ag1 {f i:List MV} (h:As i=As f) (hm:∀ x ∈ f,MOk x):∀ y ∈ i,MOk y:=λy hy=>by
 have U:=Xl hy;rw [h] at U;obtain ⟨x,S,e⟩:=List.mem_map.1 U;have Y:=hm x S;have e1:x.kd=y.kd:=congrArg Prod.fst e;have e2:x.fs=y.fs:=congrArg Prod.snd e;unfold MOk at Y ⊢
 rwa [e1,e2] at Y
structure GA (V:ql) (X B:Nat) (b:Bk) (q:Bp) (v:Value) (rj:List (Int×Int)) (u:ql):Prop where
 lo:BW V u
 z:ZQ X b q u
 o:Ma B b q u
 r:u.ownsRow B 70 2 v rj.length (Oa rj)
theorem GA.below {V:ql} {X B:Nat} {b:Bk} {q:Bp} {v:Value} {rj:List (Int×Int)} {u G:ql} (h:GA V X B b q v rj u) (hb:BW u G):GA V X B b q v rj G:=⟨next h.lo hb,h.z.below hb,h.o.below hb,A5 h.r hb⟩
theorem GA.far {V:ql} {X B r:Nat} {b:Bk} {q:Bp} {v:Value} {rj:List (Int×Int)} {u G:ql} (h:GA V X B b q v rj u) (g:u.grownBy G (some r)) (U:V.heap.size<=r) (Y:r<B) (h3:B<=X):GA V X B b q v rj G :=
 ⟨h.lo.grown g h.lo.size (λx S=>by injection S with S;omega),h.z.grown g (λe=>by injection e with e;omega),h.o.far g Y,h.r.kept g (.inr λe=>by have:=(h.r.lt r e).1;omega)⟩
def LJ (V:ql) (X B:Nat) (b:Bk) (q:Bp) (v:Value) (n:Nat) (cs:List Value) (u:ql):Prop:=LQ V X b q u/\u.ownsRow B 70 2 v n cs
theorem Aea {V:ql} {X B n:Nat} {b:Bk} {q:Bp} {v:Value} {cs:List Value} {u0:ql} (ho:Ma B b q u0) (hr:u0.ownsRow B 70 2 v n cs) (hV:V.heap.size<=B) (hX:u0.heap.size<=X):∀ r,iK b q r->∀ u G:ql,u.grownBy G r->LJ V X B b q v n cs u->LJ V X B b q v n cs G:=λr hi u G g h =>
 ⟨Afc ho hV hX r hi u G g h.1,h.2.kept g (by
  rcases hi with rfl|rfl|rfl|rfl|rfl
  ·exact A7 hr ho.off (by decide)
  ·exact A7 hr ho.az (by decide)
  ·exact A7 hr ho.cs (by decide)
  ·exact A7 hr ho.ls (by decide)
  ·exact A7 hr ho.log (by decide))⟩
structure GM (V:ql) (X B k n:Nat) (b:Bk) (q:Bp) (ao:qm) (c:Nat) (u:ql):Prop where
 lq:LQ V X b q u
 m:Mrk B b q u
 r:Iy u ao (pY k n)
theorem GM.below {V:ql} {X B k n:Nat} {b:Bk} {q:Bp} {ao:qm} {c:Nat} {u G:ql} (h:GM V X B k n b q ao c u) (hb:BW u G):GM V X B k n b q ao c G:=⟨⟨next h.lq.1 hb,h.lq.2.below hb⟩,h.m.below hb,h.r.below hb⟩
theorem Ah7 {V:ql} {X B k n:Nat} {b:Bk} {q:Bp} {ao:qm} {c:Nat} {cs:List Value} {u G:ql} (hl:LJ V X B b q (qf ao n c) n cs u) (hm:Mrk B b q u) (hV:V.heap.size<=B) (hX:∀ j,(Value.slice ao n c).ownBlock=some j->j<X) (ho:G.ownsRow B 70 2 (qf ao n c) n (Oa (pY k n))) (g:u.grownBy G (Value.slice ao n c).ownBlock):GM V X B k n b q ao c G:=by
 have hr:=hl.2
 refine ⟨⟨hl.1.1.grown g hl.1.1.size (λj hj=>by have:=(hr.lt j hj).1;omega),hl.1.2.grown g (λe=>by have:=hX X e.s;omega)⟩,⟨hm.off.kept g (A7 hm.off hr (by decide)),hm.az.kept g (A7 hm.az hr (by decide)),hm.cs.kept g (A7 hm.cs hr (by decide)),hm.ls.kept g (A7 hm.ls hr (by decide)),hm.log.kept g (A7 hm.log hr (by decide))⟩,bH (cap:=c) (by rw [Sa];exact ho)⟩
theorem Agn (b:Bk) (p:Bp) (a:qm) (cap:Nat) (f:List MV) (w:ql) (w0:Az w b p/\Aaf b) (w1:(Dq w a f/\cS f)/\∀ x ∈ f,(Lit.int .i64 x.kd).wf=true) (hE:E0 w) (hT:Hl w) :
  qi 3 #[Fx b p,qf a f.length cap] w (qp (.bool true) w):=by
 obtain ⟨S,hd⟩:=w0;obtain ⟨⟨hm,x9⟩,y1⟩:=w1;obtain ⟨W,hW⟩:=A0 (w.alloc (.cells (qcB b p) 30))
 have bW:BW w W:=by rw [hW];exact bR.alloc nL _
 have s1:S6 w.heap.size b p W:=by rw [hW];exact S6.new w b p _
 have t8:=Aa (iT b p W (S.below bW) hd)
 have t6:=Aa λ(u:ql) (n:Int) (h:BW w u) (h0:0<=n) (U:n<=1048576)=>U1 n h0 U a cap f u (hm.below h) x9
 have i6:=Aa λu (h:BW w u) (hn:Ld b)=>kO b p u (S.below h) hn
 have t9:=Aa λu (h:BW w u) (U:f.length<=1048576) (Y:(∀ x ∈ f,MOk x))=>zU a cap f u (hm.below h) U (λx S=>(Y x S).2.1)
 have v5:=Aa y1;have q0:=Aa hd
 have HE:qj (∀ u,BW w u->E0 u/\Hl u):=λu h=>⟨Kw _ _ hE (h.m hE.size),hT.below h⟩
 have HW:=Aa hW;have q1:=Aa bW;have HS:=Aa s1;clear hW S hd bW hE hT hm x9 y1;obtain ⟨c0,c1,c2,c3,c4,c5⟩:=s1
 have HV:∀ (b:Bk) (q:Bp),qj (Fx b q=.agg (qcB b q)):=λb q=>rfl
 rw [(HV b p).out]
 go_enter func3,ntmps3
 go_upto_region 2 with fail
 rw [<- HW.o];clear HW;go_wp2_with fail
 refine Calls.m t8.o ?_;rintro e u1 ⟨n0,rfl,hg,b1⟩;have h7:=Aa (next q1.o b1);have t2:qj (S6 w.heap.size b p u1):=HS.o.below b1;clear c0 c1 c2 c3 c4 c5 b1 q1 HS t8
 by_cases hneg:n0<0
 ·go_wp2
  go_ret;exact ⟨rfl,h7.o⟩
 have g6:=hg (by omega)
 have n2:=Aa (Agk g6.1 q0.o)
 have t5:qj (qi 5 #[qf a f.length cap,qzI n0] u1 (qp (qzI (F4 (As f) n0)) u1)):=t6.o u1 n0 h7.o (by omega) g6.2
 have s8:=Aa g6.2;clear hg g6 t6 q0;go_wp2_with fail
 refine Calls.m t5.o ?_;rintro e u2 ⟨rfl,b2⟩;have h9:=Aa (next h7.o b2);have n4:qj (S6 w.heap.size b p u2):=t2.o.below b2;obtain ⟨n1,o9⟩:=Ae (F4 (As f) n0);have s9:qj _:=o9;rw [o9];clear b2 o9 h7 t2 t5
 by_cases hneg1:n1<0
 ·go_wp2
  go_ret;exact ⟨rfl,h9.o⟩
 have r6:qj (0<=F4 (As f) n0):=by rw [qj,s9.o];omega
 have HP:qj (Hk b):=n2.o.1;have HG:=Aa n2.o.2;have HN:qj (Ld b):=HP.o.sm
 have d9:qj (f.length<=1048576/\∀ x ∈ f,MOk x):=by
  have h:=Xw r6.o;have h0:=s8.o;rw [Bh] at h
  exact ⟨by omega,λx S=>by have:=h.2 _ (Xl S);exact ⟨v5.o x S,by dsimp only at this;omega,by dsimp only at this;omega⟩⟩
 have b5:qj (∀ i,As i=As f->i.length<=1048576/\∀ y ∈ i,MOk y):=λi h=>by
  have hl:=congrArg List.length h;rw [Bh,Bh] at hl
  exact ⟨by have:=d9.o.1;omega,Ag1 h d9.o.2⟩
 have t7:qj (∀ (u:ql) (q:Bp) (i:List MV) (o:qm),Az u b q->Dq u o i->As i=As f->qi 6 #[Fx b q,qf o i.length i.length] u (SsR b (As f) u)):=λu q i o U Y h3=>by rw [<- h3];exact Wi b q i o _ u U HP.o Y (b5.o i h3).2 (b5.o i h3).1
 have r1:qj (∀ (u:ql) (q:Bp) (i:List MV) (o:qm),BW w u->Az u b q->Dq u o i->As i=As f->qi 9 #[Fx b q,qf o i.length i.length] u (SrR b (As f) u)):=λu q i o h0 U Y h3=>by rw [<- h3];exact V6 b q i o _ u U HP.o HG.o (HE.o u h0).1 (HE.o u h0).2 Y (b5.o i h3).2 (b5.o i h3).1
 have i5:qj (∀ u,BW w u->qi 8 #[qf a f.length cap] u (TmR f u)):=λu h=>t9.o u h d9.o.1 d9.o.2
 clear n2 HG v5 s9 t9 HP HE;obtain ⟨c0,c1,c2,c3,c4,c5⟩:=n4.o;go_wp2_with fail
 refine Calls.m (i6.o _ h9.o HN.o) ?_;rintro e u3 ⟨q3,rfl,o3,b3⟩;have l9:=Aa (next h9.o b3);have t3:qj (S6 w.heap.size b p u3):=n4.o.below b3;have r4:=Aa o3.at;clear c0 c1 c2 c3 c4 c5 b3 o3 h9 n4;go_wp2_with fail
 refine Calls.m (i5.o _ l9.o) ?_;rintro e u4 ⟨y4,rfl,e4,m4,-,b4⟩;have p8:=Aa (next l9.o b4);have t4:qj (S6 w.heap.size b p u4):=t3.o.below b4;have q5:=Aa (t7.o u4 q3 y4 _ (r4.o.below b4) m4 e4);clear b4 m4 e4 l9 t3 r4 t7;go_wp2_with fail
 refine Calls.m q5.o ?_;rintro e u5 ⟨b',ps,rj,v1,rfl,o4,y0,x7,C,p5⟩;obtain ⟨a1,k1,rfl,g5,-⟩:=Mv C;rw [(HV b' ps).out];have p7:=Aa o4;have i4:qj (Ld b'):=y0.sm
 have t1:qj (rj.length<=1048576):=by have h:=eX o4;rw [Bh] at h;have:=d9.o.1;rw [qj];omega
 obtain ⟨X8,o2⟩:=Ae u5.heap.size;obtain ⟨M,j3⟩:=A0 (u5.alloc (.cells (qcB b' ps) 40))
 have b8:BW u5 M:=by rw [j3];exact bR.alloc nL _
 have Z8:qj (ZQ X8 b' ps M):=by rw [qj,j3,<- o2];exact Z6.new u5 _ _ _ _ _ _ _
 have K8:qj (Az M b' ps):=x7.below b8;have J8:qj (Iy M a1 rj):=g5.below b8;have B8:=Aa (next (next p8.o p5) b8);have S8:qj (S6 w.heap.size b p M):=t4.o.below (next p5 b8)
 have V8:qj (∀ u,BW M u->BW w u/\S6 w.heap.size b p u/\ZQ X8 b' ps u):=λu h=>⟨next B8.o h,S8.o.below h,Z8.o.below h⟩
 have p3:=Aa j3;have p4:=Aa o2
 have i0:=Aa λ(u:ql) (q':Bp) (h:BW M u) (hk:Az u b' q')=>Tx b' q' ps u hk (K8.o.below h) i4.o
 have m8:=Aa λ(u:ql) (o:qm) (c:Nat) (h:BW M u) (hk:Iy u o rj)=>Wl o a1 c k1 rj u hk (J8.o.below h) (by have:=t1.o;omega)
 unfold Fx at i0;clear o4 y0 x7 C g5 p5 b8 j3 o2 p8 t4 q5;go_upto_region 9 with fail
 rw [<- p3.o,p4.o];clear p3 p4 Z8;obtain ⟨c0,c1,c2,c3,c4,c5⟩:=S8.o;go_wp2_with fail
 refine Calls.m (i6.o _ B8.o HN.o) ?_;rintro e u6 ⟨F,rfl,o6,b6⟩;rw [(HV b F).out];obtain ⟨X,hX⟩:=Ae u6.heap.size;obtain ⟨V1,j2⟩:=A0 (u6.alloc (.cells (qcB b F) 40))
 have bV:BW u6 V1:=by rw [j2];exact bR.alloc nL _
 have HY:qj (S6 X b F V1):=by rw [qj,j2,<- hX];exact S6.new u6 b F _
 obtain ⟨B4,g2⟩:=Ae M.heap.size
 have t0:qj (Jr B4 b F V1):=by rw [qj,<- g2];exact o6.below bV
 have B3:qj (∀ g,F.has g->B4<=g/\g<X):=λg hg=>by rw [<- g2,<- hX];exact Acm o6 hg
 have m5:=Aa (next b6 bV)
 have r7:qj (B4<=X/\X<V1.heap.size):=⟨by rw [<- g2,<- hX];exact b6.size,HY.o.lt⟩
 have a5:=Aa g2;have v4:=Aa j2;have v6:=Aa hX;clear b6 bV o6 j2 g2 c0 c1 c2 c3 c4 c5 hX;go_upto_region 10 with fail
 rw [<- v4.o,v6.o];clear v4 v6;go_wp2_with fail
 refine Calls.m (i5.o _ (V8.o _ m5.o).1) ?_;rintro e u7 ⟨zs,rfl,ez,mz,j4,b7⟩;obtain ⟨B5,j1⟩:=Ae V1.heap.size;obtain ⟨D,o1⟩:=Ae u7.heap.size;rw [j1,o1] at j4;rw [j1] at mz ⊢;have m6:=Aa (next m5.o b7);have n7:qj (S6 X b F u7):=HY.o.below b7;have d8:qj (Jr B4 b F u7):=t0.o.below b7;have r8:=Aa j4;have s7:=Aa mz;have i1:=Aa ez
 have d7:qj (B4<=X/\X<B5/\B5<D):=by
  have:=r7.o
  have:=j4.lt
  rw [qj,<- j1]
  exact ⟨by omega,by omega,by omega⟩
 have b0:=Aa (r1.o u7 F zs _ (V8.o _ m6.o).1 d8.o.at mz ez);have n5:=Aa o1;rw [(HV b F).out] at b0;clear b7 j1 o1 j4 mz ez m5 HY t0 r7;obtain ⟨d0,d1,d2,d3,d4,d5⟩:=n7.o;go_wp2_with fail
 refine Calls.m b0.o ?_;rintro e u9 ⟨N,q,d,v2,rfl,g4,-,Z,C,p9⟩;obtain ⟨o5,o7⟩:=Sv g4 p7.o;subst o5;subst o7;obtain ⟨a2,J,rfl,-,-⟩:=Mv C;rw [n5.o] at Z C;rw [(HV N q).out];obtain ⟨A,I⟩:=Ae u9.heap.size;obtain ⟨O,a6⟩:=A0 (u9.alloc (.cells (qcB N q) 40))
 have R:BW u9 O:=by rw [a6];exact bR.alloc nL _
 have x1:qj (ZQ A N q O):=by rw [qj,a6,<- I];exact Z6.new u9 _ _ _ _ _ _ _
 have v0:qj (D<=A):=by rw [qj,<- I,<- n5.o];exact p9.size
 have T:qj (GA M A D N q (qf a2 d.length J) d O):=⟨next (next m6.o p9) R,x1.o,Z.below R,A5 C R⟩
 have k6:qj (∀ r,iK N q r->∀ u G:ql,u.grownBy G r->LJ M A D N q (qf a2 d.length J) d.length (Oa d) u->LJ M A D N q (qf a2 d.length J) d.length (Oa d) G):=Aea Z C (by have:=d7.o;have:=a5.o;omega) (by rw [I];exact nL)
 have C0:qj (∀ j,(Value.slice a2 d.length J).ownBlock=some j->j<A):=λj hj=>by rw [<- I];exact (C.lt j hj).2
 have w9:qj (S6 X b F O):=n7.o.below (next p9 R);have l3:qj (Jr B4 b F O):=d8.o.below (next p9 R);have k7:qj (U6 B5 D zs O):=r8.o.below (next p9 R);have l1:=Aa (s7.o.below (next p9 R));have j6:=Aa a6;have j8:=Aa I;clear g4 Z C p9 R a6 I b0 n7 d8 r8 s7 m6 n5 x1 d0 d1 d2 d3 d4 d5;go_upto_region 12 with fail
 rw [<- j6.o,j8.o];clear j6 j8;obtain ⟨c0,c1,c2,c3,c4,c5,-,-,-,-,-,-⟩:=T.o.z;obtain ⟨d0,d1,d2,d3,d4,d5,-,-,-,-,-,-⟩:=(V8.o O T.o.lo).2.2;go_wp2_with fail
 refine Calls.m (i0.o O q T.o.lo T.o.o.at) ?_;rintro e D1 ⟨rfl,p0⟩;have l8:=Aa (T.o.below p0);go_wp2_with fail
 refine Calls.m (m8.o D1 a2 J l8.o.lo (bH l8.o.r)) ?_;rintro e a4 ⟨rfl,y5⟩;have c9:=next p0 y5;have d6:=Aa (T.o.below c9);have j0:qj (S6 X b F a4):=w9.o.below c9;have g1:qj (Jr B4 b F a4):=l3.o.below c9;have k8:qj (U6 B5 D zs a4):=k7.o.below c9;have l2:=Aa (l1.o.below c9);clear c9 p0 y5 c0 c1 c2 c3 c4 c5 d0 d1 d2 d3 d4 d5 T l8 w9 l3 k7 l1;go_upto_region 14 with fail
 go_cut [59] (λv wc=>v=.bool false/\BW a4 wc)
 case first =>
  obtain ⟨c0,c1,c2,c3,c4,c5⟩:=(V8.o a4 d6.o.lo).2.1;obtain ⟨d0,d1,d2,d3,d4,d5⟩:=j0.o
  go_region_with (first
   | (go_at_call 7;refine Calls.m (i6.o _ ((V8.o a4 d6.o.lo).1.t ((bR.drew).m ((V8.o a4 d6.o.lo).1.size))) HN.o) ?_;rintro e u8 ⟨q8,rfl,o8,C2⟩;have b8:=(bR.drew).t C2;obtain ⟨f0,f1,f2,f3,f4,f5⟩:=j0.o.below b8)
   | (go_at_call 10;refine Calls.m (Tx b F q8 _ (g1.o.at.below b8) o8.at HN.o) ?_;rintro e u9 ⟨rfl,b9⟩))
  all_goals
   go_wp2_with fail
   go_meet;exact ⟨rfl,next b8 b9⟩
 case rest =>
  obtain ⟨rfl,b9⟩:=hcut;have G9:=Aa (d6.o.below b9);have Y9:qj (S6 X b F wc):=j0.o.below b9;have w6:qj (Jr B4 b F wc):=g1.o.below b9;have w4:qj (U6 B5 D zs wc):=k8.o.below b9;have w5:=Aa (l2.o.below b9);clear b9 d6 j0 g1 k8 l2;go_wp2_with fail
  refine Calls.m (i5.o wc (V8.o wc G9.o.lo).1) ?_;rintro e u16 ⟨ws,rfl,ew,mw,-,o0⟩
  have k4:=Aa (Uy (some (qzA B5 0)) (some ⟨wc.heap.size,0,none⟩) zs.length ws.length zs ws u16 (w5.o.below o0) mw (i1.o.t ew.s) (by have:=(b5.o zs i1.o).1;omega) (λx S=>by have:=((b5.o zs i1.o).2 x S).2.1;omega))
  have k0:=Aa o0;clear mw ew o0;go_wp2_with fail
  refine Calls.m k4.o ?_;rintro e g8 ⟨rfl,y6⟩;have H:=next k0.o y6;have p6:=Aa (G9.o.below H);have x0:qj (S6 X b F g8):=Y9.o.below H;have l4:qj (Jr B4 b F g8):=w6.o.below H;have k9:qj (U6 B5 D zs g8):=w4.o.below H;clear H y6 k0 k4 G9 Y9 w6 w4 w5
  have n3:qj (qi 13 #[Fx b F,qzI 1] g8 λe w'=>∃ n:Int,e=.returned (qzI n)/\(0<=n/\n<=30000000)/\(GA M A D N q (qf a2 d.length J) d w'/\U6 B5 D zs w')):=bL b F B4 g8 l4.o HN.o (λu=>GA M A D N q (qf a2 d.length J) d u/\U6 B5 D zs u) (λg hg u G hgr hQ=>by
   have g6:=B3.o g hg;have hl:=d7.o;have h8:=a5.o
   exact ⟨hQ.1.far hgr (by omega) (by omega) v0.o,hQ.2.farB hgr (by omega)⟩) ⟨p6.o,k9.o⟩
  rw [(HV b F).out] at n3;obtain ⟨d0,d1,d2,d3,d4,d5⟩:=x0.o;clear p6 l4 k9;go_wp2_with fail
  refine Calls.m n3.o ?_;rintro e A1 ⟨m9,rfl,⟨x8,C4⟩,x3,l5⟩;obtain ⟨K9,rfl⟩:=jj x8
  have s6:qj (qi 14 #[qf (some (qzA B5 0)) zs.length zs.length,qzI (K9:Nat)] A1 λe w'=>∃ m:Nat,e=.returned (qzI m)/\GA M A D N q (qf a2 d.length J) d w'):=iM B5 D zs.length K9 zs n0 A1 l5 (by rw [i1.o];exact r6.o) s8.o (by omega) d7.o.2.2 (λu=>GA M A D N q (qf a2 d.length J) d u) (λg U Y u G hgr hQ=>hQ.far hgr (by have:=d7.o;have:=a5.o;omega) Y v0.o) x3
  clear d0 d1 d2 d3 d4 d5 x3 l5 x8 C4 n3 x0;go_wp2_with fail
  refine Calls.m s6.o ?_;rintro e A2 ⟨D0,rfl,x4⟩;have a8:=Aa x4
  have G3:¬ (D0:Int)<0:=by omega
  clear x4 s6;obtain ⟨c0,c1,c2,c3,c4,c5,-,-,-,-,-,-⟩:=a8.o.z;obtain ⟨d0,d1,d2,d3,d4,d5,-,-,-,-,-,-⟩:=(V8.o A2 a8.o.lo).2.2;go_wp2_with fail
  refine Calls.m (i0.o A2 q a8.o.lo a8.o.o.at) ?_;rintro e D2 ⟨rfl,y8⟩;have g9:=Aa (a8.o.below y8);clear y8 c0 c1 c2 c3 c4 c5 d0 d1 d2 d3 d4 d5 a8;go_wp2_with fail
  refine Calls.m (m8.o D2 a2 J g9.o.lo (bH g9.o.r)) ?_;rintro e D3 ⟨rfl,y9⟩;have a9:=Aa (g9.o.below y9);have i3:=Aa (vJ N q _ D3 a9.o.o i4.o (LJ M A D N q (qf a2 d.length J) d.length (Oa d)) k6.o ⟨⟨a9.o.lo,a9.o.z⟩,a9.o.r⟩)
  have i2:=Aa λu (h:Mrk D N q u)=>tN N q _ u h i4.o
  unfold Fx at i3 i2
  have C3:k6B N<=30000000:=by
   obtain ⟨s1,s2,s3,s4,s5⟩:=i4.o;unfold k6B k5B k4B k3B k2B
   omega
  obtain ⟨K6,x6⟩:=Ae (k6B N);rw [x6] at i3 i2 C3
  have H1:¬ (K6:Int)<0:=by omega
  have r3:qj (d.length<=1048576):=t1.o;obtain ⟨L,hL⟩:∃ L:Nat,K6+2*d.length=L:=⟨_,rfl⟩
  have q9:qj (∀ u,Iy u a2 (pY K6 d.length)->qi 17 #[qf a2 d.length J,qzI (K6:Nat)] u (qp (qzI (L:Nat)) u)):=λu h=>by rw [<- hL];exact yA a2 J _ K6 u h (by have:=r3.o;omega) (by omega)
  have r9:qj (∀ u,u.ownsRow D 70 2 (qf a2 d.length J) d.length (Oa d)->qi 15 #[qf a2 d.length J,qzI (K6:Nat)] u λe w'=>e=.returned (qzI (L:Nat))/\w'.ownsRow D 70 2 (qf a2 d.length J) d.length (Oa (pY K6 d.length))/\u.grownBy w' (Value.slice a2 d.length J).ownBlock):=λu h=>by rw [<- hL];exact wF a2 J D K6 d u h (by have:=r3.o;omega) (by omega)
  have G4:¬ (L:Int)<0:=by omega
  have H2:((L:Int) != (L:Int))=false:=by simp
  clear y9 x6 hL k6 g9;obtain ⟨c0,c1,c2,c3,c4,c5,-,-,-,-,-,-⟩:=a9.o.z;go_wp2_with fail
  refine Calls.m i3.o ?_;rintro e D4 ⟨rfl,l6,g7⟩;have k5:=Aa (r9.o D4 g7.2);have r5:=Aa g7;have s0:=Aa l6;clear l6 g7 c0 c1 c2 c3 c4 c5 a9 i3 r9;go_wp2_with fail
  refine Calls.m k5.o ?_;rintro e A3 ⟨rfl,y2,x5⟩
  have i8:qj (GM M A D K6 d.length N q a2 J A3):=Ah7 r5.o s0.o (by have:=d7.o;have:=a5.o;omega) C0.o y2 x5
  clear y2 x5 r5 s0 k5;obtain ⟨c0,c1,c2,c3,c4,c5,-,-,-,-,-,-⟩:=i8.o.lq.2;go_wp2_with fail
  refine Calls.m (i2.o A3 i8.o.m) ?_;rintro e D5 ⟨rfl,p27⟩;have n8:=Aa (i8.o.below p27);clear p27 c0 c1 c2 c3 c4 c5 i8;go_wp2_with fail
  refine Calls.m (q9.o D5 n8.o.r) ?_;rintro e p1 ⟨rfl,p30⟩;have g0:=Aa (n8.o.below p30);clear p30 n8;obtain ⟨c0,c1,c2,c3,c4,c5⟩:=(V8.o p1 g0.o.lq.1).2.1;go_wp2_with fail
  refine Calls.m (i6.o p1 (V8.o p1 g0.o.lq.1).1 HN.o) ?_;rintro e A4 ⟨q7,rfl,y3,p31⟩;have w7:=Aa p31;have w2:=Aa y3.at;have l7:=Aa (next g0.o.lq.1 p31);clear y3 p31 c0 c1 c2 c3 c4 c5;go_wp2_with fail
  refine Calls.m (i5.o A4 (V8.o A4 l7.o).1) ?_;rintro e u32 ⟨y7,rfl,e7,m7,-,p32⟩;have w8:=Aa (next w7.o p32);have p2:=Aa (next l7.o p32);have b0:=Aa (r1.o u32 q7 y7 _ (V8.o u32 p2.o).1 (w2.o.below p32) m7 e7);clear e7 m7 p32 w7 l7 w2;go_wp2_with fail
  refine Calls.m b0.o ?_;rintro e j5 ⟨b2,q2,r2,v3,rfl,g4,-,Z,C,p33⟩;obtain ⟨o5,o7⟩:=Sv g4 p7.o;subst o5;subst o7;obtain ⟨a3,k3,rfl,g5,-⟩:=Mv C;rw [(HV b2 q2).out];obtain ⟨C1,g3⟩:=Ae j5.heap.size;obtain ⟨c8,a7⟩:=A0 (j5.alloc (.cells (qcB b2 q2) 40))
  have H:BW j5 c8:=by rw [a7];exact bR.alloc nL _
  have x2:qj (ZQ C1 b2 q2 c8):=by rw [qj,a7,<- g3];exact Z6.new j5 _ _ _ _ _ _ _
  have v9:qj (Az c8 b2 q2):=Z.at.below H;have v7:qj (Iy c8 a3 r2):=g5.below H;have i7:=Aa (g0.o.below (next (next w8.o p33) H));have j7:=Aa a7;have j9:=Aa g3;clear g4 Z C g5 p33 H a7 g3 b0 w8 p2 g0;go_upto_region 36 with fail
  rw [<- j7.o,j9.o];clear j7 j9;obtain ⟨c0,c1,c2,c3,c4,c5,-,-,-,-,-,-⟩:=x2.o;obtain ⟨d0,d1,d2,d3,d4,d5,-,-,-,-,-,-⟩:=(V8.o c8 i7.o.lq.1).2.2;go_wp2_with fail
  refine Calls.m (i0.o c8 q2 i7.o.lq.1 v9.o) ?_;rintro e B1 ⟨rfl,p36⟩;have n9:=Aa (i7.o.below p36);have v8:qj (Iy B1 a3 r2):=v7.o.below p36;clear p36 c0 c1 c2 c3 c4 c5 d0 d1 d2 d3 d4 d5 x2 v9 v7 i7;go_wp2_with fail
  refine Calls.m (m8.o B1 a3 k3 n9.o.lq.1 v8.o) ?_;rintro e G0 ⟨rfl,p37⟩;have i9:=Aa (n9.o.below p37);clear p37 n9 v8;obtain ⟨c0,c1,c2,c3,c4,c5,-,-,-,-,-,-⟩:=i9.o.lq.2;go_wp2_with fail
  refine Calls.m (i2.o G0 i9.o.m) ?_;rintro e G1 ⟨rfl,p39⟩;have w3:=Aa (i9.o.below p39);clear p39 c0 c1 c2 c3 c4 c5 i9;go_wp2_with fail
  refine Calls.m (q9.o G1 w3.o.r) ?_;rintro e G2 ⟨rfl,p42⟩;have q6:=Aa (V8.o G2 (next w3.o.lq.1 p42)).1;clear p42;go_wp2;go_ret;exact ⟨rfl,q6.o⟩
end Go.Proofs.YtfpafnefpmmofaaGreatDoor.Kb
