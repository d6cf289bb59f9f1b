import Derived.Test.YtfpafnefpmmofaaGreatDoorKWSDo1
import Derived.Test.YtfpafnefpmmofaaGreatDoorJW3b
namespace Go.Proofs.YtfpafnefpmmofaaGreatDoor
open Go.RowKit Go.Proofs.Tryz
set_option maxRecDepth 100000
set_option maxHeartbeats 12800000
structure EB (s:Nat) (x:En) (u:ql):Prop where
 e0:u.cell? (qzA s 0)=some (qzI x.1)
 e1:u.cell? (qzA s 1)=some (qzI x.2.1)
 e2:u.cell? (qzA s 2)=some (qzI x.2.2.1)
 e3:u.cell? (qzA s 3)=some (qzI x.2.2.2)
theorem EB.below {s:Nat} {x:En} {u u':ql} (h:EB s x u) (b:BW u u'):EB s x u':=by
 have l:s<u.heap.size:=qs u _ h.e0;exact ⟨(b.c s 0 l).t h.e0,(b.c s 1 l).t h.e1,(b.c s 2 l).t h.e2,(b.c s 3 l).t h.e3⟩
theorem EB.grown {s:Nat} {x:En} {u u':ql} {row:Option Nat} (h:EB s x u) (g:u.grownBy u' row) (hr:some s≠row):EB s x u':=by
 have l:s<u.heap.size:=qs u _ h.e0;exact ⟨(g.cell_far (qzA s 0) l hr).t h.e0,(g.cell_far (qzA s 1) l hr).t h.e1,(g.cell_far (qzA s 2) l hr).t h.e2,(g.cell_far (qzA s 3) l hr).t h.e3⟩
def RS (h s:Nat) (n:Cs) (x:En) (u:ql):Prop:=u.cell? (qzA h 0)=some (qzI n.iss)/\u.cell? (qzA h 1)=some (qzI n.acq)/\u.cell? (qzA h 2)=some (qzI n.cur)/\u.cell? (qzA h 3)=some (qzI n.am)/\u.cell? (qzA h 4)=some (qzI n.st)/\u.cell? (qzA h 5)=some (qzI n.rsn)/\u.cell? (qzA h 6)=some (qzI n.cl)/\u.cell? (qzA h 7)=some (qzI n.bk)/\u.cell? (qzA h 8)=some (qzI n.fee)/\u.cell? (qzA h 9)=some (.bool n.cop)/\u.cell? (qzA h 10)=some (qzI n.sta)/\u.cell? (qzA h 11)=some (qzI n.due)/\u.cell? (qzA s 0)=some (qzI x.1)/\u.cell? (qzA s 1)=some (qzI x.2.1)/\u.cell? (qzA s 2)=some (qzI x.2.2.1)/\u.cell? (qzA s 3)=some (qzI x.2.2.2)
theorem RS.of {h s:Nat} {n:Cs} {x:En} {u:ql} (a:CB h 0 n u) (b:EB s x u):RS h s n x u:=by
 obtain ⟨f0,f1,f2,f3,f4,f5,f6,f7,f8,f9,f10,f11⟩:=a
 simp only [qu] at f0 f1 f2 f3 f4 f5 f6 f7 f8 f9 f10 f11
 exact ⟨f0,f1,f2,f3,f4,f5,f6,f7,f8,f9,f10,f11,b.e0,b.e1,b.e2,b.e3⟩
theorem Z5 (c:Cs) (x:Int) (w:ql) (hb:0<=c.bk/\c.bk<=1000000000000) (hx:0<=x/\x<=1000000000000) (hf:0<=c.fee/\c.fee<=1000000):qi 157 #[cv c,qzI x] w (Ix w (Gp c x) (Fc c x)):=by
 have HG:qj (∀ u,qi 156 #[cv c,qzI x] u (Ix u (Mr c x) (Ck c x))):=λu=>Ri c x u hb hx
 have h2:qj ((Ck c x).length<=1):=by unfold Ck;rw [qj];split <;> simp
 obtain ⟨j,i,d,am,st,r,cl,bk,q,p,v,C⟩:=c;unfold Ix at HG;unfold cv Mr at HG;unfold cv
 simp only at HG hb hf ⊢
 by_cases hc:cl<=2*x
 ·have b5:qj (Fc ⟨j,i,d,am,st,r,cl,bk,q,p,v,C⟩ x=Ck ⟨j,i,d,am,st,r,cl,bk,q,p,v,C⟩ x++[(i,9999,d,50000)]):=by simp only [qj,Fc,Tu];rw [if_pos hc]
  obtain ⟨W,F⟩:=A0 (((w.alloc (.cells #[qzI j,qzI i,qzI d,qzI am,qzI st,qzI r,qzI cl,qzI bk,qzI q,.bool p,qzI v,qzI C] 111)).alloc (.cells #[qzI 0,qzI 0,qzI 0,qzI 0,qzI 0,qzI 0,qzI 0,qzI 0,qzI 0,.bool false,qzI 0,qzI 0] 111)).alloc (.cells #[qzI i,qzI 9999,qzI d,qzI 50000] 217))
  have Z:∀ (u:ql) (o:Obj),Below u.heap.size u (u.alloc o):=λu o=>bR.alloc nL _
  have e1:(w.alloc (.cells #[qzI j,qzI i,qzI d,qzI am,qzI st,qzI r,qzI cl,qzI bk,qzI q,.bool p,qzI v,qzI C] 111)).heap.size=w.heap.size+1:=by simp
  have e2:((w.alloc (.cells #[qzI j,qzI i,qzI d,qzI am,qzI st,qzI r,qzI cl,qzI bk,qzI q,.bool p,qzI v,qzI C] 111)).alloc (.cells #[qzI 0,qzI 0,qzI 0,qzI 0,qzI 0,qzI 0,qzI 0,qzI 0,qzI 0,.bool false,qzI 0,qzI 0] 111)).heap.size=w.heap.size+1+1:=by simp
  have a8:qj (CB w.heap.size 0 ⟨j,i,d,am,st,r,cl,bk,q,p,v,C⟩ W):=by rw [qj,F];exact ((CB.new w ⟨j,i,d,am,st,r,cl,bk,q,p,v,C⟩ _).below (Z _ _)).below (Z _ _)
  have G:qj (CB (w.heap.size+1) 0 Ct W):=by
   have h:=CB.new (w.alloc (.cells #[qzI j,qzI i,qzI d,qzI am,qzI st,qzI r,qzI cl,qzI bk,qzI q,.bool p,qzI v,qzI C] 111)) Ct 111;rw [e1] at h
   rw [qj,F];exact h.below (Z _ _)
  have b1:qj (FZ (w.heap.size+1) 0 W):=by
   have h:=FZ.new (w.alloc (.cells #[qzI j,qzI i,qzI d,qzI am,qzI st,qzI r,qzI cl,qzI bk,qzI q,.bool p,qzI v,qzI C] 111)) #[qzI 0,qzI 0,qzI 0,qzI 0,qzI 0,qzI 0,qzI 0,qzI 0,qzI 0,.bool false,qzI 0,qzI 0] 111;rw [e1] at h
   rw [qj,F];exact h.below (by rw [e2];omega) (Z _ _)
  have a9:qj (EB (w.heap.size+1+1) (i,9999,d,50000) W):=by
   rw [qj,F];exact ⟨by simp [go_sem],by simp [go_sem],by simp [go_sem],by simp [go_sem]⟩
  have a7:qj (BW w W):=by rw [qj,F];go_grown
  have H:qj (W.heap.size=w.heap.size+1+1+1):=by rw [qj,F];simp
  have HW:qj _:=F;clear F Z e1 e2
  go_enter func157,ntmps157
  go_upto_region 4 with fail
  rw [<- HW.o];clear HW;obtain ⟨f0,f1,f2,f3,f4,f5,f6,f7,f8,f9,f10,f11⟩:=a8.o
  simp only [qu] at f0 f1 f2 f3 f4 f5 f6 f7 f8 f9 f10 f11
  go_wp2_with fail
  refine (HG.o _).m ?_;rintro e u ⟨ae,ke,rfl,oe,b⟩;obtain ⟨N,hN⟩:=Ae ((Ck ⟨j,i,d,am,st,r,cl,bk,q,p,v,C⟩ x).length)
  have O:qj (N<=1):=by rw [qj,<- hN];exact h2.o
  obtain ⟨E,hE⟩:=Ae (Ck ⟨j,i,d,am,st,r,cl,bk,q,p,v,C⟩ x)
  have b0:qj (E.length=N):=by rw [qj,<- hE];exact hN
  have b6:=Aa hE;rw [hN] at oe ⊢;rw [hE] at oe;obtain ⟨V,hV⟩:=A0 (u.alloc (.cells #[qzI j,qzI i,qzI d,qzI am,qzI 7,qzI r,qzI 0,qzI (bk+x),qzI (q+50000),.bool p,qzI v,qzI (-1)] 111))
  have J:BW u V:=by rw [hV];exact bR.alloc nL _
  have y:qj (CB u.heap.size 0 ⟨j,i,d,am,7,r,0,bk+x,q+50000,p,v,-1⟩ V):=by rw [qj,hV];exact CB.new u ⟨j,i,d,am,7,r,0,bk+x,q+50000,p,v,-1⟩ _
  have d7:=b.size
  have T:qj (w.heap.size+1+1<u.heap.size):=by have:=H.o;rw [qj];omega
  have HO:=Aa (A5 oe J)
  have z:qj (∀ g,(Value.slice ae N ke).ownBlock=some g->W.heap.size<=g/\g<u.heap.size):=λg hg=>oe.lt g hg
  have HB:=Aa (next (next a7.o b) J);have I:=Aa ((G.o.below b).below J);have b7:=Aa ((b1.o.below G.o.lt b).below (G.o.below b).lt J);have D:=Aa ((a9.o.below b).below J);have U:qj _:=hV;clear b oe f0 f1 f2 f3 f4 f5 f6 f7 f8 f9 f10 f11 J hN hE hV d7;go_upto_region 6 with fail
  rw [<- U.o];clear U;obtain ⟨B,hB⟩:=A0 u.heap.size;rw [<- hB] at y T z ⊢;clear hB;have S:=Aa (RS.of y.o D.o);have b4:=Aa (RS.of (y.o.below (bR.drew)) (D.o.below (bR.drew)))
  have f:qj (∀ o,(V.alloc o).cell? (qzA B 0)=some (qzI j)/\(V.alloc o).cell? (qzA B 1)=some (qzI i)/\(V.alloc o).cell? (qzA B 2)=some (qzI d)/\(V.alloc o).cell? (qzA B 3)=some (qzI am)/\(V.alloc o).cell? (qzA B 4)=some (qzI 7)/\(V.alloc o).cell? (qzA B 5)=some (qzI r)/\(V.alloc o).cell? (qzA B 6)=some (qzI 0)/\(V.alloc o).cell? (qzA B 7)=some (qzI (bk+x))/\(V.alloc o).cell? (qzA B 8)=some (qzI (q+50000))/\(V.alloc o).cell? (qzA B 9)=some (.bool p)/\(V.alloc o).cell? (qzA B 10)=some (qzI v)/\(V.alloc o).cell? (qzA B 11)=some (qzI (-1))/\(V.alloc o).cell? ⟨w.heap.size+1+1,0,none⟩=some (qzI i)/\(V.alloc o).cell? ⟨w.heap.size+1+1,1,none⟩=some (qzI 9999)/\(V.alloc o).cell? ⟨w.heap.size+1+1,2,none⟩=some (qzI d)/\(V.alloc o).cell? ⟨w.heap.size+1+1,3,none⟩=some (qzI 50000)):=λo=>RS.of (y.o.below (bR.alloc nL _)) (D.o.below (bR.alloc nL _))
  obtain ⟨i0,hi,d9,h0,h1⟩:=Nu;obtain ⟨f0,f1,f2,f3,f4,f5,f6,f7,f8,f9,f10,f11,k0,k1,k2,k3⟩:=S.o
  have b9:∀ o,(V.alloc o).cell? (qzA B 0)=some (qzI j):=λo=>(f.o o).1
  have c8:∀ o,(V.alloc o).cell? (qzA B 1)=some (qzI i):=λo=>(f.o o).2.1
  have c9:∀ o,(V.alloc o).cell? (qzA B 2)=some (qzI d):=λo=>(f.o o).2.2.1
  have d0:∀ o,(V.alloc o).cell? (qzA B 3)=some (qzI am):=λo=>(f.o o).2.2.2.1
  have d1:∀ o,(V.alloc o).cell? (qzA B 4)=some (qzI 7):=λo=>(f.o o).2.2.2.2.1
  have d2:∀ o,(V.alloc o).cell? (qzA B 5)=some (qzI r):=λo=>(f.o o).2.2.2.2.2.1
  have d3:∀ o,(V.alloc o).cell? (qzA B 6)=some (qzI 0):=λo=>(f.o o).2.2.2.2.2.2.1
  have d4:∀ o,(V.alloc o).cell? (qzA B 7)=some (qzI (bk+x)):=λo=>(f.o o).2.2.2.2.2.2.2.1
  have d5:∀ o,(V.alloc o).cell? (qzA B 8)=some (qzI (q+50000)):=λo=>(f.o o).2.2.2.2.2.2.2.2.1
  have d6:∀ o,(V.alloc o).cell? (qzA B 9)=some (.bool p):=λo=>(f.o o).2.2.2.2.2.2.2.2.2.1
  have X:∀ o,(V.alloc o).cell? (qzA B 10)=some (qzI v):=λo=>(f.o o).2.2.2.2.2.2.2.2.2.2.1
  have Y:∀ o,(V.alloc o).cell? (qzA B 11)=some (qzI (-1)):=λo=>(f.o o).2.2.2.2.2.2.2.2.2.2.2.1
  clear S b4
  go_region_law (refine Mx rfl (.tmp 33) (.tmp 35) 178 rfl W.heap.size 217 i0 _ 4 32 underlying178 hi d9 h0 h1 rfl (by decide) (qf ae N ke) N (B9 E) (by simp [Act.eval]) (A5 HO.o ((bR.drew).alloc nL _)) ⟨V.heap.size,0,none⟩ 1 1 [qzI i,qzI 9999,qzI d,qzI 50000] (by simp [Act.eval]) rfl (World.news_of_block (heap_alloc_new V.drew _)) (X9 _ _ _ _) (by have:=O.o;unfold maxLen;omega) (by have:=O.o;omega) (by have:=HB.o.size;have:=H.o;have:=T.o;have:=y.o.lt;simp;omega) ?_;intro v5 w5 o5 A _;(have o6:w5.ownsRow W.heap.size 217 4 v5 (E++[(i,9999,d,50000)]).length (B9 (E++[(i,9999,d,50000)])):=(by rw [Qp,qv,b0.o];exact o5));obtain ⟨a5,n5,d8,-,-⟩:=Ik o6;subst d8;(have R:=Aa o6);(have b3:=Aa (RS.of ((y.o.below ((bR.drew).alloc nL _)).grown A (λe=>by have:=(z.o B e.s).2;omega)) ((D.o.below ((bR.drew).alloc nL _)).grown A (λe=>by have:=(z.o _ e.s).1;have:=H.o;omega))));(have b2:=Aa ((I.o.below ((bR.drew).alloc nL _)).grown A (λe=>by have:=(z.o _ e.s).1;have:=H.o;omega)));(have b8:=Aa ((b7.o.below I.o.lt ((bR.drew).alloc nL _)).grown (I.o.below ((bR.drew).alloc nL _)).lt A (λe=>by have:=(z.o _ e.s).1;have:=H.o;omega)));(have a6:=Aa (((HB.o.drew).alloc HB.o.size _).grown A (by have:=HB.o.size;simp;omega) (λk hk=>by have:=(z.o k hk).1;have:=H.o;omega)));obtain ⟨g0,g1,g2,g3,g4,g5,g6,g7,g8,g9,a3,a4⟩:=b2.o;obtain ⟨z0,z1,z2,z3,z4,z5,z6,z7,z8,z9,z10,z11⟩:=b8.o;simp only [qu,Ct] at g0 g1 g2 g3 g4 g5 g6 g7 g8 g9 a3 a4 z0 z1 z2 z3 z4 z5 z6 z7 z8 z9 z10 z11;generalize hM:(E++[(i,9999,d,50000)]).length=M at R ⊢;(have L:qj _:=hM);obtain ⟨q0,q1,q2,q3,q4,q5,q6,q7,q8,q9,h3,h4,-,-,-,-⟩:=b3.o;clear hM o5 o6 A f0 f1 f2 f3 f4 f5 f6 f7 f8 f9 f10 f11 b9 c8 c9 d0 d1 d2 d3 d4 d5 d6 X Y k0 k1 k2 k3)
  all_goals
   go_wp2
   refine bodyPost_ret (by simp [results,results157,go_sem,g0,g1,g2,g3,g4,g5,g6,g7,g8,g9,a3,a4];try rfl) rfl ?_
   rw [b5.o,b6.o,<- L.o]
   refine Ll (c:=Gp ⟨j,i,d,am,st,r,cl,bk,q,p,v,C⟩ x) (es:=E++[(i,9999,d,50000)]) (h:=w.heap.size+1) (base:=W.heap.size) (by omega) (by have:=H.o;omega) ?_ a6.o
   rw [L.o];exact R.o
 ·have b5:qj (Fc ⟨j,i,d,am,st,r,cl,bk,q,p,v,C⟩ x=Ck ⟨j,i,d,am,st,r,cl,bk,q,p,v,C⟩ x++[(j,9999,d,50000)]):=by simp only [qj,Fc,Tu];rw [if_neg hc]
  obtain ⟨W,F⟩:=A0 (((w.alloc (.cells #[qzI j,qzI i,qzI d,qzI am,qzI st,qzI r,qzI cl,qzI bk,qzI q,.bool p,qzI v,qzI C] 111)).alloc (.cells #[qzI 0,qzI 0,qzI 0,qzI 0,qzI 0,qzI 0,qzI 0,qzI 0,qzI 0,.bool false,qzI 0,qzI 0] 111)).alloc (.cells #[qzI j,qzI 9999,qzI d,qzI 50000] 217))
  have Z:∀ (u:ql) (o:Obj),Below u.heap.size u (u.alloc o):=λu o=>bR.alloc nL _
  have e1:(w.alloc (.cells #[qzI j,qzI i,qzI d,qzI am,qzI st,qzI r,qzI cl,qzI bk,qzI q,.bool p,qzI v,qzI C] 111)).heap.size=w.heap.size+1:=by simp
  have e2:((w.alloc (.cells #[qzI j,qzI i,qzI d,qzI am,qzI st,qzI r,qzI cl,qzI bk,qzI q,.bool p,qzI v,qzI C] 111)).alloc (.cells #[qzI 0,qzI 0,qzI 0,qzI 0,qzI 0,qzI 0,qzI 0,qzI 0,qzI 0,.bool false,qzI 0,qzI 0] 111)).heap.size=w.heap.size+1+1:=by simp
  have a8:qj (CB w.heap.size 0 ⟨j,i,d,am,st,r,cl,bk,q,p,v,C⟩ W):=by rw [qj,F];exact ((CB.new w ⟨j,i,d,am,st,r,cl,bk,q,p,v,C⟩ _).below (Z _ _)).below (Z _ _)
  have G:qj (CB (w.heap.size+1) 0 Ct W):=by
   have h:=CB.new (w.alloc (.cells #[qzI j,qzI i,qzI d,qzI am,qzI st,qzI r,qzI cl,qzI bk,qzI q,.bool p,qzI v,qzI C] 111)) Ct 111;rw [e1] at h
   rw [qj,F];exact h.below (Z _ _)
  have b1:qj (FZ (w.heap.size+1) 0 W):=by
   have h:=FZ.new (w.alloc (.cells #[qzI j,qzI i,qzI d,qzI am,qzI st,qzI r,qzI cl,qzI bk,qzI q,.bool p,qzI v,qzI C] 111)) #[qzI 0,qzI 0,qzI 0,qzI 0,qzI 0,qzI 0,qzI 0,qzI 0,qzI 0,.bool false,qzI 0,qzI 0] 111;rw [e1] at h
   rw [qj,F];exact h.below (by rw [e2];omega) (Z _ _)
  have a9:qj (EB (w.heap.size+1+1) (j,9999,d,50000) W):=by
   rw [qj,F];exact ⟨by simp [go_sem],by simp [go_sem],by simp [go_sem],by simp [go_sem]⟩
  have a7:qj (BW w W):=by rw [qj,F];go_grown
  have H:qj (W.heap.size=w.heap.size+1+1+1):=by rw [qj,F];simp
  have HW:qj _:=F;clear F Z e1 e2
  go_enter func157,ntmps157
  go_upto_region 4 with fail
  rw [<- HW.o];clear HW;obtain ⟨f0,f1,f2,f3,f4,f5,f6,f7,f8,f9,f10,f11⟩:=a8.o
  simp only [qu] at f0 f1 f2 f3 f4 f5 f6 f7 f8 f9 f10 f11
  go_wp2_with fail
  refine (HG.o _).m ?_;rintro e u ⟨ae,ke,rfl,oe,b⟩;obtain ⟨N,hN⟩:=Ae ((Ck ⟨j,i,d,am,st,r,cl,bk,q,p,v,C⟩ x).length)
  have O:qj (N<=1):=by rw [qj,<- hN];exact h2.o
  obtain ⟨E,hE⟩:=Ae (Ck ⟨j,i,d,am,st,r,cl,bk,q,p,v,C⟩ x)
  have b0:qj (E.length=N):=by rw [qj,<- hE];exact hN
  have b6:=Aa hE;rw [hN] at oe ⊢;rw [hE] at oe;obtain ⟨V,hV⟩:=A0 (u.alloc (.cells #[qzI j,qzI i,qzI d,qzI am,qzI 7,qzI r,qzI 0,qzI (bk+x),qzI (q+50000),.bool p,qzI v,qzI (-1)] 111))
  have J:BW u V:=by rw [hV];exact bR.alloc nL _
  have y:qj (CB u.heap.size 0 ⟨j,i,d,am,7,r,0,bk+x,q+50000,p,v,-1⟩ V):=by rw [qj,hV];exact CB.new u ⟨j,i,d,am,7,r,0,bk+x,q+50000,p,v,-1⟩ _
  have d7:=b.size
  have T:qj (w.heap.size+1+1<u.heap.size):=by have:=H.o;rw [qj];omega
  have HO:=Aa (A5 oe J)
  have z:qj (∀ g,(Value.slice ae N ke).ownBlock=some g->W.heap.size<=g/\g<u.heap.size):=λg hg=>oe.lt g hg
  have HB:=Aa (next (next a7.o b) J);have I:=Aa ((G.o.below b).below J);have b7:=Aa ((b1.o.below G.o.lt b).below (G.o.below b).lt J);have D:=Aa ((a9.o.below b).below J);have U:qj _:=hV;clear b oe f0 f1 f2 f3 f4 f5 f6 f7 f8 f9 f10 f11 J hN hE hV d7;go_upto_region 6 with fail
  rw [<- U.o];clear U;obtain ⟨B,hB⟩:=A0 u.heap.size;rw [<- hB] at y T z ⊢;clear hB;have S:=Aa (RS.of y.o D.o);have b4:=Aa (RS.of (y.o.below (bR.drew)) (D.o.below (bR.drew)))
  have f:qj (∀ o,(V.alloc o).cell? (qzA B 0)=some (qzI j)/\(V.alloc o).cell? (qzA B 1)=some (qzI i)/\(V.alloc o).cell? (qzA B 2)=some (qzI d)/\(V.alloc o).cell? (qzA B 3)=some (qzI am)/\(V.alloc o).cell? (qzA B 4)=some (qzI 7)/\(V.alloc o).cell? (qzA B 5)=some (qzI r)/\(V.alloc o).cell? (qzA B 6)=some (qzI 0)/\(V.alloc o).cell? (qzA B 7)=some (qzI (bk+x))/\(V.alloc o).cell? (qzA B 8)=some (qzI (q+50000))/\(V.alloc o).cell? (qzA B 9)=some (.bool p)/\(V.alloc o).cell? (qzA B 10)=some (qzI v)/\(V.alloc o).cell? (qzA B 11)=some (qzI (-1))/\(V.alloc o).cell? ⟨w.heap.size+1+1,0,none⟩=some (qzI j)/\(V.alloc o).cell? ⟨w.heap.size+1+1,1,none⟩=some (qzI 9999)/\(V.alloc o).cell? ⟨w.heap.size+1+1,2,none⟩=some (qzI d)/\(V.alloc o).cell? ⟨w.heap.size+1+1,3,none⟩=some (qzI 50000)):=λo=>RS.of (y.o.below (bR.alloc nL _)) (D.o.below (bR.alloc nL _))
  obtain ⟨i0,hi,d9,h0,h1⟩:=Nu;obtain ⟨f0,f1,f2,f3,f4,f5,f6,f7,f8,f9,f10,f11,k0,k1,k2,k3⟩:=S.o
  have b9:∀ o,(V.alloc o).cell? (qzA B 0)=some (qzI j):=λo=>(f.o o).1
  have c8:∀ o,(V.alloc o).cell? (qzA B 1)=some (qzI i):=λo=>(f.o o).2.1
  have c9:∀ o,(V.alloc o).cell? (qzA B 2)=some (qzI d):=λo=>(f.o o).2.2.1
  have d0:∀ o,(V.alloc o).cell? (qzA B 3)=some (qzI am):=λo=>(f.o o).2.2.2.1
  have d1:∀ o,(V.alloc o).cell? (qzA B 4)=some (qzI 7):=λo=>(f.o o).2.2.2.2.1
  have d2:∀ o,(V.alloc o).cell? (qzA B 5)=some (qzI r):=λo=>(f.o o).2.2.2.2.2.1
  have d3:∀ o,(V.alloc o).cell? (qzA B 6)=some (qzI 0):=λo=>(f.o o).2.2.2.2.2.2.1
  have d4:∀ o,(V.alloc o).cell? (qzA B 7)=some (qzI (bk+x)):=λo=>(f.o o).2.2.2.2.2.2.2.1
  have d5:∀ o,(V.alloc o).cell? (qzA B 8)=some (qzI (q+50000)):=λo=>(f.o o).2.2.2.2.2.2.2.2.1
  have d6:∀ o,(V.alloc o).cell? (qzA B 9)=some (.bool p):=λo=>(f.o o).2.2.2.2.2.2.2.2.2.1
  have X:∀ o,(V.alloc o).cell? (qzA B 10)=some (qzI v):=λo=>(f.o o).2.2.2.2.2.2.2.2.2.2.1
  have Y:∀ o,(V.alloc o).cell? (qzA B 11)=some (qzI (-1)):=λo=>(f.o o).2.2.2.2.2.2.2.2.2.2.2.1
  clear S b4
  go_region_law (refine Mx rfl (.tmp 33) (.tmp 35) 178 rfl W.heap.size 217 i0 _ 4 32 underlying178 hi d9 h0 h1 rfl (by decide) (qf ae N ke) N (B9 E) (by simp [Act.eval]) (A5 HO.o ((bR.drew).alloc nL _)) ⟨V.heap.size,0,none⟩ 1 1 [qzI j,qzI 9999,qzI d,qzI 50000] (by simp [Act.eval]) rfl (World.news_of_block (heap_alloc_new V.drew _)) (X9 _ _ _ _) (by have:=O.o;unfold maxLen;omega) (by have:=O.o;omega) (by have:=HB.o.size;have:=H.o;have:=T.o;have:=y.o.lt;simp;omega) ?_;intro v5 w5 o5 A _;(have o6:w5.ownsRow W.heap.size 217 4 v5 (E++[(j,9999,d,50000)]).length (B9 (E++[(j,9999,d,50000)])):=(by rw [Qp,qv,b0.o];exact o5));obtain ⟨a5,n5,d8,-,-⟩:=Ik o6;subst d8;(have R:=Aa o6);(have b3:=Aa (RS.of ((y.o.below ((bR.drew).alloc nL _)).grown A (λe=>by have:=(z.o B e.s).2;omega)) ((D.o.below ((bR.drew).alloc nL _)).grown A (λe=>by have:=(z.o _ e.s).1;have:=H.o;omega))));(have b2:=Aa ((I.o.below ((bR.drew).alloc nL _)).grown A (λe=>by have:=(z.o _ e.s).1;have:=H.o;omega)));(have b8:=Aa ((b7.o.below I.o.lt ((bR.drew).alloc nL _)).grown (I.o.below ((bR.drew).alloc nL _)).lt A (λe=>by have:=(z.o _ e.s).1;have:=H.o;omega)));(have a6:=Aa (((HB.o.drew).alloc HB.o.size _).grown A (by have:=HB.o.size;simp;omega) (λk hk=>by have:=(z.o k hk).1;have:=H.o;omega)));obtain ⟨g0,g1,g2,g3,g4,g5,g6,g7,g8,g9,a3,a4⟩:=b2.o;obtain ⟨z0,z1,z2,z3,z4,z5,z6,z7,z8,z9,z10,z11⟩:=b8.o;simp only [qu,Ct] at g0 g1 g2 g3 g4 g5 g6 g7 g8 g9 a3 a4 z0 z1 z2 z3 z4 z5 z6 z7 z8 z9 z10 z11;generalize hM:(E++[(j,9999,d,50000)]).length=M at R ⊢;(have L:qj _:=hM);obtain ⟨q0,q1,q2,q3,q4,q5,q6,q7,q8,q9,h3,h4,-,-,-,-⟩:=b3.o;clear hM o5 o6 A f0 f1 f2 f3 f4 f5 f6 f7 f8 f9 f10 f11 b9 c8 c9 d0 d1 d2 d3 d4 d5 d6 X Y k0 k1 k2 k3)
  all_goals
   go_wp2
   refine bodyPost_ret (by simp [results,results157,go_sem,g0,g1,g2,g3,g4,g5,g6,g7,g8,g9,a3,a4];try rfl) rfl ?_
   rw [b5.o,b6.o,<- L.o]
   refine Ll (c:=Gp ⟨j,i,d,am,st,r,cl,bk,q,p,v,C⟩ x) (es:=E++[(j,9999,d,50000)]) (h:=w.heap.size+1) (base:=W.heap.size) (by omega) (by have:=H.o;omega) ?_ a6.o
   rw [L.o];exact R.o
end Go.Proofs.YtfpafnefpmmofaaGreatDoor
