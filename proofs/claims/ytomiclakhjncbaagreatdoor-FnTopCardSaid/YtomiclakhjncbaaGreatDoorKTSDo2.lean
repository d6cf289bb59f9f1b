import Derived.Test.YtomiclakhjncbaaGreatDoorKTSDo1
import Derived.Test.YtomiclakhjncbaaGreatDoorJT3a
namespace Go.Proofs.YtomiclakhjncbaaGreatDoor
open Go.RowKit Go.Proofs.Tryz
set_option maxRecDepth 100000
set_option maxHeartbeats 12800000
structure EB (s:Nat) (x:En) (u:World):Prop where
 e0:u.cell? (qzA s 0)=some (qzI x.1)
 e1:u.cell? (qzA s 1)=some (qzI x.2.1)
 e2:u.cell? (qzA s 2)=some (qzI x.2.2.1)
 e3:u.cell? (qzA s 3)=some (qzI x.2.2.2)
theorem EB.below {s:Nat} {x:En} {u u':World} (h:EB s x u) (b:BW u u'):EB s x u':=by
 have l:s<u.heap.size:=World.block_lt_of_cell? u _ h.e0;exact ⟨(b.cell (p:=(qzA s 0)) l).trans h.e0,(b.cell (p:=(qzA s 1)) l).trans h.e1,(b.cell (p:=(qzA s 2)) l).trans h.e2,(b.cell (p:=(qzA s 3)) l).trans h.e3⟩
theorem EB.grown {s:Nat} {x:En} {u u':World} {row:Option Nat} (h:EB s x u) (g:u.grownBy u' row) (hr:some s≠row):EB s x u':=by
 have l:s<u.heap.size:=World.block_lt_of_cell? u _ h.e0;exact ⟨(g.cell_far (qzA s 0) l hr).trans h.e0,(g.cell_far (qzA s 1) l hr).trans h.e1,(g.cell_far (qzA s 2) l hr).trans h.e2,(g.cell_far (qzA s 3) l hr).trans h.e3⟩
def RS (h s:Nat) (n:Cs) (x:En) (u:World):Prop:=u.cell? (qzA h 0)=some (qzI n.iss)/\u.cell? (qzA h 1)=some (qzI n.acq)/\u.cell? (qzA h 2)=some (qzI n.cur)/\u.cell? (qzA h 3)=some (qzI n.am)/\u.cell? (qzA h 4)=some (qzI n.st)/\u.cell? (qzA h 5)=some (qzI n.rsn)/\u.cell? (qzA h 6)=some (qzI n.cl)/\u.cell? (qzA h 7)=some (qzI n.bk)/\u.cell? (qzA h 8)=some (qzI n.fee)/\u.cell? (qzA h 9)=some (.bool n.cop)/\u.cell? (qzA h 10)=some (qzI n.sta)/\u.cell? (qzA h 11)=some (qzI n.due)/\u.cell? (qzA s 0)=some (qzI x.1)/\u.cell? (qzA s 1)=some (qzI x.2.1)/\u.cell? (qzA s 2)=some (qzI x.2.2.1)/\u.cell? (qzA s 3)=some (qzI x.2.2.2)
theorem RS.of {h s:Nat} {n:Cs} {x:En} {u:World} (a:CB h 0 n u) (b:EB s x u):RS h s n x u:=by
 obtain ⟨f0,f1,f2,f3,f4,f5,f6,f7,f8,f9,f10,f11⟩:=a
 simp only [Nat.zero_add] at f0 f1 f2 f3 f4 f5 f6 f7 f8 f9 f10 f11
 exact ⟨f0,f1,f2,f3,f4,f5,f6,f7,f8,f9,f10,f11,b.e0,b.e1,b.e2,b.e3⟩
theorem Tr (c:Cs) (x:Int) (w:World) (hb:0<=c.bk/\c.bk<=1000000000000) (hx:0<=x/\x<=1000000000000) (hf:0<=c.fee/\c.fee<=1000000):Calls prog 226 #[cv c,qzI x] w (Gr w (Es c x) (Dg c x)):=by
 have HG:Hid (∀ u,Calls prog 225 #[cv c,qzI x] u (Gr u (I5 c x) (Bg c x))):=fun u=>M8 c x u hb hx
 have h2:Hid ((Bg c x).length<=1):=by unfold Bg;rw [Hid];split <;> simp
 obtain ⟨i,f,d,am,st,t,cl,bk,r,q,v,C⟩:=c;unfold Gr at HG;unfold cv I5 at HG;unfold cv
 simp only at HG hb hf ⊢
 by_cases hc:cl<=2*x
 ·have b5:Hid (Dg ⟨i,f,d,am,st,t,cl,bk,r,q,v,C⟩ x=Bg ⟨i,f,d,am,st,t,cl,bk,r,q,v,C⟩ x++[(f,9999,d,50000)]):=by simp only [Hid,Dg,Oo];rw [if_pos hc]
  obtain ⟨W,F⟩:∃ W,W=((w.alloc (.cells #[qzI i,qzI f,qzI d,qzI am,qzI st,qzI t,qzI cl,qzI bk,qzI r,.bool q,qzI v,qzI C] 61)).alloc (.cells #[qzI 0,qzI 0,qzI 0,qzI 0,qzI 0,qzI 0,qzI 0,qzI 0,qzI 0,.bool false,qzI 0,qzI 0] 61)).alloc (.cells #[qzI f,qzI 9999,qzI d,qzI 50000] 269):=⟨_,rfl⟩
  have Z:∀ (u:World) (o:Obj),Below u.heap.size u (u.alloc o):=fun u o=>bR.alloc nL _
  have e1:(w.alloc (.cells #[qzI i,qzI f,qzI d,qzI am,qzI st,qzI t,qzI cl,qzI bk,qzI r,.bool q,qzI v,qzI C] 61)).heap.size=w.heap.size+1:=by simp
  have e2:((w.alloc (.cells #[qzI i,qzI f,qzI d,qzI am,qzI st,qzI t,qzI cl,qzI bk,qzI r,.bool q,qzI v,qzI C] 61)).alloc (.cells #[qzI 0,qzI 0,qzI 0,qzI 0,qzI 0,qzI 0,qzI 0,qzI 0,qzI 0,.bool false,qzI 0,qzI 0] 61)).heap.size=w.heap.size+1+1:=by simp
  have a8:Hid (CB w.heap.size 0 ⟨i,f,d,am,st,t,cl,bk,r,q,v,C⟩ W):=by rw [Hid,F];exact ((CB.new w ⟨i,f,d,am,st,t,cl,bk,r,q,v,C⟩ _).below (Z _ _)).below (Z _ _)
  have G:Hid (CB (w.heap.size+1) 0 Br W):=by
   have h:=CB.new (w.alloc (.cells #[qzI i,qzI f,qzI d,qzI am,qzI st,qzI t,qzI cl,qzI bk,qzI r,.bool q,qzI v,qzI C] 61)) Br 61;rw [e1] at h
   rw [Hid,F];exact h.below (Z _ _)
  have b1:Hid (FZ (w.heap.size+1) 0 W):=by
   have h:=FZ.new (w.alloc (.cells #[qzI i,qzI f,qzI d,qzI am,qzI st,qzI t,qzI cl,qzI bk,qzI r,.bool q,qzI v,qzI C] 61)) #[qzI 0,qzI 0,qzI 0,qzI 0,qzI 0,qzI 0,qzI 0,qzI 0,qzI 0,.bool false,qzI 0,qzI 0] 61;rw [e1] at h
   rw [Hid,F];exact h.below (by rw [e2];omega) (Z _ _)
  have a9:Hid (EB (w.heap.size+1+1) (f,9999,d,50000) W):=by
   rw [Hid,F];exact ⟨by simp [go_sem],by simp [go_sem],by simp [go_sem],by simp [go_sem]⟩
  have a7:Hid (BW w W):=by rw [Hid,F];go_grown
  have H:Hid (W.heap.size=w.heap.size+1+1+1):=by rw [Hid,F];simp
  have HW:Hid _:=F;clear F Z e1 e2
  go_enter func226,ntmps226
  go_upto_region 4 with fail
  rw [<- HW.o];clear HW;obtain ⟨f0,f1,f2,f3,f4,f5,f6,f7,f8,f9,f10,f11⟩:=a8.o
  simp only [Nat.zero_add] at f0 f1 f2 f3 f4 f5 f6 f7 f8 f9 f10 f11
  go_wp2_with fail
  refine (HG.o _).mono ?_;rintro e u ⟨ae,ke,rfl,oe,b⟩;obtain ⟨N,hN⟩:∃ N,(Bg ⟨i,f,d,am,st,t,cl,bk,r,q,v,C⟩ x).length=N:=⟨_,rfl⟩
  have O:Hid (N<=1):=by rw [Hid,<- hN];exact h2.o
  obtain ⟨E,hE⟩:∃ E,Bg ⟨i,f,d,am,st,t,cl,bk,r,q,v,C⟩ x=E:=⟨_,rfl⟩
  have b0:Hid (E.length=N):=by rw [Hid,<- hE];exact hN
  have b6:Hid (Bg ⟨i,f,d,am,st,t,cl,bk,r,q,v,C⟩ x=E):=hE;rw [hN] at oe ⊢;rw [hE] at oe;obtain ⟨V,hV⟩:∃ V,V=u.alloc (.cells #[qzI i,qzI f,qzI d,qzI am,qzI 7,qzI t,qzI 0,qzI (bk+x),qzI (r+50000),.bool q,qzI v,qzI (-1)] 61):=⟨_,rfl⟩
  have J:BW u V:=by rw [hV];exact bR.alloc nL _
  have y:Hid (CB u.heap.size 0 ⟨i,f,d,am,7,t,0,bk+x,r+50000,q,v,-1⟩ V):=by rw [Hid,hV];exact CB.new u ⟨i,f,d,am,7,t,0,bk+x,r+50000,q,v,-1⟩ _
  have d7:=b.size
  have T:Hid (w.heap.size+1+1<u.heap.size):=by have:=H.o;rw [Hid];omega
  have HO:Hid (V.ownsRow W.heap.size 269 4 (.slice ae N ke) N (Ba E)):=Av oe J
  have z:Hid (∀ g,(Value.slice ae N ke).ownBlock=some g->W.heap.size<=g/\g<u.heap.size):=fun g hg=>oe.lt g hg
  have HB:Hid (BW w V):=next (next a7.o b) J;have I:Hid (CB (w.heap.size+1) 0 Br V):=(G.o.below b).below J;have b7:Hid (FZ (w.heap.size+1) 0 V):=(b1.o.below G.o.lt b).below (G.o.below b).lt J;have D:Hid (EB (w.heap.size+1+1) (f,9999,d,50000) V):=(a9.o.below b).below J;have U:Hid _:=hV;clear b oe f0 f1 f2 f3 f4 f5 f6 f7 f8 f9 f10 f11 J hN hE hV d7;go_upto_region 6 with fail
  rw [<- U.o];clear U;obtain ⟨B,hB⟩:∃ B,B=u.heap.size:=⟨_,rfl⟩;rw [<- hB] at y T z ⊢;clear hB;have S:Hid (V.cell? (qzA B 0)=some (qzI i)/\V.cell? (qzA B 1)=some (qzI f)/\V.cell? (qzA B 2)=some (qzI d)/\V.cell? (qzA B 3)=some (qzI am)/\V.cell? (qzA B 4)=some (qzI 7)/\V.cell? (qzA B 5)=some (qzI t)/\V.cell? (qzA B 6)=some (qzI 0)/\V.cell? (qzA B 7)=some (qzI (bk+x))/\V.cell? (qzA B 8)=some (qzI (r+50000))/\V.cell? (qzA B 9)=some (.bool q)/\V.cell? (qzA B 10)=some (qzI v)/\V.cell? (qzA B 11)=some (qzI (-1))/\V.cell? ⟨w.heap.size+1+1,0,none⟩=some (qzI f)/\V.cell? ⟨w.heap.size+1+1,1,none⟩=some (qzI 9999)/\V.cell? ⟨w.heap.size+1+1,2,none⟩=some (qzI d)/\V.cell? ⟨w.heap.size+1+1,3,none⟩=some (qzI 50000)):=RS.of y.o D.o;have b4:Hid (V.drew.cell? (qzA B 0)=some (qzI i)/\V.drew.cell? (qzA B 1)=some (qzI f)/\V.drew.cell? (qzA B 2)=some (qzI d)/\V.drew.cell? (qzA B 3)=some (qzI am)/\V.drew.cell? (qzA B 4)=some (qzI 7)/\V.drew.cell? (qzA B 5)=some (qzI t)/\V.drew.cell? (qzA B 6)=some (qzI 0)/\V.drew.cell? (qzA B 7)=some (qzI (bk+x))/\V.drew.cell? (qzA B 8)=some (qzI (r+50000))/\V.drew.cell? (qzA B 9)=some (.bool q)/\V.drew.cell? (qzA B 10)=some (qzI v)/\V.drew.cell? (qzA B 11)=some (qzI (-1))/\V.drew.cell? ⟨w.heap.size+1+1,0,none⟩=some (qzI f)/\V.drew.cell? ⟨w.heap.size+1+1,1,none⟩=some (qzI 9999)/\V.drew.cell? ⟨w.heap.size+1+1,2,none⟩=some (qzI d)/\V.drew.cell? ⟨w.heap.size+1+1,3,none⟩=some (qzI 50000)):=RS.of (y.o.below (bR.drew)) (D.o.below (bR.drew))
  have j:Hid (∀ o,(V.alloc o).cell? (qzA B 0)=some (qzI i)/\(V.alloc o).cell? (qzA B 1)=some (qzI f)/\(V.alloc o).cell? (qzA B 2)=some (qzI d)/\(V.alloc o).cell? (qzA B 3)=some (qzI am)/\(V.alloc o).cell? (qzA B 4)=some (qzI 7)/\(V.alloc o).cell? (qzA B 5)=some (qzI t)/\(V.alloc o).cell? (qzA B 6)=some (qzI 0)/\(V.alloc o).cell? (qzA B 7)=some (qzI (bk+x))/\(V.alloc o).cell? (qzA B 8)=some (qzI (r+50000))/\(V.alloc o).cell? (qzA B 9)=some (.bool q)/\(V.alloc o).cell? (qzA B 10)=some (qzI v)/\(V.alloc o).cell? (qzA B 11)=some (qzI (-1))/\(V.alloc o).cell? ⟨w.heap.size+1+1,0,none⟩=some (qzI f)/\(V.alloc o).cell? ⟨w.heap.size+1+1,1,none⟩=some (qzI 9999)/\(V.alloc o).cell? ⟨w.heap.size+1+1,2,none⟩=some (qzI d)/\(V.alloc o).cell? ⟨w.heap.size+1+1,3,none⟩=some (qzI 50000)):=fun o=>RS.of (y.o.below (bR.alloc nL _)) (D.o.below (bR.alloc nL _))
  obtain ⟨i0,hi,d9,h0,h1⟩:=Kd;obtain ⟨f0,f1,f2,f3,f4,f5,f6,f7,f8,f9,f10,f11,k0,k1,k2,k3⟩:=S.o
  have b9:∀ o,(V.alloc o).cell? (qzA B 0)=some (qzI i):=fun o=>(j.o o).1
  have c8:∀ o,(V.alloc o).cell? (qzA B 1)=some (qzI f):=fun o=>(j.o o).2.1
  have c9:∀ o,(V.alloc o).cell? (qzA B 2)=some (qzI d):=fun o=>(j.o o).2.2.1
  have d0:∀ o,(V.alloc o).cell? (qzA B 3)=some (qzI am):=fun o=>(j.o o).2.2.2.1
  have d1:∀ o,(V.alloc o).cell? (qzA B 4)=some (qzI 7):=fun o=>(j.o o).2.2.2.2.1
  have d2:∀ o,(V.alloc o).cell? (qzA B 5)=some (qzI t):=fun o=>(j.o o).2.2.2.2.2.1
  have d3:∀ o,(V.alloc o).cell? (qzA B 6)=some (qzI 0):=fun o=>(j.o o).2.2.2.2.2.2.1
  have d4:∀ o,(V.alloc o).cell? (qzA B 7)=some (qzI (bk+x)):=fun o=>(j.o o).2.2.2.2.2.2.2.1
  have d5:∀ o,(V.alloc o).cell? (qzA B 8)=some (qzI (r+50000)):=fun o=>(j.o o).2.2.2.2.2.2.2.2.1
  have d6:∀ o,(V.alloc o).cell? (qzA B 9)=some (.bool q):=fun o=>(j.o o).2.2.2.2.2.2.2.2.2.1
  have X:∀ o,(V.alloc o).cell? (qzA B 10)=some (qzI v):=fun o=>(j.o o).2.2.2.2.2.2.2.2.2.2.1
  have Y:∀ o,(V.alloc o).cell? (qzA B 11)=some (qzI (-1)):=fun o=>(j.o o).2.2.2.2.2.2.2.2.2.2.2.1
  clear S b4
  go_region_law (refine Jg rfl (.tmp 33) (.tmp 35) 216 rfl W.heap.size 269 i0 _ 4 32 underlying216 hi d9 h0 h1 rfl (by decide) (.slice ae N ke) N (Ba E) (by simp [Act.eval]) (Av HO.o ((bR.drew).alloc nL _)) ⟨V.heap.size,0,none⟩ 1 1 [qzI f,qzI 9999,qzI d,qzI 50000] (by simp [Act.eval]) rfl (World.news_of_block (heap_alloc_new V.drew _)) (Q1 _ _ _ _) (by have:=O.o;unfold maxLen;omega) (by have:=O.o;omega) (by have:=HB.o.size;have:=H.o;have:=T.o;have:=y.o.lt;simp;omega) ?_;intro v5 m o5 A _;(have o6:m.ownsRow W.heap.size 269 4 v5 (E++[(f,9999,d,50000)]).length (Ba (E++[(f,9999,d,50000)])):=(by rw [Lt,List.length_append,b0.o];exact o5));obtain ⟨a5,n5,d8,-,-⟩:=Gh o6;subst d8;(have R:Hid (m.ownsRow W.heap.size 269 4 (.slice a5 (E++[(f,9999,d,50000)]).length n5) (E++[(f,9999,d,50000)]).length (Ba (E++[(f,9999,d,50000)]))):=o6);(have b3:Hid (m.cell? (qzA B 0)=some (qzI i)/\m.cell? (qzA B 1)=some (qzI f)/\m.cell? (qzA B 2)=some (qzI d)/\m.cell? (qzA B 3)=some (qzI am)/\m.cell? (qzA B 4)=some (qzI 7)/\m.cell? (qzA B 5)=some (qzI t)/\m.cell? (qzA B 6)=some (qzI 0)/\m.cell? (qzA B 7)=some (qzI (bk+x))/\m.cell? (qzA B 8)=some (qzI (r+50000))/\m.cell? (qzA B 9)=some (.bool q)/\m.cell? (qzA B 10)=some (qzI v)/\m.cell? (qzA B 11)=some (qzI (-1))/\m.cell? ⟨w.heap.size+1+1,0,none⟩=some (qzI f)/\m.cell? ⟨w.heap.size+1+1,1,none⟩=some (qzI 9999)/\m.cell? ⟨w.heap.size+1+1,2,none⟩=some (qzI d)/\m.cell? ⟨w.heap.size+1+1,3,none⟩=some (qzI 50000)):=RS.of ((y.o.below ((bR.drew).alloc nL _)).grown A (fun e=>by have:=(z.o B e.symm).2;omega)) ((D.o.below ((bR.drew).alloc nL _)).grown A (fun e=>by have:=(z.o _ e.symm).1;have:=H.o;omega)));(have b2:Hid (CB (w.heap.size+1) 0 Br m):=(I.o.below ((bR.drew).alloc nL _)).grown A (fun e=>by have:=(z.o _ e.symm).1;have:=H.o;omega));(have b8:Hid (FZ (w.heap.size+1) 0 m):=(b7.o.below I.o.lt ((bR.drew).alloc nL _)).grown (I.o.below ((bR.drew).alloc nL _)).lt A (fun e=>by have:=(z.o _ e.symm).1;have:=H.o;omega));(have a6:Hid (BW w m):=((HB.o.drew).alloc HB.o.size _).grown A (by have:=HB.o.size;simp;omega) (fun k hk=>by have:=(z.o k hk).1;have:=H.o;omega));obtain ⟨g0,g1,g2,g3,g4,g5,g6,g7,g8,g9,a3,a4⟩:=b2.o;obtain ⟨z0,z1,z2,z3,z4,z5,z6,z7,z8,z9,z10,z11⟩:=b8.o;simp only [Nat.zero_add,Br] at g0 g1 g2 g3 g4 g5 g6 g7 g8 g9 a3 a4 z0 z1 z2 z3 z4 z5 z6 z7 z8 z9 z10 z11;generalize hM:(E++[(f,9999,d,50000)]).length=M at R ⊢;(have L:Hid _:=hM);obtain ⟨q0,q1,q2,q3,q4,q5,q6,q7,q8,q9,h3,h4,-,-,-,-⟩:=b3.o;clear hM o5 o6 A f0 f1 f2 f3 f4 f5 f6 f7 f8 f9 f10 f11 b9 c8 c9 d0 d1 d2 d3 d4 d5 d6 X Y k0 k1 k2 k3)
  all_goals
   go_wp2
   refine bodyPost_ret (by simp [results,results226,go_sem,g0,g1,g2,g3,g4,g5,g6,g7,g8,g9,a3,a4];try rfl) rfl ?_
   rw [b5.o,b6.o,<- L.o]
   refine Iq (c:=Es ⟨i,f,d,am,st,t,cl,bk,r,q,v,C⟩ x) (es:=E++[(f,9999,d,50000)]) (h:=w.heap.size+1) (base:=W.heap.size) (by omega) (by have:=H.o;omega) ?_ a6.o
   rw [L.o];exact R.o
 ·have b5:Hid (Dg ⟨i,f,d,am,st,t,cl,bk,r,q,v,C⟩ x=Bg ⟨i,f,d,am,st,t,cl,bk,r,q,v,C⟩ x++[(i,9999,d,50000)]):=by simp only [Hid,Dg,Oo];rw [if_neg hc]
  obtain ⟨W,F⟩:∃ W,W=((w.alloc (.cells #[qzI i,qzI f,qzI d,qzI am,qzI st,qzI t,qzI cl,qzI bk,qzI r,.bool q,qzI v,qzI C] 61)).alloc (.cells #[qzI 0,qzI 0,qzI 0,qzI 0,qzI 0,qzI 0,qzI 0,qzI 0,qzI 0,.bool false,qzI 0,qzI 0] 61)).alloc (.cells #[qzI i,qzI 9999,qzI d,qzI 50000] 269):=⟨_,rfl⟩
  have Z:∀ (u:World) (o:Obj),Below u.heap.size u (u.alloc o):=fun u o=>bR.alloc nL _
  have e1:(w.alloc (.cells #[qzI i,qzI f,qzI d,qzI am,qzI st,qzI t,qzI cl,qzI bk,qzI r,.bool q,qzI v,qzI C] 61)).heap.size=w.heap.size+1:=by simp
  have e2:((w.alloc (.cells #[qzI i,qzI f,qzI d,qzI am,qzI st,qzI t,qzI cl,qzI bk,qzI r,.bool q,qzI v,qzI C] 61)).alloc (.cells #[qzI 0,qzI 0,qzI 0,qzI 0,qzI 0,qzI 0,qzI 0,qzI 0,qzI 0,.bool false,qzI 0,qzI 0] 61)).heap.size=w.heap.size+1+1:=by simp
  have a8:Hid (CB w.heap.size 0 ⟨i,f,d,am,st,t,cl,bk,r,q,v,C⟩ W):=by rw [Hid,F];exact ((CB.new w ⟨i,f,d,am,st,t,cl,bk,r,q,v,C⟩ _).below (Z _ _)).below (Z _ _)
  have G:Hid (CB (w.heap.size+1) 0 Br W):=by
   have h:=CB.new (w.alloc (.cells #[qzI i,qzI f,qzI d,qzI am,qzI st,qzI t,qzI cl,qzI bk,qzI r,.bool q,qzI v,qzI C] 61)) Br 61;rw [e1] at h
   rw [Hid,F];exact h.below (Z _ _)
  have b1:Hid (FZ (w.heap.size+1) 0 W):=by
   have h:=FZ.new (w.alloc (.cells #[qzI i,qzI f,qzI d,qzI am,qzI st,qzI t,qzI cl,qzI bk,qzI r,.bool q,qzI v,qzI C] 61)) #[qzI 0,qzI 0,qzI 0,qzI 0,qzI 0,qzI 0,qzI 0,qzI 0,qzI 0,.bool false,qzI 0,qzI 0] 61;rw [e1] at h
   rw [Hid,F];exact h.below (by rw [e2];omega) (Z _ _)
  have a9:Hid (EB (w.heap.size+1+1) (i,9999,d,50000) W):=by
   rw [Hid,F];exact ⟨by simp [go_sem],by simp [go_sem],by simp [go_sem],by simp [go_sem]⟩
  have a7:Hid (BW w W):=by rw [Hid,F];go_grown
  have H:Hid (W.heap.size=w.heap.size+1+1+1):=by rw [Hid,F];simp
  have HW:Hid _:=F;clear F Z e1 e2
  go_enter func226,ntmps226
  go_upto_region 4 with fail
  rw [<- HW.o];clear HW;obtain ⟨f0,f1,f2,f3,f4,f5,f6,f7,f8,f9,f10,f11⟩:=a8.o
  simp only [Nat.zero_add] at f0 f1 f2 f3 f4 f5 f6 f7 f8 f9 f10 f11
  go_wp2_with fail
  refine (HG.o _).mono ?_;rintro e u ⟨ae,ke,rfl,oe,b⟩;obtain ⟨N,hN⟩:∃ N,(Bg ⟨i,f,d,am,st,t,cl,bk,r,q,v,C⟩ x).length=N:=⟨_,rfl⟩
  have O:Hid (N<=1):=by rw [Hid,<- hN];exact h2.o
  obtain ⟨E,hE⟩:∃ E,Bg ⟨i,f,d,am,st,t,cl,bk,r,q,v,C⟩ x=E:=⟨_,rfl⟩
  have b0:Hid (E.length=N):=by rw [Hid,<- hE];exact hN
  have b6:Hid (Bg ⟨i,f,d,am,st,t,cl,bk,r,q,v,C⟩ x=E):=hE;rw [hN] at oe ⊢;rw [hE] at oe;obtain ⟨V,hV⟩:∃ V,V=u.alloc (.cells #[qzI i,qzI f,qzI d,qzI am,qzI 7,qzI t,qzI 0,qzI (bk+x),qzI (r+50000),.bool q,qzI v,qzI (-1)] 61):=⟨_,rfl⟩
  have J:BW u V:=by rw [hV];exact bR.alloc nL _
  have y:Hid (CB u.heap.size 0 ⟨i,f,d,am,7,t,0,bk+x,r+50000,q,v,-1⟩ V):=by rw [Hid,hV];exact CB.new u ⟨i,f,d,am,7,t,0,bk+x,r+50000,q,v,-1⟩ _
  have d7:=b.size
  have T:Hid (w.heap.size+1+1<u.heap.size):=by have:=H.o;rw [Hid];omega
  have HO:Hid (V.ownsRow W.heap.size 269 4 (.slice ae N ke) N (Ba E)):=Av oe J
  have z:Hid (∀ g,(Value.slice ae N ke).ownBlock=some g->W.heap.size<=g/\g<u.heap.size):=fun g hg=>oe.lt g hg
  have HB:Hid (BW w V):=next (next a7.o b) J;have I:Hid (CB (w.heap.size+1) 0 Br V):=(G.o.below b).below J;have b7:Hid (FZ (w.heap.size+1) 0 V):=(b1.o.below G.o.lt b).below (G.o.below b).lt J;have D:Hid (EB (w.heap.size+1+1) (i,9999,d,50000) V):=(a9.o.below b).below J;have U:Hid _:=hV;clear b oe f0 f1 f2 f3 f4 f5 f6 f7 f8 f9 f10 f11 J hN hE hV d7;go_upto_region 6 with fail
  rw [<- U.o];clear U;obtain ⟨B,hB⟩:∃ B,B=u.heap.size:=⟨_,rfl⟩;rw [<- hB] at y T z ⊢;clear hB;have S:Hid (V.cell? (qzA B 0)=some (qzI i)/\V.cell? (qzA B 1)=some (qzI f)/\V.cell? (qzA B 2)=some (qzI d)/\V.cell? (qzA B 3)=some (qzI am)/\V.cell? (qzA B 4)=some (qzI 7)/\V.cell? (qzA B 5)=some (qzI t)/\V.cell? (qzA B 6)=some (qzI 0)/\V.cell? (qzA B 7)=some (qzI (bk+x))/\V.cell? (qzA B 8)=some (qzI (r+50000))/\V.cell? (qzA B 9)=some (.bool q)/\V.cell? (qzA B 10)=some (qzI v)/\V.cell? (qzA B 11)=some (qzI (-1))/\V.cell? ⟨w.heap.size+1+1,0,none⟩=some (qzI i)/\V.cell? ⟨w.heap.size+1+1,1,none⟩=some (qzI 9999)/\V.cell? ⟨w.heap.size+1+1,2,none⟩=some (qzI d)/\V.cell? ⟨w.heap.size+1+1,3,none⟩=some (qzI 50000)):=RS.of y.o D.o;have b4:Hid (V.drew.cell? (qzA B 0)=some (qzI i)/\V.drew.cell? (qzA B 1)=some (qzI f)/\V.drew.cell? (qzA B 2)=some (qzI d)/\V.drew.cell? (qzA B 3)=some (qzI am)/\V.drew.cell? (qzA B 4)=some (qzI 7)/\V.drew.cell? (qzA B 5)=some (qzI t)/\V.drew.cell? (qzA B 6)=some (qzI 0)/\V.drew.cell? (qzA B 7)=some (qzI (bk+x))/\V.drew.cell? (qzA B 8)=some (qzI (r+50000))/\V.drew.cell? (qzA B 9)=some (.bool q)/\V.drew.cell? (qzA B 10)=some (qzI v)/\V.drew.cell? (qzA B 11)=some (qzI (-1))/\V.drew.cell? ⟨w.heap.size+1+1,0,none⟩=some (qzI i)/\V.drew.cell? ⟨w.heap.size+1+1,1,none⟩=some (qzI 9999)/\V.drew.cell? ⟨w.heap.size+1+1,2,none⟩=some (qzI d)/\V.drew.cell? ⟨w.heap.size+1+1,3,none⟩=some (qzI 50000)):=RS.of (y.o.below (bR.drew)) (D.o.below (bR.drew))
  have j:Hid (∀ o,(V.alloc o).cell? (qzA B 0)=some (qzI i)/\(V.alloc o).cell? (qzA B 1)=some (qzI f)/\(V.alloc o).cell? (qzA B 2)=some (qzI d)/\(V.alloc o).cell? (qzA B 3)=some (qzI am)/\(V.alloc o).cell? (qzA B 4)=some (qzI 7)/\(V.alloc o).cell? (qzA B 5)=some (qzI t)/\(V.alloc o).cell? (qzA B 6)=some (qzI 0)/\(V.alloc o).cell? (qzA B 7)=some (qzI (bk+x))/\(V.alloc o).cell? (qzA B 8)=some (qzI (r+50000))/\(V.alloc o).cell? (qzA B 9)=some (.bool q)/\(V.alloc o).cell? (qzA B 10)=some (qzI v)/\(V.alloc o).cell? (qzA B 11)=some (qzI (-1))/\(V.alloc o).cell? ⟨w.heap.size+1+1,0,none⟩=some (qzI i)/\(V.alloc o).cell? ⟨w.heap.size+1+1,1,none⟩=some (qzI 9999)/\(V.alloc o).cell? ⟨w.heap.size+1+1,2,none⟩=some (qzI d)/\(V.alloc o).cell? ⟨w.heap.size+1+1,3,none⟩=some (qzI 50000)):=fun o=>RS.of (y.o.below (bR.alloc nL _)) (D.o.below (bR.alloc nL _))
  obtain ⟨i0,hi,d9,h0,h1⟩:=Kd;obtain ⟨f0,f1,f2,f3,f4,f5,f6,f7,f8,f9,f10,f11,k0,k1,k2,k3⟩:=S.o
  have b9:∀ o,(V.alloc o).cell? (qzA B 0)=some (qzI i):=fun o=>(j.o o).1
  have c8:∀ o,(V.alloc o).cell? (qzA B 1)=some (qzI f):=fun o=>(j.o o).2.1
  have c9:∀ o,(V.alloc o).cell? (qzA B 2)=some (qzI d):=fun o=>(j.o o).2.2.1
  have d0:∀ o,(V.alloc o).cell? (qzA B 3)=some (qzI am):=fun o=>(j.o o).2.2.2.1
  have d1:∀ o,(V.alloc o).cell? (qzA B 4)=some (qzI 7):=fun o=>(j.o o).2.2.2.2.1
  have d2:∀ o,(V.alloc o).cell? (qzA B 5)=some (qzI t):=fun o=>(j.o o).2.2.2.2.2.1
  have d3:∀ o,(V.alloc o).cell? (qzA B 6)=some (qzI 0):=fun o=>(j.o o).2.2.2.2.2.2.1
  have d4:∀ o,(V.alloc o).cell? (qzA B 7)=some (qzI (bk+x)):=fun o=>(j.o o).2.2.2.2.2.2.2.1
  have d5:∀ o,(V.alloc o).cell? (qzA B 8)=some (qzI (r+50000)):=fun o=>(j.o o).2.2.2.2.2.2.2.2.1
  have d6:∀ o,(V.alloc o).cell? (qzA B 9)=some (.bool q):=fun o=>(j.o o).2.2.2.2.2.2.2.2.2.1
  have X:∀ o,(V.alloc o).cell? (qzA B 10)=some (qzI v):=fun o=>(j.o o).2.2.2.2.2.2.2.2.2.2.1
  have Y:∀ o,(V.alloc o).cell? (qzA B 11)=some (qzI (-1)):=fun o=>(j.o o).2.2.2.2.2.2.2.2.2.2.2.1
  clear S b4
  go_region_law (refine Jg rfl (.tmp 33) (.tmp 35) 216 rfl W.heap.size 269 i0 _ 4 32 underlying216 hi d9 h0 h1 rfl (by decide) (.slice ae N ke) N (Ba E) (by simp [Act.eval]) (Av HO.o ((bR.drew).alloc nL _)) ⟨V.heap.size,0,none⟩ 1 1 [qzI i,qzI 9999,qzI d,qzI 50000] (by simp [Act.eval]) rfl (World.news_of_block (heap_alloc_new V.drew _)) (Q1 _ _ _ _) (by have:=O.o;unfold maxLen;omega) (by have:=O.o;omega) (by have:=HB.o.size;have:=H.o;have:=T.o;have:=y.o.lt;simp;omega) ?_;intro v5 m o5 A _;(have o6:m.ownsRow W.heap.size 269 4 v5 (E++[(i,9999,d,50000)]).length (Ba (E++[(i,9999,d,50000)])):=(by rw [Lt,List.length_append,b0.o];exact o5));obtain ⟨a5,n5,d8,-,-⟩:=Gh o6;subst d8;(have R:Hid (m.ownsRow W.heap.size 269 4 (.slice a5 (E++[(i,9999,d,50000)]).length n5) (E++[(i,9999,d,50000)]).length (Ba (E++[(i,9999,d,50000)]))):=o6);(have b3:Hid (m.cell? (qzA B 0)=some (qzI i)/\m.cell? (qzA B 1)=some (qzI f)/\m.cell? (qzA B 2)=some (qzI d)/\m.cell? (qzA B 3)=some (qzI am)/\m.cell? (qzA B 4)=some (qzI 7)/\m.cell? (qzA B 5)=some (qzI t)/\m.cell? (qzA B 6)=some (qzI 0)/\m.cell? (qzA B 7)=some (qzI (bk+x))/\m.cell? (qzA B 8)=some (qzI (r+50000))/\m.cell? (qzA B 9)=some (.bool q)/\m.cell? (qzA B 10)=some (qzI v)/\m.cell? (qzA B 11)=some (qzI (-1))/\m.cell? ⟨w.heap.size+1+1,0,none⟩=some (qzI i)/\m.cell? ⟨w.heap.size+1+1,1,none⟩=some (qzI 9999)/\m.cell? ⟨w.heap.size+1+1,2,none⟩=some (qzI d)/\m.cell? ⟨w.heap.size+1+1,3,none⟩=some (qzI 50000)):=RS.of ((y.o.below ((bR.drew).alloc nL _)).grown A (fun e=>by have:=(z.o B e.symm).2;omega)) ((D.o.below ((bR.drew).alloc nL _)).grown A (fun e=>by have:=(z.o _ e.symm).1;have:=H.o;omega)));(have b2:Hid (CB (w.heap.size+1) 0 Br m):=(I.o.below ((bR.drew).alloc nL _)).grown A (fun e=>by have:=(z.o _ e.symm).1;have:=H.o;omega));(have b8:Hid (FZ (w.heap.size+1) 0 m):=(b7.o.below I.o.lt ((bR.drew).alloc nL _)).grown (I.o.below ((bR.drew).alloc nL _)).lt A (fun e=>by have:=(z.o _ e.symm).1;have:=H.o;omega));(have a6:Hid (BW w m):=((HB.o.drew).alloc HB.o.size _).grown A (by have:=HB.o.size;simp;omega) (fun k hk=>by have:=(z.o k hk).1;have:=H.o;omega));obtain ⟨g0,g1,g2,g3,g4,g5,g6,g7,g8,g9,a3,a4⟩:=b2.o;obtain ⟨z0,z1,z2,z3,z4,z5,z6,z7,z8,z9,z10,z11⟩:=b8.o;simp only [Nat.zero_add,Br] at g0 g1 g2 g3 g4 g5 g6 g7 g8 g9 a3 a4 z0 z1 z2 z3 z4 z5 z6 z7 z8 z9 z10 z11;generalize hM:(E++[(i,9999,d,50000)]).length=M at R ⊢;(have L:Hid _:=hM);obtain ⟨q0,q1,q2,q3,q4,q5,q6,q7,q8,q9,h3,h4,-,-,-,-⟩:=b3.o;clear hM o5 o6 A f0 f1 f2 f3 f4 f5 f6 f7 f8 f9 f10 f11 b9 c8 c9 d0 d1 d2 d3 d4 d5 d6 X Y k0 k1 k2 k3)
  all_goals
   go_wp2
   refine bodyPost_ret (by simp [results,results226,go_sem,g0,g1,g2,g3,g4,g5,g6,g7,g8,g9,a3,a4];try rfl) rfl ?_
   rw [b5.o,b6.o,<- L.o]
   refine Iq (c:=Es ⟨i,f,d,am,st,t,cl,bk,r,q,v,C⟩ x) (es:=E++[(i,9999,d,50000)]) (h:=w.heap.size+1) (base:=W.heap.size) (by omega) (by have:=H.o;omega) ?_ a6.o
   rw [L.o];exact R.o
end Go.Proofs.YtomiclakhjncbaaGreatDoor
