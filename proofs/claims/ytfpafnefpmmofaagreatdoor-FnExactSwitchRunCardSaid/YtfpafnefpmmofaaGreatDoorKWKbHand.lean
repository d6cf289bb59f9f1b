import Derived.Test.YtfpafnefpmmofaaGreatDoorJW3a
namespace Go.Proofs.YtfpafnefpmmofaaGreatDoor.Kb
open Go.RowKit Go.MuLone Go.Proofs.Tryz
set_option maxRecDepth 100000
set_option maxHeartbeats 12800000
theorem KS.past {B K R:Nat} {a5 st:Int} {b:Bk} {q:Bp} {w u I:ql} (G:KS B K a5 b q w) (h:KS B K st b q u) (g:u.grownBy I (some R)) (hR:w.heap.size<=R):KS B K st b q I:=by
 have ne:∀ {t:TypeId} {s n:Nat} {v:Value} {xs:List Value},w.ownsRow B t s v n xs->v.ownBlock=none\/v.ownBlock≠some R:=λo=>.inr λe=>by
  have:=(o.lt _ e).2;omega
 have nK:some K≠some R:=λe=>by injection e with e;have:=G.z.lt;omega
 exact ⟨h.z.grown g nK,h.kt.grown g nK,h.off.kept g (ne G.off),h.az.kept g (ne G.az),h.cs.kept g (ne G.cs),h.ls.kept g (ne G.ls),h.log.kept g (ne G.log),h.hK⟩
theorem sX {R i:Nat} {a w:ql} {v:Value} (h:Below R a w):Below R a (w.setCell (qzA R i) v):=h.setCell nL _
theorem wT {R:Nat} {u I:ql} (h:Below R u I) (hs:u.heap.size<=R+1):u.grownBy I (some R) :=
 ⟨h.os,h.tape,h.output,h.size,λk hk hr=>h.block k (by
  have:k≠R:=λe=>hr (by rw [e])
  omega)⟩
theorem oP {B K:Nat} (b:Bk) (q:Bp) (w:ql) (hk:KS B K 0 b q w) :
  qi 35 #[qh K] w λe w'=>e=.returned (Fx b q)/\KS B K 0 b q w'/\C5 B w w':=by
 obtain ⟨R,hR⟩:=Ae w.heap.size;have Y:=Aa hk;obtain ⟨W,H⟩:=A0 (w.alloc (.cells qzB 40))
 have d:qj (KS B K 0 b q W):=by rw [qj,H];exact hk.al _
 have N:qj (Z0 R W):=by rw [qj,H,<- hR];exact Z6.new w _ _ _ _ _ _ _
 have V:qj (Below R w W):=by rw [qj,H,<- hR];exact bR.alloc nL _
 have M:qj (W.heap.size=R+1):=by rw [qj,H,<- hR];simp
 have F:qj (K<R):=by rw [qj,<- hR];exact hk.z.lt
 have L:qj (B<=R):=by have:=F.o;have:=hk.hK;rw [qj];omega
 have HW:qj _:=H;have j:qj _:=hR;have c0:=d.o.z.c0;have z0:=d.o.z.z0
 have T:R≠K:=by have:=F.o;omega
 clear hk H hR
 go_enter_defers func35,ntmps35
 go_wp2_with fail
 rw [<- HW.o,j.o];refine (lock_free muH (qzA K 0) W c0 z0).mono ?_;rintro e C ⟨rfl,r⟩
 have D:qj (KS B K 1 b q C):=by rw [qj,r];exact d.o.setSt 1
 have O:qj (Z0 R C):=by rw [qj,r];exact N.o.far (λe=>T e.s)
 have J:qj (C5 B w C):=by rw [qj,r];exact (C5.of (by unfold BW;rw [j.o];exact V.o) (by rw [j.o];exact L.o)).setK d.o.kt d.o.hK
 have a3:qj (C.heap.size<=R+1):=by rw [qj,r];have:=M.o;simp;omega
 clear r c0 z0 HW N M;go_upto_region 3 with fail
 have Z:qj (∀ u,Below R C u->u.cell? (qzA K 2)=some (qf q.l b.ls.length q.lc)/\u.cell? (qzA K 3)=some (qzI b.today)/\u.cell? (qzA K 4)=some (qf q.o b.off.length q.oc)/\u.cell? (qzA K 5)=some (qf q.a b.az.length q.ac)/\u.cell? (qzA K 6)=some (qf q.c b.cs.length q.cc)/\u.cell? (qzA K 7)=some (qf q.g b.log.length q.gc)):=λu h=>by
  have l:=F.o;have z:=D.o.z;exact ⟨(h.c K 2 l).t z.c2,(h.c K 3 l).t z.c3,(h.c K 4 l).t z.c4,(h.c K 5 l).t z.c5,(h.c K 6 l).t z.c6,(h.c K 7 l).t z.c7⟩
 have A:Below R C C:=bR;obtain ⟨t0,t1,t2,t3,t4,t5,s0,s1,s2,s3,s4,s5⟩:=O.o
 have p:qj (∀ u,Below R C u->KS B K 1 b q u/\C5 B w u):=λu h=>⟨Y.o.past D.o (wT h a3.o) (by rw [j.o];exact nL),⟨J.o.b.t (h.mono L.o),λk o e m=>(h.block k (by rw [<- j.o];exact Pi e)).t (J.o.i k o e m)⟩⟩
 go_region_held3 (λu=>u.cell? (qzA K 2)=some (qf q.l b.ls.length q.lc)/\u.cell? (qzA K 3)=some (qzI b.today)/\u.cell? (qzA K 4)=some (qf q.o b.off.length q.oc)/\u.cell? (qzA K 5)=some (qf q.a b.az.length q.ac)/\u.cell? (qzA K 6)=some (qf q.c b.cs.length q.cc)/\u.cell? (qzA K 7)=some (qf q.g b.log.length q.gc)) (first|with_reducible exact Z.o _ A.drew|with_reducible exact Z.o _ A|(refine Z.o _ ?_;repeat (first|with_reducible exact A|with_reducible refine sX ?_|with_reducible refine Below.drew ?_))) (fail)
 all_goals
  go_wp2_with fail
  have S:qj _:=(((((((((((((O.o.set0 (qzI 0)).set1 qe).set2 qe).set3 qe).set4 qe).set5 qe).set0 (qzI b.today)).set1 (qf q.o b.off.length q.oc)).set2 (qf q.a b.az.length q.ac)).set3 (qf q.c b.cs.length q.cc)).set4 (qf q.l b.ls.length q.lc)).set5 (qf q.g b.log.length q.gc)).below (bR.drew)).far (B':=K) (i:=0) (x:=.int .i32 0) (λe=>T e.s)
  clear t0 t1 t2 t3 t4 t5 s0 s1 s2 s3 s4 s5
  refine leaves_cons (f:=79) (args:=#[qh K]) (by simp) (by simp [go_sem]) ?_
  refine (unlock_deferred muH (qzA K 0) .returning _ (p.o _ (by repeat (first|with_reducible exact A|with_reducible refine sX ?_|with_reducible refine Below.drew ?_))).1.z.c0 (p.o _ (by repeat (first|with_reducible exact A|with_reducible refine sX ?_|with_reducible refine Below.drew ?_))).1.z.z0).mono ?_
  rintro e I w4 ⟨rfl,rfl,y⟩
  have X:qj (KS B K 0 b q w4):=by rw [qj,y];exact (p.o _ (by repeat (first|with_reducible exact A|with_reducible refine sX ?_|with_reducible refine Below.drew ?_))).1.setSt 0
  have U:qj (C5 B w w4):=by rw [qj,y];exact (p.o _ (by repeat (first|with_reducible exact A|with_reducible refine sX ?_|with_reducible refine Below.drew ?_))).2.setK (p.o _ (by repeat (first|with_reducible exact A|with_reducible refine sX ?_|with_reducible refine Below.drew ?_))).1.kt D.o.hK
  have a4:qj (ZQ R b q w4):=by rw [qj,y];exact S.o
  clear y S;obtain ⟨t0,t1,t2,t3,t4,t5,-,-,-,-,-,-⟩:=a4.o;refine ⟨Fx b q,?_,rfl,X.o,U.o⟩
  simp [results,results35,go_sem,t0,t1,t2,t3,t4,t5,Fx]
  try rfl
end Go.Proofs.YtfpafnefpmmofaaGreatDoor.Kb
