import Derived.Test.YtomiclakhjncbaaGreatDoorJT2a
namespace Go.Proofs.YtomiclakhjncbaaGreatDoor.Kb
open Go.RowKit Go.MuLone Go.Proofs.Tryz
set_option maxRecDepth 100000
set_option maxHeartbeats 12800000
theorem KS.past {B K R:Nat} {a6 st:Int} {b:Bk} {q:Bp} {w u J:World} (G:KS B K a6 b q w) (h:KS B K st b q u) (g:u.grownBy J (some R)) (D:w.heap.size<=R):KS B K st b q J:=by
 have ne:∀ {t:TypeId} {s n:Nat} {v:Value} {xs:List Value},w.ownsRow B t s v n xs->v.ownBlock=none\/v.ownBlock≠some R:=fun o=>.inr fun e=>by
  have:=(o.lt _ e).2;omega
 have nK:some K≠some R:=fun e=>by injection e with e;have:=G.z.lt;omega
 exact ⟨h.z.grown g nK,h.kt.grown g nK,h.off.kept g (ne G.off),h.az.kept g (ne G.az),h.cs.kept g (ne G.cs),h.ls.kept g (ne G.ls),h.log.kept g (ne G.log),h.hK⟩
theorem mL {R i:Nat} {a w:World} {v:Value} (h:Below R a w):Below R a (w.setCell (qzA R i) v):=h.setCell nL _
theorem gU {R:Nat} {u J:World} (h:Below R u J) (hs:u.heap.size<=R+1):u.grownBy J (some R) :=
 ⟨h.os,h.tape,h.output,h.size,fun k I hr=>h.block k (by
  have:k≠R:=fun e=>hr (by rw [e])
  omega)⟩
theorem eG {B K:Nat} (b:Bk) (q:Bp) (w:World) (I:KS B K 0 b q w) :
  Calls prog 52 #[.pointer (some (qzA K 0))] w fun e w'=>e=.returned (C5 b q)/\KS B K 0 b q w'/\Below B w w':=by
 obtain ⟨R,D⟩:∃ R,w.heap.size=R:=⟨_,rfl⟩;have a3:Hid (KS B K 0 b q w):=I;obtain ⟨W,H⟩:∃ W,W=w.alloc (.cells qzB 31):=⟨_,rfl⟩
 have j:Hid (KS B K 0 b q W):=by rw [Hid,H];exact I.al _
 have O:Hid (Z0 R W):=by rw [Hid,H,<- D];exact Z6.new w _ _ _ _ _ _ _
 have Y:Hid (Below R w W):=by rw [Hid,H,<- D];exact bR.alloc nL _
 have N:Hid (W.heap.size=R+1):=by rw [Hid,H,<- D];simp
 have C:Hid (K<R):=by rw [Hid,<- D];exact I.z.lt
 have L:Hid (B<=R):=by have:=C.o;have:=I.hK;rw [Hid];omega
 have HW:Hid _:=H;have M:Hid _:=D;have c0:=j.o.z.c0;have z0:=j.o.z.z0
 have U:R≠K:=by have:=C.o;omega
 clear I H D
 go_enter_defers func52,ntmps52
 go_wp2_with fail
 rw [<- HW.o,M.o];refine (lock_free muH (qzA K 0) W c0 z0).mono ?_;rintro e y ⟨rfl,d⟩
 have A:Hid (KS B K 1 b q y):=by rw [Hid,d];exact j.o.setSt 1
 have S:Hid (Z0 R y):=by rw [Hid,d];exact O.o.far (fun e=>U e.symm)
 have V:Hid (Below B w y):=by rw [Hid,d];exact (Y.o.mono L.o).setCell j.o.hK _
 have a4:Hid (y.heap.size<=R+1):=by rw [Hid,d];have:=N.o;simp;omega
 clear d c0 z0 HW O N;go_upto_region 3 with fail
 have HS:Hid (∀ u,Below R y u->u.cell? (qzA K 2)=some (.slice q.l b.ls.length q.lc)/\u.cell? (qzA K 3)=some (qzI b.today)/\u.cell? (qzA K 4)=some (.slice q.o b.off.length q.oc)/\u.cell? (qzA K 5)=some (.slice q.a b.az.length q.ac)/\u.cell? (qzA K 6)=some (.slice q.c b.cs.length q.cc)/\u.cell? (qzA K 7)=some (.slice q.g b.log.length q.gc)):=fun u h=>by
  have l:=C.o;have z:=A.o.z;exact ⟨(h.cell (p:=(qzA K 2)) l).trans z.c2,(h.cell (p:=(qzA K 3)) l).trans z.c3,(h.cell (p:=(qzA K 4)) l).trans z.c4,(h.cell (p:=(qzA K 5)) l).trans z.c5,(h.cell (p:=(qzA K 6)) l).trans z.c6,(h.cell (p:=(qzA K 7)) l).trans z.c7⟩
 have F:Below R y y:=bR;obtain ⟨t0,t1,t2,t3,t4,t5,s0,s1,s2,s3,s4,s5⟩:=S.o
 have m:Hid (∀ u,Below R y u->KS B K 1 b q u/\Below B w u):=fun u h=>⟨a3.o.past A.o (gU h a4.o) (by rw [M.o];exact nL),V.o.trans (h.mono L.o)⟩
 go_region_held3 (fun u=>u.cell? (qzA K 2)=some (.slice q.l b.ls.length q.lc)/\u.cell? (qzA K 3)=some (qzI b.today)/\u.cell? (qzA K 4)=some (.slice q.o b.off.length q.oc)/\u.cell? (qzA K 5)=some (.slice q.a b.az.length q.ac)/\u.cell? (qzA K 6)=some (.slice q.c b.cs.length q.cc)/\u.cell? (qzA K 7)=some (.slice q.g b.log.length q.gc)) (first | with_reducible exact HS.o _ F.drew | with_reducible exact HS.o _ F | (refine HS.o _ ?_;repeat (first | with_reducible exact F | with_reducible refine mL ?_ | with_reducible refine Below.drew ?_))) (fail)
 all_goals
  go_wp2_with fail
  have T:Hid _:=(((((((((((((S.o.set0 (qzI 0)).set1 (.slice none 0 0)).set2 (.slice none 0 0)).set3 (.slice none 0 0)).set4 (.slice none 0 0)).set5 (.slice none 0 0)).set0 (qzI b.today)).set1 (.slice q.o b.off.length q.oc)).set2 (.slice q.a b.az.length q.ac)).set3 (.slice q.c b.cs.length q.cc)).set4 (.slice q.l b.ls.length q.lc)).set5 (.slice q.g b.log.length q.gc)).below (bR.drew)).far (B':=K) (i:=0) (x:=.int .i32 0) (fun e=>U e.symm)
  clear t0 t1 t2 t3 t4 t5 s0 s1 s2 s3 s4 s5
  refine leaves_cons (f:=114) (args:=#[.pointer (some (qzA K 0))]) (by simp) (by simp [go_sem]) ?_
  refine (unlock_deferred muH (qzA K 0) .returning _ (m.o _ (by repeat (first | with_reducible exact F | with_reducible refine mL ?_ | with_reducible refine Below.drew ?_))).1.z.c0 (m.o _ (by repeat (first | with_reducible exact F | with_reducible refine mL ?_ | with_reducible refine Below.drew ?_))).1.z.z0).mono ?_
  rintro e J w4 ⟨rfl,rfl,r⟩
  have Z:Hid (KS B K 0 b q w4):=by rw [Hid,r];exact (m.o _ (by repeat (first | with_reducible exact F | with_reducible refine mL ?_ | with_reducible refine Below.drew ?_))).1.setSt 0
  have X:Hid (Below B w w4):=by rw [Hid,r];exact (m.o _ (by repeat (first | with_reducible exact F | with_reducible refine mL ?_ | with_reducible refine Below.drew ?_))).2.setCell A.o.hK _
  have a5:Hid (ZQ R b q w4):=by rw [Hid,r];exact T.o
  clear r T;obtain ⟨t0,t1,t2,t3,t4,t5,-,-,-,-,-,-⟩:=a5.o;refine ⟨C5 b q,?_,rfl,Z.o,X.o⟩
  simp [results,results52,go_sem,t0,t1,t2,t3,t4,t5,C5]
  try rfl
end Go.Proofs.YtomiclakhjncbaaGreatDoor.Kb
