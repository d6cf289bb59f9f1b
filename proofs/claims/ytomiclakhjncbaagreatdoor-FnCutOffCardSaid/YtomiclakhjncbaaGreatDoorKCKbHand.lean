import Derived.Test.YtomiclakhjncbaaGreatDoorJC2a
namespace Go.Proofs.YtomiclakhjncbaaGreatDoor.Kb
open Go.RowKit Go.MuLone Go.Proofs.Tryz
set_option maxRecDepth 100000
set_option maxHeartbeats 12800000
theorem KS.past {B K R:Nat} {st0 st:Int} {b:Bk} {q:Bp} {w u u':World} (h0:KS B K st0 b q w) (h:KS B K st b q u) (g:u.grownBy u' (some R)) (hR:w.heap.size≤R):KS B K st b q u':=by
 have ne:∀ {t:TypeId} {s n:Nat} {v:Value} {xs:List Value},w.ownsRow B t s v n xs→v.ownBlock=none∨v.ownBlock≠some R:=fun o=>.inr fun e=>by
  have:=(o.lt _ e).2;omega
 have nK:some K≠some R:=fun e=>by injection e with e;have:=h0.z.lt;omega
 exact ⟨h.z.grown g nK,h.kt.grown g nK,h.off.kept g (ne h0.off),h.az.kept g (ne h0.az),h.cs.kept g (ne h0.cs),h.ls.kept g (ne h0.ls),h.log.kept g (ne h0.log),h.hK⟩
theorem mL {R i:Nat} {a w:World} {v:Value} (h:Below R a w):Below R a (w.setCell ⟨R,i,none⟩ v):=h.setCell nL _
theorem gU {R:Nat} {u u':World} (h:Below R u u') (hs:u.heap.size≤R+1):u.grownBy u' (some R) :=
 ⟨h.os,h.tape,h.output,h.size,fun k hk hr=>h.block k (by
  have:k≠R:=fun e=>hr (by rw [e])
  omega)⟩
theorem eG {B K:Nat} (b:Bk) (q:Bp) (w:World) (hk:KS B K 0 b q w) :
  Calls prog 52 #[.pointer (some ⟨K,0,none⟩)] w fun e w'=>e=.returned (C5 b q)∧KS B K 0 b q w'∧Below B w w':=by
 obtain ⟨R,hR⟩:∃ R,w.heap.size=R:=⟨_,rfl⟩;have HKw:Hid (KS B K 0 b q w):=hk;obtain ⟨W,hW⟩:∃ W,W=w.alloc (.cells #[.int .i64 0,.slice none 0 0,.slice none 0 0,.slice none 0 0,.slice none 0 0,.slice none 0 0] 31):=⟨_,rfl⟩
 have HK0:Hid (KS B K 0 b q W):=by rw [Hid,hW];exact hk.al _
 have HZ0:Hid (Z0 R W):=by rw [Hid,hW,← hR];exact Z6.new w _ _ _ _ _ _ _
 have HBW:Hid (Below R w W):=by rw [Hid,hW,← hR];exact bR.alloc nL _
 have HSZ:Hid (W.heap.size=R+1):=by rw [Hid,hW,← hR];simp
 have HKR:Hid (K<R):=by rw [Hid,← hR];exact hk.z.lt
 have HBR:Hid (B≤R):=by have:=HKR.o;have:=hk.hK;rw [Hid];omega
 have HW:Hid _:=hW;have HRR:Hid _:=hR;have c0:=HK0.o.z.c0;have z0:=HK0.o.z.z0
 have hne:R≠K:=by have:=HKR.o;omega
 clear hk hW hR
 go_enter_defers func52,ntmps52
 go_wp2_with fail
 rw [← HW.o,HRR.o];refine (lock_free muH ⟨K,0,none⟩ W c0 z0).mono ?_;rintro e w1 ⟨rfl,hw1⟩
 have HK1:Hid (KS B K 1 b q w1):=by rw [Hid,hw1];exact HK0.o.setSt 1
 have HZ1:Hid (Z0 R w1):=by rw [Hid,hw1];exact HZ0.o.far (fun e=>hne e.symm)
 have HB1:Hid (Below B w w1):=by rw [Hid,hw1];exact (HBW.o.mono HBR.o).setCell HK0.o.hK _
 have HS1:Hid (w1.heap.size≤R+1):=by rw [Hid,hw1];have:=HSZ.o;simp;omega
 clear hw1 c0 z0 HW HZ0 HSZ;go_upto_region 3 with fail
 have HS:Hid (∀ u,Below R w1 u→u.cell? ⟨K,2,none⟩=some (.slice q.l b.ls.length q.lc)∧u.cell? ⟨K,3,none⟩=some (.int .i64 b.today)∧u.cell? ⟨K,4,none⟩=some (.slice q.o b.off.length q.oc)∧u.cell? ⟨K,5,none⟩=some (.slice q.a b.az.length q.ac)∧u.cell? ⟨K,6,none⟩=some (.slice q.c b.cs.length q.cc)∧u.cell? ⟨K,7,none⟩=some (.slice q.g b.log.length q.gc)):=fun u h=>by
  have l:=HKR.o;have z:=HK1.o.z;exact ⟨(h.cell (p:=⟨K,2,none⟩) l).trans z.c2,(h.cell (p:=⟨K,3,none⟩) l).trans z.c3,(h.cell (p:=⟨K,4,none⟩) l).trans z.c4,(h.cell (p:=⟨K,5,none⟩) l).trans z.c5,(h.cell (p:=⟨K,6,none⟩) l).trans z.c6,(h.cell (p:=⟨K,7,none⟩) l).trans z.c7⟩
 have k0:Below R w1 w1:=bR;obtain ⟨t0,t1,t2,t3,t4,t5,s0,s1,s2,s3,s4,s5⟩:=HZ1.o
 have HST:Hid (∀ u,Below R w1 u→KS B K 1 b q u∧Below B w u):=fun u h=>⟨HKw.o.past HK1.o (gU h HS1.o) (by rw [HRR.o];exact nL),HB1.o.trans (h.mono HBR.o)⟩
 go_region_held3 (fun u=>u.cell? ⟨K,2,none⟩=some (.slice q.l b.ls.length q.lc)∧u.cell? ⟨K,3,none⟩=some (.int .i64 b.today)∧u.cell? ⟨K,4,none⟩=some (.slice q.o b.off.length q.oc)∧u.cell? ⟨K,5,none⟩=some (.slice q.a b.az.length q.ac)∧u.cell? ⟨K,6,none⟩=some (.slice q.c b.cs.length q.cc)∧u.cell? ⟨K,7,none⟩=some (.slice q.g b.log.length q.gc)) (first | with_reducible exact HS.o _ k0.drew | with_reducible exact HS.o _ k0 | (refine HS.o _ ?_;repeat (first | with_reducible exact k0 | with_reducible refine mL ?_ | with_reducible refine Below.drew ?_))) (fail)
 all_goals
  go_wp2_with fail
  have HZF:Hid _:=(((((((((((((HZ1.o.set0 (.int .i64 0)).set1 (.slice none 0 0)).set2 (.slice none 0 0)).set3 (.slice none 0 0)).set4 (.slice none 0 0)).set5 (.slice none 0 0)).set0 (.int .i64 b.today)).set1 (.slice q.o b.off.length q.oc)).set2 (.slice q.a b.az.length q.ac)).set3 (.slice q.c b.cs.length q.cc)).set4 (.slice q.l b.ls.length q.lc)).set5 (.slice q.g b.log.length q.gc)).below (bR.drew)).far (B':=K) (i:=0) (x:=.int .i32 0) (fun e=>hne e.symm)
  clear t0 t1 t2 t3 t4 t5 s0 s1 s2 s3 s4 s5
  refine leaves_cons (f:=114) (args:=#[.pointer (some ⟨K,0,none⟩)]) (by simp) (by simp [go_sem]) ?_
  refine (unlock_deferred muH ⟨K,0,none⟩ .returning _ (HST.o _ (by repeat (first | with_reducible exact k0 | with_reducible refine mL ?_ | with_reducible refine Below.drew ?_))).1.z.c0 (HST.o _ (by repeat (first | with_reducible exact k0 | with_reducible refine mL ?_ | with_reducible refine Below.drew ?_))).1.z.z0).mono ?_
  rintro e u' w4 ⟨rfl,rfl,hw4⟩
  have HK4:Hid (KS B K 0 b q w4):=by rw [Hid,hw4];exact (HST.o _ (by repeat (first | with_reducible exact k0 | with_reducible refine mL ?_ | with_reducible refine Below.drew ?_))).1.setSt 0
  have HB4:Hid (Below B w w4):=by rw [Hid,hw4];exact (HST.o _ (by repeat (first | with_reducible exact k0 | with_reducible refine mL ?_ | with_reducible refine Below.drew ?_))).2.setCell HK1.o.hK _
  have HZ4:Hid (ZQ R b q w4):=by rw [Hid,hw4];exact HZF.o
  clear hw4 HZF;obtain ⟨t0,t1,t2,t3,t4,t5,-,-,-,-,-,-⟩:=HZ4.o;refine ⟨C5 b q,?_,rfl,HK4.o,HB4.o⟩
  simp [results,results52,go_sem,t0,t1,t2,t3,t4,t5,C5]
  try rfl
end Go.Proofs.YtomiclakhjncbaaGreatDoor.Kb
