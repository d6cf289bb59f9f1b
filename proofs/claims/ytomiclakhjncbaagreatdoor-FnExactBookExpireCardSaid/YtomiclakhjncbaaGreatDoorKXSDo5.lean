import Derived.Test.YtomiclakhjncbaaGreatDoorJX0a
import Derived.Test.YtomiclakhjncbaaGreatDoorKXSDo2
namespace Go.Proofs.YtomiclakhjncbaaGreatDoor
open Go.RowKit Go.Proofs.Tryz
set_option maxRecDepth 100000
set_option maxHeartbeats 12800000
theorem J4 (c:Cs) (w:World) (hb:0≤c.bk∧c.bk≤1000000000000) (hc:0≤c.cl∧c.cl≤1000000000000) (hf:0≤c.fee∧c.fee≤1000000):Calls prog 227 #[cv c] w (Gr w (Cx c) (Ck c)):=by
 have HG:Hid (∀ u,Calls prog 225 #[cv c,.int .i64 c.cl] u (Gr u (I5 c c.cl) (Bg c c.cl))):=fun u=>M8 c c.cl u hb hc
 have HG0:Hid (∀ u,Calls prog 225 #[cv c,.int .i64 0] u (Gr u (I5 c 0) (Bg c 0))):=fun u=>M8 c 0 u hb (by omega)
 have HR:Hid (∀ u,Calls prog 226 #[cv c,.int .i64 (c.cl / 2)] u (Gr u (Es c (c.cl / 2)) (Dg c (c.cl / 2)))):=fun u=>Tr c (c.cl / 2) u hb (by omega) hf
 have HT:Hid (c.cl.tdiv 2=c.cl / 2):=Int.tdiv_eq_ediv_of_nonneg hc.1;obtain ⟨W,hW⟩:∃ W,W=(w.alloc (.cells #[.int .i64 c.iss,.int .i64 c.acq,.int .i64 c.cur,.int .i64 c.am,.int .i64 c.st,.int .i64 c.rsn,.int .i64 c.cl,.int .i64 c.bk,.int .i64 c.fee,.bool c.cop,.int .i64 c.sta,.int .i64 c.due] 61)).alloc (.cells #[.int .i64 0,.int .i64 0,.int .i64 0,.int .i64 0,.int .i64 0,.int .i64 0,.int .i64 0,.int .i64 0,.int .i64 0,.bool false,.int .i64 0,.int .i64 0] 61):=⟨_,rfl⟩
 have b1:Below (w.alloc (.cells #[.int .i64 c.iss,.int .i64 c.acq,.int .i64 c.cur,.int .i64 c.am,.int .i64 c.st,.int .i64 c.rsn,.int .i64 c.cl,.int .i64 c.bk,.int .i64 c.fee,.bool c.cop,.int .i64 c.sta,.int .i64 c.due] 61)).heap.size (w.alloc (.cells #[.int .i64 c.iss,.int .i64 c.acq,.int .i64 c.cur,.int .i64 c.am,.int .i64 c.st,.int .i64 c.rsn,.int .i64 c.cl,.int .i64 c.bk,.int .i64 c.fee,.bool c.cop,.int .i64 c.sta,.int .i64 c.due] 61)) W:=by rw [hW];exact bR.alloc nL _
 have e1:(w.alloc (.cells #[.int .i64 c.iss,.int .i64 c.acq,.int .i64 c.cur,.int .i64 c.am,.int .i64 c.st,.int .i64 c.rsn,.int .i64 c.cl,.int .i64 c.bk,.int .i64 c.fee,.bool c.cop,.int .i64 c.sta,.int .i64 c.due] 61)).heap.size=w.heap.size+1:=by simp
 have HC1:Hid (CB w.heap.size 0 c W):=(CB.new w c _).below b1
 have HC2:Hid (CB (w.heap.size+1) 0 Br W):=by
  have h:=CB.new (w.alloc (.cells #[.int .i64 c.iss,.int .i64 c.acq,.int .i64 c.cur,.int .i64 c.am,.int .i64 c.st,.int .i64 c.rsn,.int .i64 c.cl,.int .i64 c.bk,.int .i64 c.fee,.bool c.cop,.int .i64 c.sta,.int .i64 c.due] 61)) Br 61;rw [e1] at h
  rw [Hid,hW];exact h
 have HF2:Hid (FZ (w.heap.size+1) 0 W):=by
  have h:=FZ.new (w.alloc (.cells #[.int .i64 c.iss,.int .i64 c.acq,.int .i64 c.cur,.int .i64 c.am,.int .i64 c.st,.int .i64 c.rsn,.int .i64 c.cl,.int .i64 c.bk,.int .i64 c.fee,.bool c.cop,.int .i64 c.sta,.int .i64 c.due] 61)) #[.int .i64 0,.int .i64 0,.int .i64 0,.int .i64 0,.int .i64 0,.int .i64 0,.int .i64 0,.int .i64 0,.int .i64 0,.bool false,.int .i64 0,.int .i64 0] 61;rw [e1] at h
  rw [Hid,hW];exact h
 have HBW:Hid (BW w W):=by rw [Hid,hW];go_grown
 have HW:Hid _:=hW
 have HS:Hid (W.heap.size=w.heap.size+1+1):=by rw [Hid,hW];simp
 clear b1 e1 hW hb hf;obtain ⟨ex,hex⟩:∃ x,Cx c=x:=⟨_,rfl⟩;obtain ⟨ee,hee⟩:∃ x,Ck c=x:=⟨_,rfl⟩;have HX0:Hid _:=hex;have HE0:Hid _:=hee;rw [hex,hee];clear hex hee;obtain ⟨iss,acq,cur,am,st,rsn,cl,bk,fee,cop,sta,due⟩:=c;unfold Gr cv at HG HG0 HR;unfold cv;unfold I5 at HG HG0;unfold Es at HR
 simp only at HG HG0 HR HT HW hc ⊢
 by_cases h1:st=1
 ·have HX:Hid (ex=J9 ⟨iss,acq,cur,am,st,rsn,cl,bk,fee,cop,sta,due⟩):=by rw [Hid,← HX0.o];simp [Cx,h1]
  have HE:Hid (ee=[]):=by rw [Hid,← HE0.o];simp [Ck,h1]
  subst h1;clear HG HG0 HR HT HX0 HE0 HC1 HC2 HF2 HBW HS HW W
  go_enter func227,ntmps227
  go_wp2
  go_returns
  rw [HX.o,HE.o]
  exact ⟨_,_,rfl,Lf _ _ _ (by simp) (by simp <;> omega),by go_grown⟩
 have h1':=Ay h1
 by_cases h5:st=5
 ·have HX:Hid (ex=I5 ⟨iss,acq,cur,am,st,rsn,cl,bk,fee,cop,sta,due⟩ cl):=by rw [Hid,← HX0.o];simp [Cx,h5]
  have HE:Hid (ee=Bg ⟨iss,acq,cur,am,st,rsn,cl,bk,fee,cop,sta,due⟩ cl):=by rw [Hid,← HE0.o];simp [Ck,h5]
  subst h5;clear HG0 HR HT HX0 HE0 h1
  go_enter func227,ntmps227
  go_upto_region 1 with fail
  rw [← HW.o];clear HW;obtain ⟨f0,f1,f2,f3,f4,f5,f6,f7,f8,f9,f10,f11⟩:=HC1.o
  simp only [Nat.zero_add] at f0 f1 f2 f3 f4 f5 f6 f7 f8 f9 f10 f11
  go_wp2_with fail
  refine (HG.o _).mono ?_;rintro e u ⟨ae,ke,rfl,oe,b⟩;have HO:Hid (u.ownsRow W.heap.size 269 4 (.slice ae (Bg ⟨iss,acq,cur,am,5,rsn,cl,bk,fee,cop,sta,due⟩ cl).length ke) (Bg ⟨iss,acq,cur,am,5,rsn,cl,bk,fee,cop,sta,due⟩ cl).length (Ba (Bg ⟨iss,acq,cur,am,5,rsn,cl,bk,fee,cop,sta,due⟩ cl))):=oe;have HB:Hid (BW w u):=next HBW.o b;have HU2:Hid (CB (w.heap.size+1) 0 Br u):=HC2.o.below b;have HV2:Hid (FZ (w.heap.size+1) 0 u):=HF2.o.below HC2.o.lt b;clear b oe f0 f1 f2 f3 f4 f5 f6 f7 f8 f9 f10 f11;obtain ⟨g0,g1,g2,g3,g4,g5,g6,g7,g8,g9,g10,g11⟩:=HU2.o;obtain ⟨z0,z1,z2,z3,z4,z5,z6,z7,z8,z9,z10,z11⟩:=HV2.o
  simp only [Nat.zero_add,Br] at g0 g1 g2 g3 g4 g5 g6 g7 g8 g9 g10 g11 z0 z1 z2 z3 z4 z5 z6 z7 z8 z9 z10 z11
  obtain ⟨N,hN⟩:∃ N,(Bg ⟨iss,acq,cur,am,5,rsn,cl,bk,fee,cop,sta,due⟩ cl).length=N:=⟨_,rfl⟩;have HNN:Hid _:=hN;rw [hN];clear hN;go_wp2
  refine bodyPost_ret (by simp [results,results227,go_sem,g0,g1,g2,g3,g4,g5,g6,g7,g8,g9,g10,g11];try rfl) rfl ?_
  rw [HX.o,HE.o,← HNN.o]
  exact Iq (c:=I5 ⟨iss,acq,cur,am,5,rsn,cl,bk,fee,cop,sta,due⟩ cl) (h:=w.heap.size+1) (base:=W.heap.size) (by omega) (by have:=HS.o;omega) HO.o HB.o
 have h5':=Ay h5
 by_cases h6:st=6
 ·have HX:Hid (ex=Es ⟨iss,acq,cur,am,st,rsn,cl,bk,fee,cop,sta,due⟩ (cl / 2)):=by rw [Hid,← HX0.o];simp [Cx,h6]
  have HE:Hid (ee=Dg ⟨iss,acq,cur,am,st,rsn,cl,bk,fee,cop,sta,due⟩ (cl / 2)):=by rw [Hid,← HE0.o];simp [Ck,h6]
  subst h6;clear HG HG0 HX0 HE0 h1 h5
  go_enter func227,ntmps227
  go_upto_region 1 with fail
  rw [← HW.o];clear HW;obtain ⟨f0,f1,f2,f3,f4,f5,f6,f7,f8,f9,f10,f11⟩:=HC1.o
  simp only [Nat.zero_add] at f0 f1 f2 f3 f4 f5 f6 f7 f8 f9 f10 f11
  go_wp2_with fail
  try rw [HT.o]
  refine (HR.o _).mono ?_;rintro e u ⟨ae,ke,rfl,oe,b⟩;have HO:Hid (u.ownsRow W.heap.size 269 4 (.slice ae (Dg ⟨iss,acq,cur,am,6,rsn,cl,bk,fee,cop,sta,due⟩ (cl / 2)).length ke) (Dg ⟨iss,acq,cur,am,6,rsn,cl,bk,fee,cop,sta,due⟩ (cl / 2)).length (Ba (Dg ⟨iss,acq,cur,am,6,rsn,cl,bk,fee,cop,sta,due⟩ (cl / 2)))):=oe;have HB:Hid (BW w u):=next HBW.o b;have HU2:Hid (CB (w.heap.size+1) 0 Br u):=HC2.o.below b;have HV2:Hid (FZ (w.heap.size+1) 0 u):=HF2.o.below HC2.o.lt b;clear b oe f0 f1 f2 f3 f4 f5 f6 f7 f8 f9 f10 f11;obtain ⟨g0,g1,g2,g3,g4,g5,g6,g7,g8,g9,g10,g11⟩:=HU2.o;obtain ⟨z0,z1,z2,z3,z4,z5,z6,z7,z8,z9,z10,z11⟩:=HV2.o
  simp only [Nat.zero_add,Br] at g0 g1 g2 g3 g4 g5 g6 g7 g8 g9 g10 g11 z0 z1 z2 z3 z4 z5 z6 z7 z8 z9 z10 z11
  obtain ⟨N,hN⟩:∃ N,(Dg ⟨iss,acq,cur,am,6,rsn,cl,bk,fee,cop,sta,due⟩ (cl / 2)).length=N:=⟨_,rfl⟩;have HNN:Hid _:=hN;rw [hN];clear hN;go_wp2
  refine bodyPost_ret (by simp [results,results227,go_sem,g0,g1,g2,g3,g4,g5,g6,g7,g8,g9,g10,g11];try rfl) rfl ?_
  rw [HX.o,HE.o,← HNN.o]
  exact Iq (c:=Es ⟨iss,acq,cur,am,6,rsn,cl,bk,fee,cop,sta,due⟩ (cl / 2)) (h:=w.heap.size+1) (base:=W.heap.size) (by omega) (by have:=HS.o;omega) HO.o HB.o
 have h6':=Ay h6
 ·have HX:Hid (ex=⟨iss,acq,cur,am,7,rsn,0,bk,fee,cop,sta,-1⟩):=by rw [Hid,← HX0.o];simp [Cx,h1,h5,h6,I5]
  rw [Int.add_zero] at HG0
  have HE:Hid (ee=Bg ⟨iss,acq,cur,am,st,rsn,cl,bk,fee,cop,sta,due⟩ 0):=by rw [Hid,← HE0.o];simp [Ck,h1,h5,h6,Bg]
  clear HG HR HT HX0 HE0 h1 h5 h6
  go_enter func227,ntmps227
  go_upto_region 1 with fail
  rw [← HW.o];clear HW;obtain ⟨f0,f1,f2,f3,f4,f5,f6,f7,f8,f9,f10,f11⟩:=HC1.o
  simp only [Nat.zero_add] at f0 f1 f2 f3 f4 f5 f6 f7 f8 f9 f10 f11
  go_wp2_with fail
  refine (HG0.o _).mono ?_;rintro e u ⟨ae,ke,rfl,oe,b⟩;have HO:Hid (u.ownsRow W.heap.size 269 4 (.slice ae (Bg ⟨iss,acq,cur,am,st,rsn,cl,bk,fee,cop,sta,due⟩ 0).length ke) (Bg ⟨iss,acq,cur,am,st,rsn,cl,bk,fee,cop,sta,due⟩ 0).length (Ba (Bg ⟨iss,acq,cur,am,st,rsn,cl,bk,fee,cop,sta,due⟩ 0))):=oe;have HB:Hid (BW w u):=next HBW.o b;have HU2:Hid (CB (w.heap.size+1) 0 Br u):=HC2.o.below b;have HV2:Hid (FZ (w.heap.size+1) 0 u):=HF2.o.below HC2.o.lt b;clear b oe f0 f1 f2 f3 f4 f5 f6 f7 f8 f9 f10 f11;obtain ⟨g0,g1,g2,g3,g4,g5,g6,g7,g8,g9,g10,g11⟩:=HU2.o;obtain ⟨z0,z1,z2,z3,z4,z5,z6,z7,z8,z9,z10,z11⟩:=HV2.o
  simp only [Nat.zero_add,Br] at g0 g1 g2 g3 g4 g5 g6 g7 g8 g9 g10 g11 z0 z1 z2 z3 z4 z5 z6 z7 z8 z9 z10 z11
  obtain ⟨N,hN⟩:∃ N,(Bg ⟨iss,acq,cur,am,st,rsn,cl,bk,fee,cop,sta,due⟩ 0).length=N:=⟨_,rfl⟩;have HNN:Hid _:=hN;rw [hN];clear hN;go_wp2
  refine bodyPost_ret (by simp [results,results227,go_sem,g0,g1,g2,g3,g4,g5,g6,g7,g8,g9,g10,g11];try rfl) rfl ?_
  rw [HX.o,HE.o,← HNN.o]
  exact Iq (c:=⟨iss,acq,cur,am,7,rsn,0,bk,fee,cop,sta,-1⟩) (h:=w.heap.size+1) (base:=W.heap.size) (by omega) (by have:=HS.o;omega) HO.o HB.o
end Go.Proofs.YtomiclakhjncbaaGreatDoor
