import Derived.Test.YtomiclakhjncbaaGreatDoorKEBkLiD
import Derived.Test.YtomiclakhjncbaaGreatDoorKEBkLiA
import Derived.Test.YtomiclakhjncbaaGreatDoorKEBkLiP
import Derived.Test.YtomiclakhjncbaaGreatDoorKEBkLiX
import Derived.Test.YtomiclakhjncbaaGreatDoorKESDo2
import Derived.Test.YtomiclakhjncbaaGreatDoorKEDrawAt
import Derived.Test.YtomiclakhjncbaaGreatDoorKEKbAct
import Derived.Test.YtomiclakhjncbaaGreatDoorKEHpDown
import Derived.Test.YtomiclakhjncbaaGreatDoorKEFDis1
set_option maxRecDepth 100000
set_option maxHeartbeats 12800000
namespace Go.Proofs.YtomiclakhjncbaaGreatDoor
open Go.RowKit Go.Proofs.Tryz
theorem fV (F:Ff) (K:Nc F) {Pre:Bk→Prop} (hsm:∀ b,Pre b→D0 b) {Pay:Bk→Int→Int→Int→Int→Bk×Int→Prop} {Act:Bk→Int→Ac→Bk×Int} (ST:Tp Pre Pay Act) (b:Bk) (p:Bp) (line:List UInt8) (w:World) (hx:Aq w b p) (hah:Vb p w.heap.size) (hp:Pre b) (hl:line.length≤1048575) :
  Calls prog 84 #[C5 b p,.string ⟨line.toArray⟩] w fun e w'=>∃ r,Db F Pay Act b line r∧U8 w p r.1 r.2 e w':=by
 cases h1:Ca (Ab line)
 case true=>exact Xw F K hsm ST b p line w hx hah hp hl h1
 case false =>
  cases h2:Bq (Ab line)
  case true=>exact Zd F K hsm ST b p line w hx hah hp hl ⟨h1,h2⟩
  case false =>
   cases h3:Da (Ab line)
   case true=>exact Zy F K hsm ST b p line w hx hah hp hl ⟨h1,h2,h3⟩
   case false=>exact Zh F K hsm ST b p line w hx hah hp hl ⟨h1,h2,h3⟩
theorem J4 (c:Cs) (w:World) (hb:0≤c.bk∧c.bk≤1000000000000) (hc:0≤c.cl∧c.cl≤1000000000000) (hf:0≤c.fee∧c.fee≤1000000):Calls prog 227 #[cv c] w (Gr w (Cx c) (Ck c)):=by
 have HG:Hid (∀ u,Calls prog 225 #[cv c,.int .i64 c.cl] u (Gr u (I5 c c.cl) (Bg c c.cl))):=fun u=>M8 c c.cl u hb hc
 have HG0:Hid (∀ u,Calls prog 225 #[cv c,.int .i64 0] u (Gr u (I5 c 0) (Bg c 0))):=fun u=>M8 c 0 u hb (by omega)
 have HR:Hid (∀ u,Calls prog 226 #[cv c,.int .i64 (c.cl / 2)] u (Gr u (Es c (c.cl / 2)) (Dg c (c.cl / 2)))):=fun u=>Tr c (c.cl / 2) u hb (by omega) hf
 have HT:Hid (c.cl.tdiv 2=c.cl / 2):=Int.tdiv_eq_ediv_of_nonneg hc.1;obtain ⟨W,hW⟩:∃ W,W=(w.alloc (.cells #[.int .i64 c.iss,.int .i64 c.acq,.int .i64 c.cur,.int .i64 c.am,.int .i64 c.st,.int .i64 c.rsn,.int .i64 c.cl,.int .i64 c.bk,.int .i64 c.fee,.bool c.cop,.int .i64 c.sta,.int .i64 c.due] 61)).alloc (.cells #[.int .i64 0,.int .i64 0,.int .i64 0,.int .i64 0,.int .i64 0,.int .i64 0,.int .i64 0,.int .i64 0,.int .i64 0,.bool false,.int .i64 0,.int .i64 0] 61):=⟨_,rfl⟩
 have b1:Below (w.alloc (.cells #[.int .i64 c.iss,.int .i64 c.acq,.int .i64 c.cur,.int .i64 c.am,.int .i64 c.st,.int .i64 c.rsn,.int .i64 c.cl,.int .i64 c.bk,.int .i64 c.fee,.bool c.cop,.int .i64 c.sta,.int .i64 c.due] 61)).heap.size (w.alloc (.cells #[.int .i64 c.iss,.int .i64 c.acq,.int .i64 c.cur,.int .i64 c.am,.int .i64 c.st,.int .i64 c.rsn,.int .i64 c.cl,.int .i64 c.bk,.int .i64 c.fee,.bool c.cop,.int .i64 c.sta,.int .i64 c.due] 61)) W:=by rw [hW];exact bR.alloc nL _
 have e1:(w.alloc (.cells #[.int .i64 c.iss,.int .i64 c.acq,.int .i64 c.cur,.int .i64 c.am,.int .i64 c.st,.int .i64 c.rsn,.int .i64 c.cl,.int .i64 c.bk,.int .i64 c.fee,.bool c.cop,.int .i64 c.sta,.int .i64 c.due] 61)).heap.size=w.heap.size+1:=by simp
 have HC1:Hid (CB w.heap.size 0 c W):=(CB.new w c _).below b1
 have HC2:Hid (CB (w.heap.size+1) 0 Br W):=by
  have h:=CB.new (w.alloc (.cells #[.int .i64 c.iss,.int .i64 c.acq,.int .i64 c.cur,.int .i64 c.am,.int .i64 c.st,.int .i64 c.rsn,.int .i64 c.cl,.int .i64 c.bk,.int .i64 c.fee,.bool c.cop,.int .i64 c.sta,.int .i64 c.due] 61)) Br 61;rw [e1] at h
  rw [Hid,hW];exact h
 have HF2:Hid (FZ (w.heap.size+1) 0 W):=by
  have h:=FZ.new (w.alloc (.cells #[.int .i64 c.iss,.int .i64 c.acq,.int .i64 c.cur,.int .i64 c.am,.int .i64 c.st,.int .i64 c.rsn,.int .i64 c.cl,.int .i64 c.bk,.int .i64 c.fee,.bool c.cop,.int .i64 c.sta,.int .i64 c.due] 61)) #[.int .i64 0,.int .i64 0,.int .i64 0,.int .i64 0,.int .i64 0,.int .i64 0,.int .i64 0,.int .i64 0,.int .i64 0,.bool false,.int .i64 0,.int .i64 0] 61;rw [e1] at h
  rw [Hid,hW];exact h
 have HBW:Hid (BW w W):=by rw [Hid,hW];go_grown
 have HW:Hid _:=hW
 have HS:Hid (W.heap.size=w.heap.size+1+1):=by rw [Hid,hW];simp
 clear b1 e1 hW hb hf;obtain ⟨ex,hex⟩:∃ x,Cx c=x:=⟨_,rfl⟩;obtain ⟨ee,hee⟩:∃ x,Ck c=x:=⟨_,rfl⟩;have HX0:Hid _:=hex;have HE0:Hid _:=hee;rw [hex,hee];clear hex hee;obtain ⟨iY,aZ,uV,am,st,rJ,cl,bk,fW,cW,sS,dX⟩:=c;unfold Gr cv at HG HG0 HR;unfold cv;unfold I5 at HG HG0;unfold Es at HR
 simp only at HG HG0 HR HT HW hc ⊢
 by_cases h1:st=1
 ·have HX:Hid (ex=J9 ⟨iY,aZ,uV,am,st,rJ,cl,bk,fW,cW,sS,dX⟩):=by rw [Hid,← HX0.o];simp [Cx,h1]
  have HE:Hid (ee=[]):=by rw [Hid,← HE0.o];simp [Ck,h1]
  subst h1;clear HG HG0 HR HT HX0 HE0 HC1 HC2 HF2 HBW HS HW W
  go_enter func227,ntmps227
  go_wp2
  go_returns
  rw [HX.o,HE.o]
  exact ⟨_,_,rfl,Lf _ _ _ (by simp) (by simp <;> omega),by go_grown⟩
 have h1':=Ay h1
 by_cases h5:st=5
 ·have HX:Hid (ex=I5 ⟨iY,aZ,uV,am,st,rJ,cl,bk,fW,cW,sS,dX⟩ cl):=by rw [Hid,← HX0.o];simp [Cx,h5]
  have HE:Hid (ee=Bg ⟨iY,aZ,uV,am,st,rJ,cl,bk,fW,cW,sS,dX⟩ cl):=by rw [Hid,← HE0.o];simp [Ck,h5]
  subst h5;clear HG0 HR HT HX0 HE0 h1
  go_enter func227,ntmps227
  go_upto_region 1 with fail
  rw [← HW.o];clear HW;obtain ⟨f0,f1,f2,f3,f4,f5,f6,f7,f8,f9,f10,f11⟩:=HC1.o
  simp only [Nat.zero_add] at f0 f1 f2 f3 f4 f5 f6 f7 f8 f9 f10 f11
  go_wp2_with fail
  refine (HG.o _).mono ?_;rintro e u ⟨ae,ke,rfl,oe,b⟩;have HO:Hid (u.ownsRow W.heap.size 269 4 (.slice ae (Bg ⟨iY,aZ,uV,am,5,rJ,cl,bk,fW,cW,sS,dX⟩ cl).length ke) (Bg ⟨iY,aZ,uV,am,5,rJ,cl,bk,fW,cW,sS,dX⟩ cl).length (Ba (Bg ⟨iY,aZ,uV,am,5,rJ,cl,bk,fW,cW,sS,dX⟩ cl))):=oe;have HB:Hid (BW w u):=next HBW.o b;have HU2:Hid (CB (w.heap.size+1) 0 Br u):=HC2.o.below b;have HV2:Hid (FZ (w.heap.size+1) 0 u):=HF2.o.below HC2.o.lt b;clear b oe f0 f1 f2 f3 f4 f5 f6 f7 f8 f9 f10 f11;obtain ⟨g0,g1,g2,g3,g4,g5,g6,g7,g8,g9,g10,g11⟩:=HU2.o;obtain ⟨z0,z1,z2,z3,z4,z5,z6,z7,z8,z9,z10,z11⟩:=HV2.o
  simp only [Nat.zero_add,Br] at g0 g1 g2 g3 g4 g5 g6 g7 g8 g9 g10 g11 z0 z1 z2 z3 z4 z5 z6 z7 z8 z9 z10 z11
  obtain ⟨N,hN⟩:∃ N,(Bg ⟨iY,aZ,uV,am,5,rJ,cl,bk,fW,cW,sS,dX⟩ cl).length=N:=⟨_,rfl⟩;have HNN:Hid _:=hN;rw [hN];clear hN;go_wp2
  refine bodyPost_ret (by simp [results,results227,go_sem,g0,g1,g2,g3,g4,g5,g6,g7,g8,g9,g10,g11];try rfl) rfl ?_
  rw [HX.o,HE.o,← HNN.o]
  exact Iq (c:=I5 ⟨iY,aZ,uV,am,5,rJ,cl,bk,fW,cW,sS,dX⟩ cl) (h:=w.heap.size+1) (base:=W.heap.size) (by omega) (by have:=HS.o;omega) HO.o HB.o
 have h5':=Ay h5
 by_cases h6:st=6
 ·have HX:Hid (ex=Es ⟨iY,aZ,uV,am,st,rJ,cl,bk,fW,cW,sS,dX⟩ (cl / 2)):=by rw [Hid,← HX0.o];simp [Cx,h6]
  have HE:Hid (ee=Dg ⟨iY,aZ,uV,am,st,rJ,cl,bk,fW,cW,sS,dX⟩ (cl / 2)):=by rw [Hid,← HE0.o];simp [Ck,h6]
  subst h6;clear HG HG0 HX0 HE0 h1 h5
  go_enter func227,ntmps227
  go_upto_region 1 with fail
  rw [← HW.o];clear HW;obtain ⟨f0,f1,f2,f3,f4,f5,f6,f7,f8,f9,f10,f11⟩:=HC1.o
  simp only [Nat.zero_add] at f0 f1 f2 f3 f4 f5 f6 f7 f8 f9 f10 f11
  go_wp2_with fail
  try rw [HT.o]
  refine (HR.o _).mono ?_;rintro e u ⟨ae,ke,rfl,oe,b⟩;have HO:Hid (u.ownsRow W.heap.size 269 4 (.slice ae (Dg ⟨iY,aZ,uV,am,6,rJ,cl,bk,fW,cW,sS,dX⟩ (cl / 2)).length ke) (Dg ⟨iY,aZ,uV,am,6,rJ,cl,bk,fW,cW,sS,dX⟩ (cl / 2)).length (Ba (Dg ⟨iY,aZ,uV,am,6,rJ,cl,bk,fW,cW,sS,dX⟩ (cl / 2)))):=oe;have HB:Hid (BW w u):=next HBW.o b;have HU2:Hid (CB (w.heap.size+1) 0 Br u):=HC2.o.below b;have HV2:Hid (FZ (w.heap.size+1) 0 u):=HF2.o.below HC2.o.lt b;clear b oe f0 f1 f2 f3 f4 f5 f6 f7 f8 f9 f10 f11;obtain ⟨g0,g1,g2,g3,g4,g5,g6,g7,g8,g9,g10,g11⟩:=HU2.o;obtain ⟨z0,z1,z2,z3,z4,z5,z6,z7,z8,z9,z10,z11⟩:=HV2.o
  simp only [Nat.zero_add,Br] at g0 g1 g2 g3 g4 g5 g6 g7 g8 g9 g10 g11 z0 z1 z2 z3 z4 z5 z6 z7 z8 z9 z10 z11
  obtain ⟨N,hN⟩:∃ N,(Dg ⟨iY,aZ,uV,am,6,rJ,cl,bk,fW,cW,sS,dX⟩ (cl / 2)).length=N:=⟨_,rfl⟩;have HNN:Hid _:=hN;rw [hN];clear hN;go_wp2
  refine bodyPost_ret (by simp [results,results227,go_sem,g0,g1,g2,g3,g4,g5,g6,g7,g8,g9,g10,g11];try rfl) rfl ?_
  rw [HX.o,HE.o,← HNN.o]
  exact Iq (c:=Es ⟨iY,aZ,uV,am,6,rJ,cl,bk,fW,cW,sS,dX⟩ (cl / 2)) (h:=w.heap.size+1) (base:=W.heap.size) (by omega) (by have:=HS.o;omega) HO.o HB.o
 have h6':=Ay h6
 ·have HX:Hid (ex=⟨iY,aZ,uV,am,7,rJ,0,bk,fW,cW,sS,-1⟩):=by rw [Hid,← HX0.o];simp [Cx,h1,h5,h6,I5]
  rw [Int.add_zero] at HG0
  have HE:Hid (ee=Bg ⟨iY,aZ,uV,am,st,rJ,cl,bk,fW,cW,sS,dX⟩ 0):=by rw [Hid,← HE0.o];simp [Ck,h1,h5,h6,Bg]
  clear HG HR HT HX0 HE0 h1 h5 h6
  go_enter func227,ntmps227
  go_upto_region 1 with fail
  rw [← HW.o];clear HW;obtain ⟨f0,f1,f2,f3,f4,f5,f6,f7,f8,f9,f10,f11⟩:=HC1.o
  simp only [Nat.zero_add] at f0 f1 f2 f3 f4 f5 f6 f7 f8 f9 f10 f11
  go_wp2_with fail
  refine (HG0.o _).mono ?_;rintro e u ⟨ae,ke,rfl,oe,b⟩;have HO:Hid (u.ownsRow W.heap.size 269 4 (.slice ae (Bg ⟨iY,aZ,uV,am,st,rJ,cl,bk,fW,cW,sS,dX⟩ 0).length ke) (Bg ⟨iY,aZ,uV,am,st,rJ,cl,bk,fW,cW,sS,dX⟩ 0).length (Ba (Bg ⟨iY,aZ,uV,am,st,rJ,cl,bk,fW,cW,sS,dX⟩ 0))):=oe;have HB:Hid (BW w u):=next HBW.o b;have HU2:Hid (CB (w.heap.size+1) 0 Br u):=HC2.o.below b;have HV2:Hid (FZ (w.heap.size+1) 0 u):=HF2.o.below HC2.o.lt b;clear b oe f0 f1 f2 f3 f4 f5 f6 f7 f8 f9 f10 f11;obtain ⟨g0,g1,g2,g3,g4,g5,g6,g7,g8,g9,g10,g11⟩:=HU2.o;obtain ⟨z0,z1,z2,z3,z4,z5,z6,z7,z8,z9,z10,z11⟩:=HV2.o
  simp only [Nat.zero_add,Br] at g0 g1 g2 g3 g4 g5 g6 g7 g8 g9 g10 g11 z0 z1 z2 z3 z4 z5 z6 z7 z8 z9 z10 z11
  obtain ⟨N,hN⟩:∃ N,(Bg ⟨iY,aZ,uV,am,st,rJ,cl,bk,fW,cW,sS,dX⟩ 0).length=N:=⟨_,rfl⟩;have HNN:Hid _:=hN;rw [hN];clear hN;go_wp2
  refine bodyPost_ret (by simp [results,results227,go_sem,g0,g1,g2,g3,g4,g5,g6,g7,g8,g9,g10,g11];try rfl) rfl ?_
  rw [HX.o,HE.o,← HNN.o]
  exact Iq (c:=⟨iY,aZ,uV,am,7,rJ,0,bk,fW,cW,sS,-1⟩) (h:=w.heap.size+1) (base:=W.heap.size) (by omega) (by have:=HS.o;omega) HO.o HB.o
def Y9:Be:=[[],[119,104,97,116],[100,97,121],[100,97,121,32,120],[97,117,116,104,32,97],[112,97,121,32,49,32,49,32,56,52,48,32,53],[97,99,116,32,48,32,97,115,107,32,48],[97,99,116,32,48,32,100,97,110,99,101,32,48,32,48],[97,99,116,32,57,57,57,32,97,115,107,32,48,32,48],[112,97,121,32,48,49,32,52,32,56,52,48,32,53],[97,117,116,104,32,48,48,48,48,48,48,48,48,48,48,48,49,32,49,32,56,52,48,32,48]]
def vG:Array Value:=#[.string ⟨#[]⟩,.string ⟨#[119,104,97,116]⟩,.string ⟨#[100,97,121]⟩,.string ⟨#[100,97,121,32,120]⟩,.string ⟨#[97,117,116,104,32,97]⟩,.string ⟨#[112,97,121,32,49,32,49,32,56,52,48,32,53]⟩,.string ⟨#[97,99,116,32,48,32,97,115,107,32,48]⟩,.string ⟨#[97,99,116,32,48,32,100,97,110,99,101,32,48,32,48]⟩,.string ⟨#[97,99,116,32,57,57,57,32,97,115,107,32,48,32,48]⟩,.string ⟨#[112,97,121,32,48,49,32,52,32,56,52,48,32,53]⟩,.string ⟨#[97,117,116,104,32,48,48,48,48,48,48,48,48,48,48,48,49,32,49,32,56,52,48,32,48]⟩]
theorem yC (u:World) (t:TypeId) (k:Nat) (h:k<11):(u.alloc (.cells vG t)).cell? ⟨u.heap.size,k,none⟩=some (.string ⟨(Al Y9 k).toArray⟩):=by
 rcases (show k=0∨k=1∨k=2∨k=3∨k=4∨k=5∨k=6∨k=7∨k=8∨k=9∨k=10 by omega) with rfl | rfl | rfl | rfl | rfl | rfl | rfl | rfl | rfl | rfl | rfl <;> simp [vG,Y9,Al,go_sem]
theorem xQ (k:Nat):(Al Y9 k).length≤30:=by
 by_cases h:k<11
 ·rcases (show k=0∨k=1∨k=2∨k=3∨k=4∨k=5∨k=6∨k=7∨k=8∨k=9∨k=10 by omega) with rfl | rfl | rfl | rfl | rfl | rfl | rfl | rfl | rfl | rfl | rfl <;> decide
 ·have:Al Y9 k=[]:=by simp [Al,Y9,List.getD_eq_getElem?_getD];rw [List.getElem?_eq_none (by simp;omega)];rfl
  rw [this];simp
theorem Aa2 {B g:Nat} {w:World} {b:Bk} {p:Bp} {u:World} (q:LS B g w b p u) (k:Cs) :
  Calls prog 133 #[.pointer (some ⟨g,0,none⟩),cv k] u fun e u'=>∃ a:Ac,e=.returned (av a)∧LS B g w b p u' :=
 (zE g k u q.cu).mono (by rintro e u' ⟨a,h1,c,r⟩;exact ⟨a,h1,q.call c r⟩)
structure LT (B g:Nat) (w:World) (b:Bk) (p:Bp) (T:Nat) (v1 v2 v3:Value) (u:World):Prop where
 ls:LS B g w b p u
 s:u.cell? ⟨T,1,none⟩=some v1∧u.cell? ⟨T,2,none⟩=some v2∧u.cell? ⟨T,3,none⟩=some v3
 ne:T≠g
theorem LT.call {B g:Nat} {w:World} {b:Bk} {p:Bp} {T:Nat} {v1 v2 v3:Value} {u u':World} (q:LT B g w b p T v1 v2 v3 u) (c:A2 B u' g) (r:u.grownBy u' (some g)):LT B g w b p T v1 v2 v3 u' :=
 ⟨q.ls.call c r,⟨r.cell (a:=⟨T,1,none⟩) q.s.1 (by have:=q.ne;simp;omega),r.cell (a:=⟨T,2,none⟩) q.s.2.1 (by have:=q.ne;simp;omega),r.cell (a:=⟨T,3,none⟩) q.s.2.2 (by have:=q.ne;simp;omega)⟩,q.ne⟩
theorem LT.below {B g:Nat} {w:World} {b:Bk} {p:Bp} {T:Nat} {v1 v2 v3:Value} {u u':World} (q:LT B g w b p T v1 v2 v3 u) (h:BW u u'):LT B g w b p T v1 v2 v3 u':=q.call (A4 q.ls.cu h) (K8 h _)
theorem LT.drew {B g:Nat} {w:World} {b:Bk} {p:Bp} {T:Nat} {v1 v2 v3:Value} {u:World} (q:LT B g w b p T v1 v2 v3 u):LT B g w b p T v1 v2 v3 u.drew:=q.below (bR.drew)
theorem zQ {B g:Nat} {w:World} {b:Bk} {p:Bp} {T:Nat} {v1 v2 v3:Value} {u:World} (q:LT B g w b p T v1 v2 v3 u) (n:Int) (hn:n≤1099511627776) :
  Calls prog 97 #[.pointer (some ⟨g,0,none⟩),.int .i64 n] u fun e u'=>∃ x:Bool,e=.returned (.bool x)∧LT B g w b p T v1 v2 v3 u' :=
 (Y7 g n u q.ls.cu hn).mono (by rintro e u' ⟨x,h1,c,r⟩;exact ⟨x,h1,q.call c r⟩)
structure LA (B g:Nat) (w:World) (T:Nat) (v0 v1 v2:Value) (u:World):Prop where
 cu:A2 B u g
 gr:w.grownBy u (some g)
 s:u.cell? ⟨T,0,none⟩=some v0∧u.cell? ⟨T,1,none⟩=some v1∧u.cell? ⟨T,2,none⟩=some v2
 z:u.frozen? ⟨T,0,none⟩=false∧u.frozen? ⟨T,1,none⟩=false∧u.frozen? ⟨T,2,none⟩=false
 hT:B≤T
 hw:w.heap.size≤T
theorem LA.below {B g:Nat} {w:World} {T:Nat} {v0 v1 v2:Value} {u u':World} (q:LA B g w T v0 v1 v2 u) (h:BW u u'):LA B g w T v0 v1 v2 u':=by
 have l:=World.block_lt_of_cell? u _ q.s.1;exact ⟨A4 q.cu h,q.gr.trans (K8 h _),⟨(h.cell l).trans q.s.1,(h.cell (p:=⟨T,1,none⟩) l).trans q.s.2.1,(h.cell (p:=⟨T,2,none⟩) l).trans q.s.2.2⟩,⟨(h.frozen (p:=⟨T,0,none⟩) l).trans q.z.1,(h.frozen (p:=⟨T,1,none⟩) l).trans q.z.2.1,(h.frozen (p:=⟨T,2,none⟩) l).trans q.z.2.2⟩,q.hT,q.hw⟩
theorem LA.drew {B g:Nat} {w:World} {T:Nat} {v0 v1 v2:Value} {u:World} (q:LA B g w T v0 v1 v2 u):LA B g w T v0 v1 v2 u.drew:=q.below (bR.drew)
theorem LA.at {B g:Nat} {w:World} {T:Nat} {v0 v1 v2 y0 y1 y2:Value} {u:World} (q:LA B g w T v0 v1 v2 u) (i:Nat) (x:Value) (e:(u.setCell ⟨T,i,none⟩ x).cell? ⟨T,0,none⟩=some y0∧(u.setCell ⟨T,i,none⟩ x).cell? ⟨T,1,none⟩=some y1∧(u.setCell ⟨T,i,none⟩ x).cell? ⟨T,2,none⟩=some y2):LA B g w T y0 y1 y2 (u.setCell ⟨T,i,none⟩ x):=by
 have hw:=q.hw
 refine ⟨B9 q.cu ((Below.refl B u).setCell q.hT _),⟨q.gr.os,q.gr.tape,q.gr.output,by simpa using q.gr.size,fun k hk hne=>(Below.heap_setCell _ _ _ _ (by simp only;omega)).trans (q.gr.block k hk hne)⟩,e,⟨?_,?_,?_⟩,q.hT,q.hw⟩
 ·rw [World.frozen?_setCell];exact q.z.1
 ·rw [World.frozen?_setCell];exact q.z.2.1
 ·rw [World.frozen?_setCell];exact q.z.2.2
theorem LA.zero {B g:Nat} {w:World} {T:Nat} {v0 v1 v2:Value} {u:World} (q:LA B g w T v0 v1 v2 u) (x0 x1 x2:Value):LA B g w T x0 x1 x2 (((u.setCell ⟨T,0,none⟩ x0).setCell ⟨T,1,none⟩ x1).setCell ⟨T,2,none⟩ x2):=by
 have q0:=q.at (y0:=x0) (y1:=v1) (y2:=v2) 0 x0 ⟨World.cell?_setCell_same _ _ _ q.s.1,by rw [World.cell?_setCell_other _ _ _ _ (by simp)];exact q.s.2.1,by rw [World.cell?_setCell_other _ _ _ _ (by simp)];exact q.s.2.2⟩
 have q1:=q0.at (y0:=x0) (y1:=x1) (y2:=v2) 1 x1 ⟨by rw [World.cell?_setCell_other _ _ _ _ (by simp)];exact q0.s.1,World.cell?_setCell_same _ _ _ q0.s.2.1,by rw [World.cell?_setCell_other _ _ _ _ (by simp)];exact q0.s.2.2⟩
 exact q1.at (y0:=x0) (y1:=x1) (y2:=x2) 2 x2 ⟨by rw [World.cell?_setCell_other _ _ _ _ (by simp)];exact q1.s.1,by rw [World.cell?_setCell_other _ _ _ _ (by simp)];exact q1.s.2.1,World.cell?_setCell_same _ _ _ q1.s.2.2⟩
theorem Aa5 (A D:ByteArray) (n:Nat) (hA:A.size≤n) (hn:n≤1000) (hD:D.size≤30):∃ C E:ByteArray,(∀ w,(Op.stringOp .add A D).run prog w=.ok (.string C) w)∧(∀ w,(Op.stringOp .add C ⟨#[32]⟩).run prog w=.ok (.string E) w)∧C.size≤n+30∧E.size≤n+31 :=
 ⟨A++D,(A++D)++⟨#[32]⟩,fun w=>run_string_add_sum w A D (by omega),fun w=>run_string_add_sum w _ _ (by rw [O7];have:(⟨#[32]⟩:ByteArray).size=1:=rfl;omega),by rw [O7];omega,by rw [O7,O7];have:(⟨#[32]⟩:ByteArray).size=1:=rfl;omega⟩
theorem xN (k:Nat):(Al Dm k).length≤10:=by
 by_cases h:k<10
 ·rcases (show k=0∨k=1∨k=2∨k=3∨k=4∨k=5∨k=6∨k=7∨k=8∨k=9 by omega) with rfl | rfl | rfl | rfl | rfl | rfl | rfl | rfl | rfl | rfl <;> decide
 ·have:Al Dm k=[]:=by simp [Al,Dm,List.getD_eq_getElem?_getD];rw [List.getElem?_eq_none (by simp;omega)];rfl
  rw [this];simp
def GD (D:ByteArray):Prop:=NoB D.data.toList∧Dr D.data.toList≤8
def LnG (B g:Nat) (w:World) (e:Ending) (u:World):Prop :=
 ∃ l:List UInt8,e=.returned (.string ⟨l.toArray⟩)∧l.length≤400∧K5 l∧A2 B u g∧w.grownBy u (some g)
theorem tR {B g:Nat} {w:World} {b:Bk} {p:Bp} {u:World} {s:ByteArray} (q:LS B g w b p u) (h:s.size≤400) (hg:K5 s.data.toList):LnG B g w (.returned (.string s)) u :=
 ⟨s.data.toList,by cases s;simp,by cases s;simpa [ByteArray.size] using h,hg,q.cu,q.gr⟩
theorem uU {B g:Nat} {w:World} {T:Nat} {v0 v1 v2:Value} {u:World} {s:ByteArray} (q:LA B g w T v0 v1 v2 u) (h:s.size≤400) (hg:K5 s.data.toList):LnG B g w (.returned (.string s)) u :=
 ⟨s.data.toList,by cases s;simp,by cases s;simpa [ByteArray.size] using h,hg,q.cu,q.gr⟩
theorem baL (a b:ByteArray):(a++b).data.toList=a.data.toList++b.data.toList:=by simp
theorem W8 (A D:ByteArray) (n:Nat) (hA:A.size≤n) (hn:n≤1000) (hD:D.size≤30):∃ C E:ByteArray,(∀ w,(Op.stringOp .add A D).run prog w=.ok (.string C) w)∧(∀ w,(Op.stringOp .add C ⟨#[32]⟩).run prog w=.ok (.string E) w)∧C.size≤n+30∧E.size≤n+31∧Hid (C=A++D∧E=A++D++⟨#[32]⟩) :=
 ⟨A++D,(A++D)++⟨#[32]⟩,fun w=>run_string_add_sum w A D (by omega),fun w=>run_string_add_sum w _ _ (by rw [O7];have:(⟨#[32]⟩:ByteArray).size=1:=rfl;omega),by rw [O7];omega,by rw [O7,O7];have:(⟨#[32]⟩:ByteArray).size=1:=rfl;omega,⟨rfl,rfl⟩⟩
theorem uA {D1 D2 D3 D4 C1 C2 C3 C4 E1 E2 E3 E4:ByteArray} (h1:Hid (C1=⟨#[97,99,116,32]⟩++D1∧E1=⟨#[97,99,116,32]⟩++D1++⟨#[32]⟩)) (h2:Hid (C2=E1++D2∧E2=E1++D2++⟨#[32]⟩)) (h3:Hid (C3=E2++D3∧E3=E2++D3++⟨#[32]⟩)) (h4:Hid (C4=E3++D4∧E4=E3++D4++⟨#[32]⟩)):K5 C4.data.toList:=by
 have e:C4.data.toList=[97,99,116]++32::(D1.data.toList++[32]++D2.data.toList++[32]++D3.data.toList++[32]++D4.data.toList):=by
  rw [h4.out.1,h3.out.2,h2.out.2,h1.out.2]
  simp only [baL]
  simp
 rw [e]
 exact Pl (L2 (by decide)) (by decide) (by decide) _
theorem xP {D1 D2 D3 D4 C1 C2 C3 C4 E1 E2 E3 E4:ByteArray} (h1:Hid (C1=⟨#[112,97,121,32]⟩++D1∧E1=⟨#[112,97,121,32]⟩++D1++⟨#[32]⟩)) (h2:Hid (C2=E1++D2∧E2=E1++D2++⟨#[32]⟩)) (h3:Hid (C3=E2++D3∧E3=E2++D3++⟨#[32]⟩)) (h4:Hid (C4=E3++D4∧E4=E3++D4++⟨#[32]⟩)) (g1:Hid (GD D1)) (g2:Hid (GD D2)):K5 C4.data.toList:=by
 have e:C4.data.toList=[112,97,121]++32::(D1.data.toList++32::(D2.data.toList++32::(D3.data.toList++[32]++D4.data.toList))):=by
  rw [h4.out.1,h3.out.2,h2.out.2,h1.out.2]
  simp only [baL]
  simp
 rw [e];exact tT g1.out.1 g2.out.1 g1.out.2 g2.out.2 _
theorem xK (D:ByteArray):K5 ((⟨#[100,97,121,32]⟩:ByteArray)++D).data.toList:=by
 have e:((⟨#[100,97,121,32]⟩:ByteArray)++D).data.toList=[100,97,121]++32::D.data.toList:=by rw [baL];rfl
 rw [e]
 exact Pl (L2 (by decide)) (by decide) (by decide) _
theorem wL {l:List UInt8} {D R:ByteArray} (hl:Hid (NoB l∧l≠[])) (hD:Hid (GD D)):K5 (((((⟨#[97,117,116,104,32]⟩:ByteArray)++⟨l.toArray⟩)++⟨#[32]⟩)++D)++⟨#[32]⟩++R).data.toList:=by
 have e:(((((⟨#[97,117,116,104,32]⟩:ByteArray)++⟨l.toArray⟩)++⟨#[32]⟩)++D)++⟨#[32]⟩++R).data.toList=[97,117,116,104]++32::(l++32::(D.data.toList++32::R.data.toList)):=by
  simp only [baL]
  simp
 rw [e];exact uC hl.out.2 hl.out.1 hD.out.1 hD.out.2 _
theorem wC {l:List UInt8} (hl:Hid (NoB l∧l≠[])):K5 (((⟨#[97,117,116,104,32]⟩:ByteArray)++⟨l.toArray⟩)++⟨#[32,49,32,56,52,48,32,53,48,48]⟩).data.toList:=by
 have e:(((⟨#[97,117,116,104,32]⟩:ByteArray)++⟨l.toArray⟩)++⟨#[32,49,32,56,52,48,32,53,48,48]⟩).data.toList=[97,117,116,104]++32::(l++32::([49]++32::[56,52,48,32,53,48,48])):=by
  simp only [baL]
  simp
 rw [e]
 exact uC hl.out.2 hl.out.1 (L2 (by decide)) (by decide) _
theorem wM (a b c d e f g h:ByteArray):(((((((a++b)++c)++d)++e)++f)++g)++h)=(((((a++b)++c)++d)++e)++(f++g++h)):=by
 apply ByteArray.ext;apply Array.ext'
 simp only [baL,List.append_assoc]
theorem vJ (n:Int) (w:World) :
  Calls prog 72 #[.int .i64 n] w fun e w'=>∃ l:List UInt8,e=.returned (.string ⟨l.toArray⟩)∧l.length≤22∧Hid (0≤n→n≤8→GD ⟨l.toArray⟩)∧w'=w:=by
 by_cases h:0≤n∧n≤8
 ·obtain ⟨m,rfl⟩:=Int.eq_ofNat_of_zero_le h.1
  refine (Tg.dec_up m w (by omega)).mono ?_
  rintro e w' ⟨rfl,rfl⟩
  have hm:m≤8:=by omega
  have hd:Lib.decDigits m=[UInt8.ofNat (48+m)]:=by
   rcases (show m=0∨m=1∨m=2∨m=3∨m=4∨m=5∨m=6∨m=7∨m=8 from by omega) with rfl | rfl | rfl | rfl | rfl | rfl | rfl | rfl | rfl <;> simp [Lib.decDigits]
  rw [hd]
  exact ⟨_,rfl,by simp,fun _ _=>⟨Aac (by omega),xF hm⟩,rfl⟩
 ·refine (R3 n w).mono ?_
  rintro e w' ⟨l,h1,h2,h3⟩
  exact ⟨l,h1,h2,fun a b=>absurd ⟨a,b⟩ h,h3⟩
theorem Aa1 {n:Int} {l:List UInt8} (h:Hid (0≤n→n≤8→GD ⟨l.toArray⟩)) (h0:0≤n) (h1:n≤8):Hid (GD ⟨l.toArray⟩):=h.out h0 h1
theorem zP {l:List UInt8} (h:A6 48 57 l=true):NoB l:=fun c hc e=>by
 have:=Ym h c hc
 rw [e] at this
 revert this;decide
theorem yW (x n:Int):NoB (uF x n):=by
 rcases uG x n with h | ⟨a,m,_,_,_,_,_,h⟩
 ·rw [h];exact fun c hc=>by cases hc
 ·rw [h];exact zP (yH a m)
theorem zS {x:Int} (h0:0≤x) (h1:x<60):uF x 12≠[]:=fun e=>by
 obtain ⟨a,rfl⟩:=Int.eq_ofNat_of_zero_le h0
 have h:a<10 ^ 12:=by omega
 have e2:=vI (x:=a) (n:=12) (by decide) h
 rw [show uF (a:Int) 12=uZ a 12 from uH (by decide) (by decide) h] at e
 rw [e] at e2
 simp at e2
theorem zV {B g:Nat} {w:World} {b:Bk} {p:Bp} {u:World} (q:LS B g w b p u) (x n:Int) :
  Calls prog 130 #[.int .i64 x,.int .i64 n] u fun e u'=>∃ l:List UInt8,e=.returned (.string ⟨l.toArray⟩)∧l.length≤18∧Hid (NoB l∧(0≤x→x<60→n=12→l≠[]))∧LS B g w b p u' :=
 (vD x n u).mono (by rintro e u' ⟨h,c⟩;exact ⟨_,h,zN x n,⟨yW x n,fun h0 h1 h2=>h2 ▸ zS h0 h1⟩,q.below c⟩)
theorem uP {B g:Nat} {w:World} {b:Bk} {p:Bp} {T:Nat} {v1 v2 v3:Value} {u:World} (q:LT B g w b p T v1 v2 v3 u) :
  Calls prog 79 #[.pointer (some ⟨g,0,none⟩),.int .i64 3] u fun e u'=>∃ x:Int,e=.returned (.int .i64 x)∧Hid (0≤x∧x<3)∧LT B g w b p T v1 v2 v3 u' :=
 (G4 g 3 u q.ls.cu (by omega)).mono (by rintro e u' ⟨x,h1,h2,h3,c,r⟩;exact ⟨x,h1,⟨h2,h3 (by omega)⟩,q.call c r⟩)
theorem vY (k:Nat):K5 (Al Y9 k):=by
 by_cases h:k<11
 ·rcases (show k=0∨k=1∨k=2∨k=3∨k=4∨k=5∨k=6∨k=7∨k=8∨k=9∨k=10 by omega) with rfl | rfl | rfl | rfl | rfl | rfl | rfl | rfl | rfl | rfl | rfl
  ·exact ⟨fun h=>absurd h (by decide),fun h=>absurd h (by decide)⟩
  ·exact ⟨fun h=>absurd h (by decide),fun h=>absurd h (by decide)⟩
  ·exact ⟨fun h=>absurd h (by decide),fun h=>absurd h (by decide)⟩
  ·exact ⟨fun h=>absurd h (by decide),fun h=>absurd h (by decide)⟩
  ·exact ⟨fun h=>absurd h (by decide),fun h=>absurd h (by decide)⟩
  ·exact tT (A:=[49]) (D:=[49]) (L2 (by decide)) (L2 (by decide)) (by decide) (by decide) [56,52,48,32,53]
  ·exact Pl (x:=[97,99,116]) (L2 (by decide)) (by decide) (by decide) _
  ·exact Pl (x:=[97,99,116]) (L2 (by decide)) (by decide) (by decide) _
  ·exact Pl (x:=[97,99,116]) (L2 (by decide)) (by decide) (by decide) _
  ·exact tT (A:=[48,49]) (D:=[52]) (L2 (by decide)) (L2 (by decide)) (by decide) (by decide) [56,52,48,32,53]
  ·exact uC (by decide) (A:=[48,48,48,48,48,48,48,48,48,48,48,49]) (D:=[49]) (L2 (by decide)) (L2 (by decide)) (by decide) [56,52,48,32,48]
 ·have:Al Y9 k=[]:=by simp [Al,Y9,List.getD_eq_getElem?_getD];rw [List.getElem?_eq_none (by simp;omega)];rfl
  rw [this]
  exact ⟨fun h=>absurd h (by decide),fun h=>absurd h (by decide)⟩
theorem Aaj {B g:Nat} {w:World} {b:Bk} {p:Bp} {u:World} (q:LS B g w b p u) (t:TypeId) :
  Calls prog 132 #[.pointer (some ⟨g,0,none⟩),.slice (some ⟨u.heap.size,0,none⟩) 11 11] (u.alloc (.cells vG t)) fun e u'=>∃ l:List UInt8,e=.returned (.string ⟨l.toArray⟩)∧l.length≤30∧Hid (K5 l)∧LS B g w b p u':=by
 have qa:=q.alloc (.cells vG t);have hne:=R5 q.cu;have hcl:=yC u t;obtain ⟨U,hU⟩:∃ U,u.alloc (.cells vG t)=U:=⟨_,rfl⟩;rw [hU] at qa hcl ⊢;obtain ⟨T,hT⟩:∃ T,u.heap.size=T:=⟨_,rfl⟩;rw [hT] at hcl hne ⊢;clear hU hT q
 go_enter func132,ntmps132
 go_wp2_with fail
 refine (G4 g 11 U qa.cu (by omega)).mono ?_
 rintro e u1 ⟨x,rfl,x0,x1,c1,g1⟩
 have hx:=x1 (by omega)
 obtain ⟨k,rfl⟩:=Int.eq_ofNat_of_zero_le x0
 have hk:k<11:=by omega
 have cb:u1.cell? ⟨T,k,none⟩=some (.string ⟨(Al Y9 k).toArray⟩):=g1.cell (a:=⟨T,k,none⟩) (hcl k hk) (by simpa using hne)
 have q1:=qa.call c1 g1;have hl:=xQ k;have hgd:Hid (K5 (Al Y9 k)):=vY k;obtain ⟨s,hs⟩:∃ s,Al Y9 k=s:=⟨_,rfl⟩;rw [hs] at cb hl hgd;clear hcl hs c1 g1 x1 x0 qa;go_wp2;go_ret;exact ⟨s,rfl,hl,hgd,q1⟩
namespace Kb
theorem Wc {F:Ff} {b:Bk} {ws:Be} {r:Bk×Int} (h:D6 F b ws r) (hc:r.2≠0):r.1=b:=by
 unfold D6 at h
 split at h
 ·rw [h] at hc ⊢;unfold N8 Fr at hc ⊢;split at hc
  ·split at hc
   ·exact absurd rfl hc
   ·rw [if_pos ‹_›,if_neg ‹_›]
  ·rw [if_neg ‹_›]
 split at h
 ·rw [h] at hc ⊢;unfold Gt Fq at hc ⊢;split at hc
  ·split at hc
   ·exact absurd rfl hc
   ·rw [if_pos ‹_›,if_neg ‹_›]
  ·rw [if_neg ‹_›]
 split at h
 ·unfold Fh at h
  split at h
  ·obtain ⟨x,-,rfl⟩:=h
   unfold Jk at hc ⊢
   split at hc
   ·rw [if_pos ‹_›]
   rw [if_neg ‹_›]
   split at hc
   ·rw [if_pos ‹_›]
   rw [if_neg ‹_›]
   split at hc
   ·rw [if_pos ‹_›]
   rw [if_neg ‹_›]
   split at hc
   ·rw [if_pos ‹_›]
   ·exact absurd rfl hc
  ·rw [h]
 split at h
 ·rw [h] at hc ⊢;unfold Hx at hc ⊢;split at hc
  ·rw [if_pos ‹_›]
   unfold Ja at hc ⊢
   split at hc
   ·rw [if_pos ‹_›]
   rw [if_neg ‹_›]
   split at hc
   ·rw [if_pos ‹_›]
   rw [if_neg ‹_›]
   split at hc
   ·rw [if_pos ‹_›]
   ·exact absurd rfl hc
  ·rw [if_neg ‹_›]
 ·rw [h]
theorem sP {F:Ff} {b:Bk} {l:List UInt8} {r:Bk×Int} (h:D9 F b l r) (hc:r.2≠0):r.1=b:=by
 unfold D9 at h
 split at h
 ·rw [h]
 ·obtain ⟨r0,h0,rfl⟩:=h
  split at hc
  ·exact absurd rfl hc
  ·rw [if_neg ‹_›];exact Wc h0 hc
end Kb
theorem hZ {q:Option (Nat×Obj)} {w u:World} {H:List Cd} {g cap:Nat} (h:HP q w H (some ⟨g,0,none⟩) cap u) (hk:0<H.length) :
  Calls prog 401 #[.slice (some ⟨g,0,none⟩) H.length cap,.int .i64 0,.int .i64 0] u fun e u'=>e=.returned (.tuple #[])∧HP q w (Cu H 0 0) (some ⟨g,0,none⟩) cap u':=by
 obtain ⟨k0,k1⟩:=h.at hk;have f0:u.frozen? ⟨g,0,none⟩=false:=h.own.frozenAt _;have f1:u.frozen? ⟨g,1,none⟩=false:=h.own.frozenAt _
 have HR:Hid (HP q w (Cu H 0 0) (some ⟨g,0,none⟩) cap ((((u.setCell ⟨g,0,none⟩ (.int .i64 (Bc H 0).1)).setCell ⟨g,1,none⟩ (.int .i64 (Bc H 0).2)).setCell ⟨g,0,none⟩ (.int .i64 (Bc H 0).1)).setCell ⟨g,1,none⟩ (.int .i64 (Bc H 0).2))) :=
  (h.setAt hk (Bc H 0)).setAt (by rw [List.length_set];exact hk) (Bc H 0)
 obtain ⟨⟨a,b⟩,hab⟩:∃ x,Bc H 0=x:=⟨_,rfl⟩;rw [hab] at HR k0 k1
 simp only [Nat.zero_mul,Nat.zero_add] at k0 k1 HR
 have hk':(0:Int)<(H.length:Int):=by omega
 clear h hab
 go_enter func401,ntmps401
 go_region_with (fail)
 all_goals
  go_wp2;go_end0;exact ⟨rfl,HR.o.below (bR.drew)⟩
theorem gZ {w u:World} {H:List Cd} {ao:Option Addr} {cap:Nat} (h:HP none w H ao cap u) (hh:F1 H) (s p:Int) (hn:H.length≤900) :
  Calls prog 281 #[iC w,.iface 294 (.agg #[.int .i64 s,.int .i64 p])] u fun e u'=>e=.returned (.tuple #[])∧∃ g c G,HP none w G (some ⟨g,0,none⟩) c u'∧F1 G∧Fv (H++[(s,p)]) G:=by
 obtain ⟨L,hL⟩:∃ L,H++[(s,p)]=L:=⟨_,rfl⟩
 have HPM:Hid (Calls prog 403 #[.pointer (some ⟨w.heap.size,0,none⟩),.iface 294 (.agg #[.int .i64 s,.int .i64 p])] u fun e u'=>e=.returned (.tuple #[])∧∃ g c,HP none w L (some ⟨g,0,none⟩) c u'):=by rw [← hL];exact eV h s p (by omega)
 have HN:Hid (Qr (H++[(s,p)]) H.length):=eK hh (s,p);have hmp:=mQ (.pointer (some ⟨w.heap.size,0,none⟩)) u
 have hl:(L.length:Int) - 1=(H.length:Int):=by rw [← hL];simp
 have HLT:Hid (H.length<L.length∧L.length≤1000):=by rw [Hid,← hL];simp;omega
 have hLn:L.length≤1000:=HLT.o.2;rw [hL] at HN ⊢;clear h hh hL;unfold iC
 go_enter func281,ntmps281
 go_wp2_with fail
 refine Calls.mono HPM.o ?_;rintro e u2 ⟨rfl,g,c,hp2⟩;have HP2:Hid (HP none w L (some ⟨g,0,none⟩) c u2):=hp2;have hml:=bC hp2.box;clear hp2 hmp;go_wp2_with fail
 refine (Mv _ _ _ _).mono ?_;rintro e u3 ⟨rfl,hu3⟩;subst hu3;go_wp2_with fail
 refine (qI HP2.o H.length HLT.o.1 HLT.o.2 HN.o).mono ?_;rintro e u4 ⟨rfl,G,hp4,hG,hS⟩;have HP4:Hid (HP none w G (some ⟨g,0,none⟩) c u4):=hp4;have HG:Hid _:=hG;have HS:Hid _:=hS;clear hp4 hG hS hml;go_wp2;go_end0;exact ⟨rfl,g,c,G,HP4.o,HG.o,HS.o⟩
theorem iF {q:Option (Nat×Obj)} {w u:World} {H:List Cd} {g cap:Nat} (h:HP q w H (some ⟨g,0,none⟩) cap u) (m:Nat) (hm:H.length=m+1) (hn:H.length≤900) :
  Calls prog 283 #[iC w] u fun e u'=>e=.returned (.iface 294 (.agg #[.int .i64 (Bc H 0).1,.int .i64 (Bc H 0).2]))∧BW w u'∧∀ x o,q=some (x,o)→u'.heap[x]?=some o:=by
 have HH:Hid (HP q w H (some ⟨g,0,none⟩) cap u):=h;have hml:=bC h.box;have hms:=Iv h.box
 have HSW:Hid (Calls prog 401 #[.slice (some ⟨g,0,none⟩) H.length cap,.int .i64 0,.int .i64 m] u fun e u'=>e=.returned (.tuple #[])∧HP q w (Cu H 0 m) (some ⟨g,0,none⟩) cap u'):=by
  by_cases h0:m=0
  ·subst h0
   exact hZ h (by omega)
  ·exact Ke h 0 m (by omega) (by omega)
 have HSL:Hid ((Cu H 0 m).length=m+1∧Bc (Cu H 0 m) m=Bc H 0):=⟨by rw [Hc];exact hm,by rw [Fi (by omega) (by omega),La]⟩
 have hl:(H.length:Int) - 1=(m:Int):=by omega
 have HMB:Hid (m+1≤900):=by rw [Hid];omega
 obtain ⟨⟨a,b⟩,hab⟩:∃ x,Bc H 0=x:=⟨_,rfl⟩;rw [hab] at HSL ⊢
 simp only
 clear h hm hab;unfold iC
 go_enter func283,ntmps283
 go_wp2_with fail
 refine (Mv _ _ _ _).mono ?_;rintro e u3 ⟨rfl,hu3⟩;subst hu3;go_wp2_with fail
 refine Calls.mono HSW.o ?_;rintro e u4 ⟨rfl,hp4⟩;have HP4:Hid (HP q w (Cu H 0 m) (some ⟨g,0,none⟩) cap u4):=hp4;clear hp4 hml hms HSW;go_wp2_with fail
 refine (mJ HP4.o m HSL.o.1 (by have:=HSL.o.1;have:=HMB.o;omega)).mono ?_
 rintro e u5 ⟨⟨z,rfl⟩,G,hp5,hg5,hc5⟩;have HP5:Hid (HP q w G (some ⟨g,0,none⟩) cap u5):=hp5;have HG5:Hid (G.length=m+1∧Bc G m=(a,b)):=⟨hg5.trans HSL.o.1,hc5.trans HSL.o.2⟩;have hmp:=nV (.pointer (some ⟨w.heap.size,0,none⟩)) u5
 have HPO:Hid (Calls prog 402 #[.pointer (some ⟨w.heap.size,0,none⟩)] u5 fun e u'=>e=.returned (.iface 294 (.agg #[.int .i64 a,.int .i64 b]))∧BW w u'∧∀ x o,q=some (x,o)→u'.heap[x]?=some o):=by
  have:=kA HP5.o m HG5.o.1 (by have:=HG5.o.1;have:=HMB.o;omega)
  rw [HG5.o.2] at this;exact this
 clear hp5 hg5 hc5;go_wp2_with fail
 refine Calls.mono HPO.o ?_;rintro e u6 ⟨rfl,b6⟩;have HB6:Hid _:=b6;clear b6 hmp;go_wp2;go_ret;exact ⟨rfl,HB6.o⟩
theorem dN {w u:World} {H:List Cd} {ao:Option Addr} {cap:Nat} (h:HP none w H ao cap u) (hh:F1 H) (s p:Int) (hn:H.length≤900) :
  Calls prog 252 #[.pointer (some ⟨w.heap.size,0,none⟩),.int .i64 s,.int .i64 p] u fun e u'=>e=.returned (.tuple #[])∧∃ g c G,HP none w G (some ⟨g,0,none⟩) c u'∧F1 G∧Fv (H++[(s,p)]) G:=by
 have HPU:Hid (Calls prog 281 #[iC w,.iface 294 (.agg #[.int .i64 s,.int .i64 p])] u fun e u'=>e=.returned (.tuple #[])∧∃ g c G,HP none w G (some ⟨g,0,none⟩) c u'∧F1 G∧Fv (H++[(s,p)]) G):=gZ h hh s p hn
 unfold iC at HPU;clear h hh
 go_enter func252,ntmps252
 go_wp2_with fail
 refine Calls.mono HPU.o ?_;rintro e u4 ⟨rfl,hx⟩;have HX:Hid _:=hx;clear hx;go_wp2;go_end0;exact ⟨rfl,HX.o⟩
theorem HP.name {w u:World} {H:List Cd} {ao:Option Addr} {cap:Nat} (h:HP none w H ao cap u) (o:Obj):HP (some (u.heap.size,o)) w H ao cap (u.alloc o):=by
 have b:Below u.heap.size u (u.alloc o):=bR.alloc nL _;obtain ⟨h1,h2,h3,h4,_⟩:=h.below b
 refine ⟨h1,h2,h3,h4,fun x p e=>?_⟩
 injection e with e
 injection e with e1 e2
 subst e1 e2
 exact ⟨Array.getElem?_push_size,h.lt,fun y hy=>by have:=(h.own.lt y hy).2;omega⟩
theorem Vj {w u:World} {H:List Cd} {ao:Option Addr} {cap:Nat} (h:HP none w H ao cap u) (hn:H.length≤900) (h0:0<H.length) :
  Calls prog 253 #[.pointer (some ⟨w.heap.size,0,none⟩)] u fun e u'=>e=.returned (.tuple #[.agg #[.int .i64 (Bc H 0).1,.int .i64 (Bc H 0).2],.bool true])∧BW w u':=by
 obtain ⟨g,rfl,-,-⟩:=h.row h0
 obtain ⟨m,hm⟩:∃ m,H.length=m+1:=⟨H.length - 1,by omega⟩
 have hp:=h.name (.cells #[.int .i64 0,.int .i64 0] 294);have HU:Hid (w.heap.size<u.heap.size):=h.lt;obtain ⟨W,hW⟩:∃ W,u.alloc (.cells #[.int .i64 0,.int .i64 0] 294)=W:=⟨_,rfl⟩;rw [hW] at hp;have hbox:=hp.box
 have HPO:Hid (Calls prog 283 #[iC w] W fun e u'=>e=.returned (.iface 294 (.agg #[.int .i64 (Bc H 0).1,.int .i64 (Bc H 0).2]))∧BW w u'∧∀ x o,some (u.heap.size,Obj.cells #[.int .i64 0,.int .i64 0] 294)=some (x,o)→u'.heap[x]?=some o):=iF hp m hm hn
 unfold iC at HPO;have HW:Hid _:=hW
 have hne:((H.length:Int) == 0)=false:=beq_eq_false_iff_ne.2 (by omega)
 obtain ⟨⟨a,b⟩,hab⟩:∃ x,Bc H 0=x:=⟨_,rfl⟩;rw [hab] at HPO ⊢
 simp only at HPO ⊢
 have ta:=tH a b;clear hp h hW hab hm
 go_enter func253,ntmps253
 go_upto_region 1 with fail
 rw [HW.o];go_wp2_with fail
 refine (Mv _ _ _ _).mono ?_;rintro e u3 ⟨rfl,hu3⟩;subst hu3;go_wp2_with fail
 refine Calls.mono HPO.o ?_;rintro e u4 ⟨rfl,b4,hk4⟩;have hk:=hk4 _ _ rfl;have lk:u.heap.size<u4.heap.size:=(Array.getElem?_eq_some_iff.1 hk).1
 have c0:u4.cell? ⟨u.heap.size,0,none⟩=some (.int .i64 0):=by simp [World.cell?,hk]
 have c1:u4.cell? ⟨u.heap.size,1,none⟩=some (.int .i64 0):=by simp [World.cell?,hk]
 have z0:u4.frozen? ⟨u.heap.size,0,none⟩=false:=by simp [World.frozen?,hk]
 have z1:u4.frozen? ⟨u.heap.size,1,none⟩=false:=by simp [World.frozen?,hk]
 have HB4:Hid (BW w u4):=b4;clear b4 hk4 hk hbox;go_upto_region 4 with fail
 obtain ⟨V,hV⟩:∃ V,u4.alloc (.cells #[.int .i64 a,.int .i64 b] 294)=V:=⟨_,rfl⟩;have bV:BW u4 V:=hV ▸ bR.alloc nL _
 have d0:V.cell? ⟨u4.heap.size,0,none⟩=some (.int .i64 a):=by rw [← hV];simp
 have d1:V.cell? ⟨u4.heap.size,1,none⟩=some (.int .i64 b):=by rw [← hV];simp
 have e0:=(bV.cell (p:=⟨u.heap.size,0,none⟩) lk).trans c0;have e1:=(bV.cell (p:=⟨u.heap.size,1,none⟩) lk).trans c1;have e2:=(bV.frozen (p:=⟨u.heap.size,0,none⟩) lk).trans z0;have e3:=(bV.frozen (p:=⟨u.heap.size,1,none⟩) lk).trans z1;have HBV:Hid (BW w V):=HB4.o.trans (bV.mono HB4.o.size)
 have hnn:¬ u4.heap.size=u.heap.size:=by omega
 have hnn2:¬ u.heap.size=u4.heap.size:=by omega
 rw [hV];clear hV bV c0 c1 z0 z1;go_wp2
 refine bodyPost_ret (by simp [results,results253,go_sem,e0,e1];try rfl) rfl ?_
 exact ⟨rfl,(HBV.o.setCell (Nat.le_of_lt HU.o) _).setCell (Nat.le_of_lt HU.o) _⟩
theorem Zg {w u:World} {H:List Cd} {ao:Option Addr} {cap:Nat} (h:HP none w H ao cap u) (h0:H.length=0) :
  Calls prog 253 #[.pointer (some ⟨w.heap.size,0,none⟩)] u fun e u'=>e=.returned (.tuple #[.agg #[.int .i64 0,.int .i64 0],.bool false])∧BW w u':=by
 have hp:=h.name (.cells #[.int .i64 0,.int .i64 0] 294);have HU:Hid (w.heap.size<u.heap.size):=h.lt;obtain ⟨W,hW⟩:∃ W,u.alloc (.cells #[.int .i64 0,.int .i64 0] 294)=W:=⟨_,rfl⟩
 have c0:W.cell? ⟨u.heap.size,0,none⟩=some (.int .i64 0):=by rw [← hW];simp
 have c1:W.cell? ⟨u.heap.size,1,none⟩=some (.int .i64 0):=by rw [← hW];simp
 have z0:W.frozen? ⟨u.heap.size,0,none⟩=false:=by rw [← hW];simp [go_sem]
 have z1:W.frozen? ⟨u.heap.size,1,none⟩=false:=by rw [← hW];simp [go_sem]
 rw [hW] at hp;have hbox:=hp.box;rw [h0] at hbox;have HB:Hid (BW w W):=hp.bel;have HW:Hid _:=hW;clear hp h hW h0
 go_enter func253,ntmps253
 go_upto_region 1 with fail
 rw [HW.o];go_wp2_with fail
 refine (Mv _ _ _ _).mono ?_;rintro e u3 ⟨rfl,hu3⟩;subst hu3;go_wp2
 refine bodyPost_ret (by simp [results,results253,go_sem,c0,c1];try rfl) rfl ?_
 exact ⟨rfl,(HB.o.setCell (Nat.le_of_lt HU.o) _).setCell (Nat.le_of_lt HU.o) _⟩
theorem dP (ao:Option Addr) (cap:Nat) (az:List Au) (iY uV am day:Int) (w:World) (hz:Ar w ao az) (hn:az.length≤1048576) (hd:∀ a ∈ az,a.ref.length≤1099511627776) (hc:∀ a ∈ az,Bf a.cur) (w3:(Lit.int .i64 am).wf=true) (w4:(Lit.int .i64 day).wf=true) :
  Calls prog 209 #[.slice ao az.length cap,.int .i64 iY,.int .i64 uV,.int .i64 am,.int .i64 day] w fun e w'=>∃ x,e=.returned (.int .i64 x)∧Gm az iY uV am day x∧BW w w':=by
 by_cases hb:100<az.length
 ·have hb':(100:Int)<(az.length:Int):=by omega
  go_enter func209,ntmps209
  go_wp2;go_ret;exact ⟨_,rfl,.inr ⟨hb,rfl⟩,bR⟩
 have hb':(az.length:Int)≤100:=by omega
 have HSC:Hid (∀ k,k<az.length→∀ u,Calls prog 251 #[Fe (Ak az k),.int .i64 iY,.int .i64 uV,.int .i64 am,.int .i64 day] u fun e w'=>e=.returned (.int .i64 (scA az iY uV am day k))∧BW u w'):=fun k hk u=>aV _ iY uV am day u (hd _ (J8 hk)) (hc _ (J8 hk)) w3 w4
 have HP0:Hid (HP none w [] none 0 (w.alloc (.cells #[.slice none 0 0] 291))) :=
  ⟨bR.alloc nL _,by simp,by simp [go_sem],World.ownsRow_nil _ _ _ _,fun _ _ e=>by cases e⟩
 obtain ⟨sc,hsc⟩:∃ f,scA az iY uV am day=f:=⟨_,rfl⟩
 have HBA:Hid (∀ x,Io sc az.length x→Gm az iY uV am day x):=fun x hx=>.inl ⟨by omega,by rw [hsc];exact hx⟩
 rw [hsc] at HSC;clear hsc hd hc w3 w4
 go_enter func209,ntmps209
 go_wp2
 go_loopw [12,13,14,22] (fun _ _ _ i wr=>∃ (k:Nat) (H:List Cd) (a:Option Addr) (c:Nat),k≤az.length∧i=.int .i64 k∧Gu sc k H∧HP none w H a c wr) (fun _ _ _ i _=>az.length - (intOf i).toNat)
 case atStart=>exact ⟨0,[],none,0,Nat.zero_le _,rfl,Gu.start sc,HP0.o⟩
 case round =>
  obtain ⟨k,H,ao2,cc,hk,rfl,hcd,hp⟩:=hrel;have HCD:Hid (Gu sc k H):=hcd;have HPR:Hid (HP none w H ao2 cc wr):=hp
  have HLE:Hid (H.length≤900):=by have:=hcd.le;rw [Hid];omega
  clear hcd hp HP0
  by_cases hlt:k<az.length
  ·rcases hz with h0 | ⟨b,off,rfl,hbz,hcell⟩
   ·rw [h0] at hlt;simp at hlt
   have hbr:BW w wr:=HPR.o.bel;have HCL:Hid (∀ i,i<az.length→w.cell? ⟨b,off+i*6,none⟩=some (.string ⟨(Ak az i).ref.toArray⟩)∧w.cell? ⟨b,off+i*6+1,none⟩=some (.int .i64 (Ak az i).iss)∧w.cell? ⟨b,off+i*6+2,none⟩=some (.int .i64 (Ak az i).cur)∧w.cell? ⟨b,off+i*6+3,none⟩=some (.int .i64 (Ak az i).am)∧w.cell? ⟨b,off+i*6+4,none⟩=some (.int .i64 (Ak az i).day)∧w.cell? ⟨b,off+i*6+5,none⟩=some (.bool (Ak az i).used)):=hcell;have x0:wr.cell? ⟨b,off+k*6,none⟩=some (.string ⟨(Ak az k).ref.toArray⟩):=(hbr.cell (p:=⟨b,off+k*6,none⟩) hbz).trans (HCL.o k hlt).1;have x1:wr.cell? ⟨b,off+k*6+1,none⟩=some (.int .i64 (Ak az k).iss):=(hbr.cell (p:=⟨b,off+k*6+1,none⟩) hbz).trans (HCL.o k hlt).2.1;have x2:wr.cell? ⟨b,off+k*6+2,none⟩=some (.int .i64 (Ak az k).cur):=(hbr.cell (p:=⟨b,off+k*6+2,none⟩) hbz).trans (HCL.o k hlt).2.2.1;have x3:wr.cell? ⟨b,off+k*6+3,none⟩=some (.int .i64 (Ak az k).am):=(hbr.cell (p:=⟨b,off+k*6+3,none⟩) hbz).trans (HCL.o k hlt).2.2.2.1;have x4:wr.cell? ⟨b,off+k*6+4,none⟩=some (.int .i64 (Ak az k).day):=(hbr.cell (p:=⟨b,off+k*6+4,none⟩) hbz).trans (HCL.o k hlt).2.2.2.2.1;have x5:wr.cell? ⟨b,off+k*6+5,none⟩=some (.bool (Ak az k).used):=(hbr.cell (p:=⟨b,off+k*6+5,none⟩) hbz).trans (HCL.o k hlt).2.2.2.2.2
   have hki:(k:Int)<(az.length:Int):=by omega
   have HSK:Hid (∀ u,Calls prog 251 #[Fe (Ak az k),.int .i64 iY,.int .i64 uV,.int .i64 am,.int .i64 day] u fun e w'=>e=.returned (.int .i64 (sc k))∧BW u w'):=HSC.o k hlt
   obtain ⟨⟨r,i,c,m,d,u⟩,hf⟩:∃ a,Ak az k=a:=⟨_,rfl⟩;rw [hf] at x0 x1 x2 x3 x4 x5 HSK;unfold Fe at HSK
   simp only at x0 x1 x2 x3 x4 x5 HSK
   clear hf hcell hbr;go_upto_region 7 with fail
   clear x0 x1 x2 x3 x4 x5;obtain ⟨W,hW⟩:∃ W,wr.alloc (.cells #[.string ⟨r.toArray⟩,.int .i64 i,.int .i64 c,.int .i64 m,.int .i64 d,.bool u] 107)=W:=⟨_,rfl⟩;have bW:BW wr W:=hW ▸ bR.alloc nL _;have BX:Jo wr.heap.size ⟨r,i,c,m,d,u⟩ W:=hW ▸ Jo.new wr ⟨r,i,c,m,d,u⟩ _;rw [hW];clear hW;have HPW:Hid (HP none w H ao2 cc W):=HPR.o.below bW;obtain ⟨q0,q1,q2,q3,q4,q5⟩:=BX
   simp only at q0 q1 q2 q3 q4 q5
   clear bW HPR;go_wp2_with fail
   refine (HSK.o _).mono ?_;rintro e u2 ⟨rfl,b2⟩;have HP2:Hid (HP none w H ao2 cc u2):=HPW.o.below b2;clear b2 q0 q1 q2 q3 q4 q5 HPW HSK
   by_cases hs:0≤sc k
   ·have HAD:Hid (Calls prog 252 #[.pointer (some ⟨w.heap.size,0,none⟩),.int .i64 (sc k),.int .i64 k] u2 fun e u'=>e=.returned (.tuple #[])∧∃ g c G,HP none w G (some ⟨g,0,none⟩) c u'∧F1 G∧Fv (H++[(sc k,(k:Int))]) G):=dN HP2.o HCD.o.heap (sc k) k HLE.o
    have HPU:Hid (∀ G,F1 G→Fv (H++[(sc k,(k:Int))]) G→Gu sc (k+1) G):=fun G h1 h2=>HCD.o.push hs h1 h2
    generalize sc k=s at hs HAD HPU
    go_wp2_with fail
    refine Calls.mono HAD.o ?_;rintro e u3 ⟨rfl,g3,c3,G,hp3,hG,hS⟩;have HP3:Hid (HP none w G (some ⟨g3,0,none⟩) c3 u3):=hp3;have HC3:Hid (Gu sc (k+1) G):=HPU.o G hG hS;clear hp3 hG hS;go_wp2
    go_roundw
    case rel=>exact ⟨k+1,G,_,_,by omega,by go_num,HC3.o,HP3.o⟩
    case measure=>simp [intOf];omega
   ·have HC3:Hid (Gu sc (k+1) H):=HCD.o.skip (by omega)
    generalize sc k=s at hs
    go_wp2
    go_roundw
    case rel=>exact ⟨k+1,H,_,_,by omega,by go_num,HC3.o,HP2.o⟩
    case measure=>simp [intOf];omega
  ·have hke:k=az.length:=by omega
   subst hke
   by_cases h0:0<H.length
   ·have HNY:Hid (Calls prog 253 #[.pointer (some ⟨w.heap.size,0,none⟩)] wr fun e u'=>e=.returned (.tuple #[.agg #[.int .i64 (Bc H 0).1,.int .i64 (Bc H 0).2],.bool true])∧BW w u'):=Vj HPR.o HLE.o h0
    have HBR:Hid (Gm az iY uV am day (Bc H 0).2):=HBA.o _ (eB HCD.o h0);obtain ⟨⟨s,p⟩,hsp⟩:∃ x,Bc H 0=x:=⟨_,rfl⟩;rw [hsp] at HNY HBR
    simp only at HNY HBR
    clear hsp h0 hz;go_wp2_with fail
    refine Calls.mono HNY.o ?_;rintro e u3 ⟨rfl,b3⟩;have HB3:Hid _:=b3;clear b3;go_wp2;go_ret;exact ⟨_,rfl,HBR.o,HB3.o.alloc HB3.o.size _⟩
   ·have HNN:Hid (Calls prog 253 #[.pointer (some ⟨w.heap.size,0,none⟩)] wr fun e u'=>e=.returned (.tuple #[.agg #[.int .i64 0,.int .i64 0],.bool false])∧BW w u'):=Zg HPR.o (by omega)
    have HBR:Hid (Gm az iY uV am day (-1)):=HBA.o _ (fB HCD.o (by omega))
    clear h0 hz;go_wp2_with fail
    refine Calls.mono HNN.o ?_;rintro e u3 ⟨rfl,b3⟩;have HB3:Hid _:=b3;clear b3;go_wp2;go_ret;exact ⟨_,rfl,HBR.o,HB3.o.alloc HB3.o.size _⟩
theorem Lj {b:Nat} {ao:Option Addr} {cp:Nat} {zs:List Int} {a:Ac} {t:Int} {c:Cs} {es:List En} {v:Value} {w:World} (h:DS b ao cp zs a t c es v w) :
  Calls prog 319 #[.pointer (some ⟨b,0,none⟩)] w (DR b ao cp zs a t w (.int .i64 0) (J9 c) es):=by
 have c4:=h.db.cb.f4;have c11:=h.db.cb.f11;have c9:=h.db.cb.f9;have z4:=h.db.fz.z4;have z11:=h.db.fz.z11;have z9:=h.db.fz.z9
 simp only [Nat.zero_add] at c4 c11 c9 z4 z11 z9
 have HH:Hid (DS b ao cp zs a t c es v w):=h;clear h
 go_enter func319,ntmps319
 go_wp2;go_ret;exact ⟨rfl,⟨v,((HH.o.set4 2).set11 (-1)).set9 true⟩,((Bn _ _ 4 _).trans (Bn _ _ 11 _)).trans (Bn _ _ 9 _)⟩
theorem Pn {b:Nat} {ao:Option Addr} {cp:Nat} {zs:List Int} {a:Ac} {t:Int} {c:Cs} {es:List En} {v:Value} {w:World} (h:DS b ao cp zs a t c es v w) (k:Int) (hk:k=5∨k=7∨k=8) :
  Calls prog 324 #[.pointer (some ⟨b,0,none⟩),.int .i64 k] w (DR b ao cp zs a t w (.int .i64 0) ⟨c.iss,c.acq,c.cur,c.am,7,c.rsn,0,c.bk,c.fee,c.cop,c.sta,-1⟩ es):=by
 have c4:=h.db.cb.f4;have c6:=h.db.cb.f6;have c11:=h.db.cb.f11;have z4:=h.db.fz.z4;have z6:=h.db.fz.z6;have z11:=h.db.fz.z11
 simp only [Nat.zero_add] at c4 c6 c11 z4 z6 z11
 have HH:Hid (DS b ao cp zs a t c es v w):=h;clear h
 rcases hk with rfl | rfl | rfl
 iterate 3
  ·go_enter func324,ntmps324
   go_wp2;go_ret;exact ⟨rfl,⟨v,((HH.o.set6 0).set4 7).set11 (-1)⟩,((Bn _ _ 6 _).trans (Bn _ _ 4 _)).trans (Bn _ _ 11 _)⟩
theorem iT {b:Nat} {ao:Option Addr} {cp:Nat} {zs:List Int} {a:Ac} {t:Int} {c:Cs} {es:List En} {v:Value} {w:World} (h:DS b ao cp zs a t c es v w) :
  Calls prog 324 #[.pointer (some ⟨b,0,none⟩),.int .i64 9] w (DR b ao cp zs a t w (.int .i64 0) ⟨c.iss,c.acq,c.cur,c.am,7,c.rsn,c.cl,c.bk,c.fee,c.cop,c.sta,-1⟩ es):=by
 have c4:=h.db.cb.f4;have c11:=h.db.cb.f11;have z4:=h.db.fz.z4;have z11:=h.db.fz.z11
 simp only [Nat.zero_add] at c4 c11 z4 z11
 have HH:Hid (DS b ao cp zs a t c es v w):=h;clear h
 go_enter func324,ntmps324
 go_wp2;go_ret;exact ⟨rfl,⟨v,(HH.o.set4 7).set11 (-1)⟩,(Bn _ _ 4 _).trans (Bn _ _ 11 _)⟩
theorem iR {b:Nat} {ao:Option Addr} {cp:Nat} {zs:List Int} {a:Ac} {t:Int} {c:Cs} {es:List En} {v:Value} {w:World} (h:DS b ao cp zs a t c es v w) :
  Calls prog 297 #[.pointer (some ⟨b,0,none⟩)] w (DR b ao cp zs a t w (.int .i64 0) ⟨c.iss,c.acq,c.cur,c.am,7,c.rsn,c.cl,c.bk,c.fee,c.cop,c.sta,-1⟩ es):=by
 have HH:Hid (DS b ao cp zs a t c es v w):=h;clear h
 go_enter func297,ntmps297
 go_wp2_with fail
 refine (iT HH.o).mono ?_;rintro e w1 ⟨rfl,D1,b1⟩;go_wp2;go_ret;exact ⟨rfl,D1,b1⟩
theorem oI {b:Nat} {ao:Option Addr} {cp:Nat} {zs:List Int} {a:Ac} {t:Int} {c:Cs} {es:List En} {v:Value} {w:World} (h:DS b ao cp zs a t c es v w) (hn:zs.length≤1099511627776) :
  Calls prog 288 #[.pointer (some ⟨b,0,none⟩)] w (DR b ao cp zs a t w (.int .i64 0) ⟨c.iss,c.acq,c.cur,c.am,1,c.rsn,c.cl,c.bk,c.fee,c.cop,c.sta,C6 t 20 zs⟩ es):=by
 have c4:=h.db.cb.f4;have z4:=h.db.fz.z4
 simp only [Nat.zero_add] at c4 z4
 have HH:Hid (DS b ao cp zs a t c es v w):=h;clear h
 go_enter func288,ntmps288
 go_wp2_with fail
 refine (Is (HH.o.set4 1) hn 4 20 rfl).mono ?_;rintro e w1 ⟨rfl,D1,b1⟩;have HD:Hid _:=D1;have HB:Hid (Below b w w1):=(Bn _ _ 4 _).trans b1;clear D1 b1;go_wp2;go_ret;exact ⟨rfl,HD.o,HB.o⟩
theorem mH {b:Nat} {ao:Option Addr} {cp:Nat} {zs:List Int} {a:Ac} {t:Int} {c:Cs} {es:List En} {v:Value} {w:World} (h:DS b ao cp zs a t c es v w) :
  Calls prog 289 #[.pointer (some ⟨b,0,none⟩)] w (DR b ao cp zs a t w (.int .i64 (if Bv t c.due=true then 4 else 0)) (if Bv t c.due=true then c else J9 c) es):=by
 have HH:Hid (DS b ao cp zs a t c es v w):=h;have HL:Hid (b<w.heap.size):=h.lt
 have HQ:Hid (Calls prog 318 #[.pointer (some ⟨b,0,none⟩)] w fun e w'=>e=.returned (.bool (Bv t c.due))∧BW w w'):=Hn h
 clear h
 cases hl:Bv t c.due
 ·rw [hl] at HQ
  clear hl
  rw [if_neg (by decide),if_neg (by decide)]
  go_enter func289,ntmps289
  go_wp2_with fail
  refine Calls.mono HQ.o ?_;rintro e w1 ⟨rfl,b1⟩;have HB:Hid (BW w w1):=b1;clear b1;go_wp2_with fail
  refine (Lj (HH.o.below HB.o)).mono ?_;rintro e w2 ⟨rfl,D2,b2⟩;have HD:Hid _:=D2;have HB2:Hid (Below b w w2):=(HB.o.mono (Nat.le_of_lt HL.o)).trans b2;clear D2 b2;go_wp2;go_ret;exact ⟨rfl,HD.o,HB2.o⟩
 ·rw [hl] at HQ
  clear hl;rw [if_pos rfl,if_pos rfl]
  go_enter func289,ntmps289
  go_wp2_with fail
  refine Calls.mono HQ.o ?_;rintro e w1 ⟨rfl,b1⟩;have HB:Hid (BW w w1):=b1;clear b1;go_wp2;go_ret;exact ⟨rfl,⟨v,HH.o.below HB.o⟩,HB.o.mono (Nat.le_of_lt HL.o)⟩
theorem Yn {b:Nat} {ao:Option Addr} {cp:Nat} {zs:List Int} {a:Ac} {t:Int} {c:Cs} {es:List En} {v:Value} {w:World} (h:DS b ao cp zs a t c es v w) (hn:zs.length≤1099511627776) :
  Calls prog 294 #[.pointer (some ⟨b,0,none⟩)] w (DR b ao cp zs a t w (.int .i64 (if Bv t c.due=true then 4 else 0)) (if Bv t c.due=true then c else ⟨c.iss,c.acq,c.cur,c.am,6,c.rsn,c.cl,c.bk,c.fee,c.cop,c.sta,C6 t 60 zs⟩) es):=by
 have HH:Hid (DS b ao cp zs a t c es v w):=h;have HL:Hid (b<w.heap.size):=h.lt
 have HQ:Hid (Calls prog 318 #[.pointer (some ⟨b,0,none⟩)] w fun e w'=>e=.returned (.bool (Bv t c.due))∧BW w w'):=Hn h
 clear h
 cases hl:Bv t c.due
 ·rw [hl] at HQ
  clear hl
  rw [if_neg (by decide),if_neg (by decide)]
  go_enter func294,ntmps294
  go_wp2_with fail
  refine Calls.mono HQ.o ?_;rintro e w1 ⟨rfl,b1⟩;have HB:Hid (BW w w1):=b1;have h:=HH.o.below b1;have c4:=h.db.cb.f4;have z4:=h.db.fz.z4
  simp only [Nat.zero_add] at c4 z4
  have HH1:Hid (DS b ao cp zs a t c es v w1):=h;clear b1 h;go_wp2_with fail
  refine (Is (HH1.o.set4 6) hn 3 60 rfl).mono ?_;rintro e w2 ⟨rfl,D2,b2⟩;have HD:Hid _:=D2;have HB2:Hid (Below b w w2):=((HB.o.mono (Nat.le_of_lt HL.o)).trans (Bn _ _ 4 _)).trans b2;clear D2 b2;go_wp2;go_ret;exact ⟨rfl,HD.o,HB2.o⟩
 ·rw [hl] at HQ
  clear hl;rw [if_pos rfl,if_pos rfl]
  go_enter func294,ntmps294
  go_wp2_with fail
  refine Calls.mono HQ.o ?_;rintro e w1 ⟨rfl,b1⟩;have HB:Hid (BW w w1):=b1;clear b1;go_wp2;go_ret;exact ⟨rfl,⟨v,HH.o.below HB.o⟩,HB.o.mono (Nat.le_of_lt HL.o)⟩
theorem Le {c:Cs} {x:Int} (h:0≤x):H0 c [] c.acq c.iss x=Bg c x:=by
 unfold H0 Bg
 by_cases h0:x=0
 ·rw [if_pos h0,if_neg (by omega)]
 ·rw [if_neg h0,if_pos (by omega)];rfl
theorem aO {c:Cs} {x:Int} (h:0≤x):H0 c [] c.iss c.acq x=Dw c x:=by
 unfold H0 Dw
 by_cases h0:x=0
 ·rw [if_pos h0,if_neg (by omega)]
 ·rw [if_neg h0,if_pos (by omega)];rfl
theorem eT (c:Cs) (es:List En) (f g s:Int):(H0 c es f g s).length≤es.length+1:=by unfold H0;split <;> simp
theorem S2 {b:Nat} {ao:Option Addr} {cp:Nat} {zs:List Int} {a:Ac} {t:Int} {c:Cs} {es:List En} {v:Value} {w:World} (h:DS b ao cp zs a t c es v w) :
  Calls prog 322 #[.pointer (some ⟨b,0,none⟩)] w fun e w'=>e=.returned (.int .i64 (Dd c a t))∧BW w w':=by
 have HH:Hid (DS b ao cp zs a t c es v w):=h
 have HQ:Hid (Calls prog 318 #[.pointer (some ⟨b,0,none⟩)] w fun e w'=>e=.returned (.bool (Bv t c.due))∧BW w w'):=Hn h
 clear h
 cases hl:Bv t c.due
 ·rw [hl] at HQ
  have HV:Hid (Dd c a t=if 1≤a.am∧a.am≤c.cl then 0 else 2):=if_neg (by rw [hl];decide)
  clear hl
  go_enter func322,ntmps322
  go_wp2_with fail
  refine Calls.mono HQ.o ?_;rintro e w1 ⟨rfl,b1⟩;have HB:Hid (BW w w1):=b1;have h:=HH.o.below b1;have c13:=h.db.a1;have c6:=h.db.cb.f6
  simp only [Nat.zero_add] at c6
  clear b1 h;obtain ⟨x,hx⟩:∃ x,a.am=x:=⟨_,rfl⟩;obtain ⟨y,hy⟩:∃ y,c.cl=y:=⟨_,rfl⟩;rw [hx] at c13 HV;rw [hy] at c6 HV;clear hx hy
  by_cases h1:x<1
  ·have HE:Hid (Dd c a t=2):=by rw [Hid,HV.o,if_neg (by omega)]
   go_wp2
   go_quiet (fail)
   all_goals
    go_wp2;go_ret;exact ⟨Af HE.o.symm,below_drewN HB.o _⟩
  ·by_cases h2:y<x
   ·have HE:Hid (Dd c a t=2):=by rw [Hid,HV.o,if_neg (by omega)]
    go_wp2
    go_quiet (fail)
    all_goals
     go_wp2;go_ret;exact ⟨Af HE.o.symm,below_drewN HB.o _⟩
   ·have HE:Hid (Dd c a t=0):=by rw [Hid,HV.o,if_pos (by omega)]
    go_wp2
    go_quiet (fail)
    all_goals
     go_wp2;go_ret;exact ⟨Af HE.o.symm,below_drewN HB.o _⟩
 ·rw [hl] at HQ
  have HV:Hid (Dd c a t=4):=if_pos hl;clear hl
  go_enter func322,ntmps322
  go_wp2_with fail
  refine Calls.mono HQ.o ?_;rintro e w1 ⟨rfl,b1⟩;have HB:Hid (BW w w1):=b1;clear b1;go_wp2;go_ret;exact ⟨Af HV.o.symm,HB.o⟩
theorem Na {b:Nat} {ao:Option Addr} {cp:Nat} {zs:List Int} {a:Ac} {t:Int} {c:Cs} {es:List En} {v:Value} {w:World} (h:DS b ao cp zs a t c es v w) (hl:es.length≤100) (s:Int) (h0:0≤s∧s≤1000000000000) (hb:0≤c.bk∧c.bk≤1000000000000) :
  Calls prog 323 #[.pointer (some ⟨b,0,none⟩),.int .i64 s] w (DR b ao cp zs a t w (.tuple #[]) ⟨c.iss,c.acq,c.cur,c.am,c.st,c.rsn,c.cl,c.bk+s,c.fee,c.cop,c.sta,c.due⟩ (H0 c es c.acq c.iss s)):=by
 have HH:Hid (DS b ao cp zs a t c es v w):=h;have HL:Hid (b<w.heap.size):=h.lt
 have HM:Hid (∀ u,BW w u→Calls prog 321 #[.pointer (some ⟨b,0,none⟩),.int .i64 c.acq,.int .i64 c.iss,.int .i64 s] u (DR b ao cp zs a t u (.tuple #[]) c (H0 c es c.acq c.iss s))):=fun u hu=>J1 (h.below hu) hl c.acq c.iss s
 have c0:=h.db.cb.f0;have c1:=h.db.cb.f1
 simp only [Nat.zero_add] at c0 c1
 obtain ⟨x,hx⟩:∃ x,c.acq=x:=⟨_,rfl⟩;obtain ⟨y,hy⟩:∃ y,c.iss=y:=⟨_,rfl⟩;obtain ⟨M,hM⟩:∃ M,H0 c es c.acq c.iss s=M:=⟨_,rfl⟩;rw [hM] at HM ⊢;rw [hx] at c1;rw [hy] at c0;rw [hx,hy] at HM;clear h hx hy hM;have b0:BW w w:=bR
 go_enter func323,ntmps323
 go_wp2_with fail
 go_region_with (go_at_call 321;(first | with_reducible refine (HM.o _ b0).mono ?_ | with_reducible refine (HM.o _ b0.drew).mono ?_);rintro e w1 ⟨rfl,D1,b1⟩;(first | (have HB:Hid (Below b w w1):=(Below.refl b w).trans b1) | (have HB:Hid (Below b w w1):=((Below.refl b w).drew).trans b1));obtain ⟨v1,d1⟩:=D1;have HD:Hid _:=d1;have q7:=d1.db.cb.f7;have y7:=d1.db.fz.z7;simp only [Nat.zero_add] at q7 y7;clear d1 b1)
 all_goals
  obtain ⟨z,hz⟩:∃ z,c.bk=z:=⟨_,rfl⟩;rw [hz] at q7 hb
  have HZ:Hid (z+s=c.bk+s):=by rw [Hid,hz]
  clear hz;go_wp2;go_end0
  exact ⟨rfl,⟨v1,by rw [← HZ.o];exact HD.o.set7 (z+s)⟩,HB.o.trans (Bn _ _ 7 _)⟩
theorem Z2 {b:Nat} {ao:Option Addr} {cp:Nat} {zs:List Int} {a:Ac} {t:Int} {c:Cs} {v:Value} {w:World} (h:DS b ao cp zs a t c [] v w) (hn:zs.length≤1099511627776) :
  Calls prog 292 #[.pointer (some ⟨b,0,none⟩)] w (DR b ao cp zs a t w (.int .i64 (Dd c a t)) (if Dd c a t=0 then ⟨c.iss,c.acq,c.cur,c.am,5,c.rsn,a.am,c.bk,c.fee,c.cop,c.sta,C6 t 15 zs⟩ else c) []):=by
 have HH:Hid (DS b ao cp zs a t c [] v w):=h;have HL:Hid (b<w.heap.size):=h.lt
 have HQ:Hid (Calls prog 322 #[.pointer (some ⟨b,0,none⟩)] w fun e w'=>e=.returned (.int .i64 (Dd c a t))∧BW w w'):=S2 h
 clear h;obtain ⟨r,hr⟩:∃ r,Dd c a t=r:=⟨_,rfl⟩;rw [hr] at HQ ⊢;clear hr
 by_cases h0:r=0
 ·subst h0
  rw [if_pos rfl]
  go_enter func292,ntmps292
  go_wp2_with fail
  refine Calls.mono HQ.o ?_;rintro e w1 ⟨rfl,b1⟩;have HB:Hid (BW w w1):=b1;have h:=HH.o.below b1;have c13:=h.db.a1;have c4:=h.db.cb.f4;have c6:=h.db.cb.f6;have z4:=h.db.fz.z4;have z6:=h.db.fz.z6
  simp only [Nat.zero_add] at c4 c6 z4 z6
  have HH1:Hid (DS b ao cp zs a t c [] v w1):=h;clear b1 h;go_wp2_with fail
  refine (Is ((HH1.o.set4 5).set6 a.am) hn 2 15 rfl).mono ?_;rintro e w2 ⟨rfl,D2,b2⟩;have HD:Hid _:=D2;have HB2:Hid (Below b w w2):=(((HB.o.mono (Nat.le_of_lt HL.o)).trans (Bn _ _ 4 _)).trans (Bn _ _ 6 _)).trans b2;clear D2 b2;go_wp2;go_ret;exact ⟨rfl,HD.o,HB2.o⟩
 ·rw [if_neg h0]
  have h0':(r != 0)=true:=by simpa using h0
  clear h0
  go_enter func292,ntmps292
  go_wp2_with fail
  refine Calls.mono HQ.o ?_;rintro e w1 ⟨rfl,b1⟩;have HB:Hid (BW w w1):=b1;clear b1;go_wp2;go_ret;exact ⟨rfl,⟨v,HH.o.below HB.o⟩,HB.o.mono (Nat.le_of_lt HL.o)⟩
theorem Rl {b:Nat} {ao:Option Addr} {cp:Nat} {zs:List Int} {a:Ac} {t:Int} {c:Cs} {v:Value} {w:World} (h:DS b ao cp zs a t c [] v w) (hb:0≤c.bk∧c.bk≤1000000000000) (hc:0≤c.cl∧c.cl≤1000000000000) :
  Calls prog 293 #[.pointer (some ⟨b,0,none⟩)] w (DR b ao cp zs a t w (.int .i64 0) (I5 c c.cl) (Bg c c.cl)):=by
 have HH:Hid (DS b ao cp zs a t c [] v w):=h
 have HG:Hid (Calls prog 323 #[.pointer (some ⟨b,0,none⟩),.int .i64 c.cl] w (DR b ao cp zs a t w (.tuple #[]) ⟨c.iss,c.acq,c.cur,c.am,c.st,c.rsn,c.cl,c.bk+c.cl,c.fee,c.cop,c.sta,c.due⟩ (Bg c c.cl))):=by
  have g:=Na h (Nat.zero_le _) c.cl hc hb;rw [Le hc.1] at g;exact g
 have c6:=h.db.cb.f6
 simp only [Nat.zero_add] at c6
 clear h
 go_enter func293,ntmps293
 go_wp2_with fail
 refine Calls.mono HG.o ?_;rintro e w1 ⟨rfl,⟨v1,D1⟩,b1⟩;have HD:Hid (DS b ao cp zs a t ⟨c.iss,c.acq,c.cur,c.am,c.st,c.rsn,c.cl,c.bk+c.cl,c.fee,c.cop,c.sta,c.due⟩ (Bg c c.cl) v1 w1):=D1;have HB:Hid (Below b w w1):=b1;clear D1 b1;go_wp2_with fail
 refine (Pn HD.o 5 (.inl rfl)).mono ?_;rintro e w2 ⟨rfl,D2,b2⟩;have HD2:Hid _:=D2;have HB2:Hid (Below b w w2):=HB.o.trans b2;clear D2 b2;go_wp2;go_ret;exact ⟨rfl,HD2.o,HB2.o⟩
theorem O6 {b:Nat} {ao:Option Addr} {cp:Nat} {zs:List Int} {a:Ac} {t:Int} {c:Cs} {v:Value} {w:World} (h:DS b ao cp zs a t c [] v w) (s:Int) (hs:0≤s∧s≤1000000000000) (hb:0≤c.bk∧c.bk≤1000000000000) (hf:0≤c.fee∧c.fee≤1000000) :
  Calls prog 325 #[.pointer (some ⟨b,0,none⟩),.int .i64 s] w (DR b ao cp zs a t w (.int .i64 0) (Es c s) (Dg c s)):=by
 have HH:Hid (DS b ao cp zs a t c [] v w):=h;have HL:Hid (b<w.heap.size):=h.lt
 have HG:Hid (Calls prog 323 #[.pointer (some ⟨b,0,none⟩),.int .i64 s] w (DR b ao cp zs a t w (.tuple #[]) ⟨c.iss,c.acq,c.cur,c.am,c.st,c.rsn,c.cl,c.bk+s,c.fee,c.cop,c.sta,c.due⟩ (Bg c s))):=by
  have g:=Na h (Nat.zero_le _) s hs hb;rw [Le hs.1] at g;exact g
 have HT:Hid ((Bg c s).length≤100):=by rw [Hid,← Le hs.1];have:=eT c [] c.acq c.iss s;simp only [List.length_nil] at this;omega
 have c0:=h.db.cb.f0;have c1:=h.db.cb.f1;have c6:=h.db.cb.f6
 simp only [Nat.zero_add] at c0 c1 c6
 obtain ⟨y,hy⟩:∃ y,c.cl=y:=⟨_,rfl⟩;have HY:Hid _:=hy;rw [hy] at c6;obtain ⟨lo,hlo⟩:∃ lo,Oo c s=lo:=⟨_,rfl⟩;have HLO:Hid _:=hlo
 have HE:Hid (Dg c s=Bg c s++[(lo,9999,c.cur,50000)]):=by rw [Hid,Dg,hlo]
 obtain ⟨fe,hfe⟩:∃ fe,c.fee=fe:=⟨_,rfl⟩;have HFE:Hid _:=hfe;rw [hfe] at hf;clear h hy hlo hfe hb
 by_cases hc:y≤2*s
 ·have HA:Hid (lo=c.acq):=by rw [Hid,← HLO.o,Oo,HY.o,if_pos hc]
  go_enter func325,ntmps325
  go_wp2_with fail
  refine Calls.mono HG.o ?_;rintro e w1 ⟨rfl,⟨v1,D1⟩,b1⟩;have HD:Hid (DS b ao cp zs a t ⟨c.iss,c.acq,c.cur,c.am,c.st,c.rsn,c.cl,c.bk+s,c.fee,c.cop,c.sta,c.due⟩ (Bg c s) v1 w1):=D1;have HB:Hid (Below b w w1):=b1;clear D1 b1;go_wp2_with fail
  refine (J1 HD.o HT.o _ 9999 50000).mono ?_;rintro e w2 ⟨rfl,⟨v2,D2⟩,b2⟩;have HB2:Hid (Below b w w2):=HB.o.trans b2;have c8:=D2.db.cb.f8;have z8:=D2.db.fz.z8
  simp only [Nat.zero_add] at c8 z8
  rw [HFE.o] at c8;have HD2:Hid _:=D2;clear D2 b2;go_wp2_with fail
  refine (Pn (HD2.o.set8 (fe+50000)) 7 (.inr (.inl rfl))).mono ?_;rintro e w3 ⟨rfl,⟨v3,D3⟩,b3⟩;have HD3:Hid _:=D3;have HB3:Hid (Below b w w3):=(HB2.o.trans (Bn _ _ 8 _)).trans b3;clear D3 b3;go_wp2;go_ret;refine ⟨rfl,⟨v3,?_⟩,HB3.o⟩;rw [HE.o,HA.o,Es,HFE.o];exact HD3.o
 ·have HA:Hid (lo=c.iss):=by rw [Hid,← HLO.o,Oo,HY.o,if_neg hc]
  go_enter func325,ntmps325
  go_wp2_with fail
  refine Calls.mono HG.o ?_;rintro e w1 ⟨rfl,⟨v1,D1⟩,b1⟩;have HD:Hid (DS b ao cp zs a t ⟨c.iss,c.acq,c.cur,c.am,c.st,c.rsn,c.cl,c.bk+s,c.fee,c.cop,c.sta,c.due⟩ (Bg c s) v1 w1):=D1;have HB:Hid (Below b w w1):=b1;clear D1 b1;go_wp2_with fail
  refine (J1 HD.o HT.o _ 9999 50000).mono ?_;rintro e w2 ⟨rfl,⟨v2,D2⟩,b2⟩;have HB2:Hid (Below b w w2):=HB.o.trans b2;have c8:=D2.db.cb.f8;have z8:=D2.db.fz.z8
  simp only [Nat.zero_add] at c8 z8
  rw [HFE.o] at c8;have HD2:Hid _:=D2;clear D2 b2;go_wp2_with fail
  refine (Pn (HD2.o.set8 (fe+50000)) 7 (.inr (.inl rfl))).mono ?_;rintro e w3 ⟨rfl,⟨v3,D3⟩,b3⟩;have HD3:Hid _:=D3;have HB3:Hid (Below b w w3):=(HB2.o.trans (Bn _ _ 8 _)).trans b3;clear D3 b3;go_wp2;go_ret;refine ⟨rfl,⟨v3,?_⟩,HB3.o⟩;rw [HE.o,HA.o,Es,HFE.o];exact HD3.o
theorem mB {b:Nat} {ao:Option Addr} {cp:Nat} {zs:List Int} {a:Ac} {t:Int} {c:Cs} {v:Value} {w:World} (h:DS b ao cp zs a t c [] v w) (hb:0≤c.bk∧c.bk≤1000000000000) (hc:0≤c.cl∧c.cl≤1000000000000) (hf:0≤c.fee∧c.fee≤1000000) :
  Calls prog 295 #[.pointer (some ⟨b,0,none⟩)] w (DR b ao cp zs a t w (.int .i64 (if 0≤a.am∧a.am≤c.cl then 0 else 2)) (if 0≤a.am∧a.am≤c.cl then Es c a.am else c) (if 0≤a.am∧a.am≤c.cl then Dg c a.am else [])):=by
 have HH:Hid (DS b ao cp zs a t c [] v w):=h;have HL:Hid (b<w.heap.size):=h.lt;have c13:=h.db.a1;have c6:=h.db.cb.f6
 simp only [Nat.zero_add] at c6
 have HG:Hid (0≤a.am∧a.am≤c.cl→∀ u,BW w u→Calls prog 325 #[.pointer (some ⟨b,0,none⟩),.int .i64 a.am] u (DR b ao cp zs a t u (.int .i64 0) (Es c a.am) (Dg c a.am))):=fun hx u hu=>O6 (h.below hu) a.am ⟨hx.1,by omega⟩ hb hf
 clear h hb hf
 by_cases hx:0≤a.am∧a.am≤c.cl
 ·rw [if_pos hx,if_pos hx,if_pos hx]
  have HG':Hid (∀ u,BW w u→Calls prog 325 #[.pointer (some ⟨b,0,none⟩),.int .i64 a.am] u (DR b ao cp zs a t u (.int .i64 0) (Es c a.am) (Dg c a.am))):=HG.o hx;obtain ⟨x,hxx⟩:∃ x,a.am=x:=⟨_,rfl⟩;obtain ⟨y,hyy⟩:∃ y,c.cl=y:=⟨_,rfl⟩;obtain ⟨C,hC⟩:∃ C,Es c a.am=C:=⟨_,rfl⟩;obtain ⟨E,hE⟩:∃ E,Dg c a.am=E:=⟨_,rfl⟩;rw [hC,hE] at HG' ⊢;rw [hxx] at c13 hx HG';rw [hyy] at c6 hx;obtain ⟨h1,h2⟩:=hx;clear hxx hyy hC hE HG hc;have b0:BW w w:=bR
  go_enter func295,ntmps295
  go_wp2
  go_quiet (fail)
  all_goals
   go_wp2_with fail
   refine (HG'.o _ (below_drewN b0 _)).mono ?_;rintro e w1 ⟨rfl,D1,b1⟩;have HD1:Hid _:=D1;have HB1:Hid (Below b w w1):=(below_drewN (Below.refl b w) _).trans b1;clear D1 b1;go_wp2;go_ret;exact ⟨rfl,HD1.o,HB1.o⟩
 ·rw [if_neg hx,if_neg hx,if_neg hx]
  obtain ⟨x,hxx⟩:∃ x,a.am=x:=⟨_,rfl⟩;obtain ⟨y,hyy⟩:∃ y,c.cl=y:=⟨_,rfl⟩;rw [hxx] at c13 hx;rw [hyy] at c6 hx;clear hxx hyy HG hc
  by_cases h1:x<0
  ·clear hx
   go_enter func295,ntmps295
   go_wp2
   go_quiet (fail)
   all_goals
    go_wp2;go_ret;exact ⟨rfl,⟨v,HH.o.below (below_drewN bR _)⟩,below_drewN bR _⟩
  ·have h2:y<x:=by omega
   clear hx
   go_enter func295,ntmps295
   go_wp2
   go_quiet (fail)
   all_goals
    go_wp2;go_ret;exact ⟨rfl,⟨v,HH.o.below (below_drewN bR _)⟩,below_drewN bR _⟩
theorem Y0 {b:Nat} {ao:Option Addr} {cp:Nat} {zs:List Int} {a:Ac} {t:Int} {c:Cs} {v:Value} {w:World} (h:DS b ao cp zs a t c [] v w) (hb:0≤c.bk∧c.bk≤1000000000000) (hc:0≤c.cl∧c.cl≤1000000000000) (hf:0≤c.fee∧c.fee≤1000000) :
  Calls prog 296 #[.pointer (some ⟨b,0,none⟩)] w (DR b ao cp zs a t w (.int .i64 (if Bv t c.due=true then 0 else 4)) (if Bv t c.due=true then Cx c else c) (if Bv t c.due=true then Ck c else [])):=by
 have HH:Hid (DS b ao cp zs a t c [] v w):=h;have HL:Hid (b<w.heap.size):=h.lt
 have HQ:Hid (Calls prog 318 #[.pointer (some ⟨b,0,none⟩)] w fun e w'=>e=.returned (.bool (Bv t c.due))∧BW w w'):=Hn h
 clear h
 cases hl:Bv t c.due
 ·rw [hl] at HQ
  clear hl
  rw [if_neg (by decide),if_neg (by decide),if_neg (by decide)]
  go_enter func296,ntmps296
  go_wp2_with fail
  refine Calls.mono HQ.o ?_;rintro e w1 ⟨rfl,b1⟩;have HB:Hid (BW w w1):=b1;clear b1;go_wp2;go_ret;exact ⟨rfl,⟨v,HH.o.below HB.o⟩,HB.o.mono (Nat.le_of_lt HL.o)⟩
 rw [hl] at HQ;clear hl;rw [if_pos rfl,if_pos rfl,if_pos rfl];obtain ⟨s,hs⟩:∃ s,c.st=s:=⟨_,rfl⟩
 by_cases h1:s=1
 ·have HV:Hid (Cx c=J9 c):=by rw [Hid,Cx,hs,if_pos h1]
  have HE:Hid (Ck c=[]):=by rw [Hid,Ck,hs,if_pos h1]
  have HS:Hid _:=hs;subst h1;rw [HV.o,HE.o];clear hs hb hc hf
  go_enter func296,ntmps296
  go_wp2_with fail
  refine Calls.mono HQ.o ?_;rintro e w1 ⟨rfl,b1⟩;have HB:Hid (BW w w1):=b1;have h:=HH.o.below b1;have c4:=h.db.cb.f4
  simp only [Nat.zero_add] at c4
  rw [HS.o] at c4;have HH1:Hid (DS b ao cp zs a t c [] v w1):=h;clear b1 h;go_wp2_with fail
  refine (Lj HH1.o).mono ?_;rintro e w2 ⟨rfl,D2,b2⟩;have HD2:Hid _:=D2;have HB2:Hid (Below b w w2):=(HB.o.mono (Nat.le_of_lt HL.o)).trans b2;clear D2 b2;go_wp2;go_ret;exact ⟨rfl,HD2.o,HB2.o⟩
 have h1':=Ay h1
 by_cases h5:s=5
 ·have HV:Hid (Cx c=I5 c c.cl):=by rw [Hid,Cx,hs,if_neg h1,if_pos h5]
  have HE:Hid (Ck c=Bg c c.cl):=by rw [Hid,Ck,hs,if_neg h1,if_pos h5]
  have HS:Hid _:=hs;subst h5;rw [HV.o,HE.o];clear hs h1 h1'
  go_enter func296,ntmps296
  go_wp2_with fail
  refine Calls.mono HQ.o ?_;rintro e w1 ⟨rfl,b1⟩;have HB:Hid (BW w w1):=b1;have h:=HH.o.below b1;have c4:=h.db.cb.f4
  simp only [Nat.zero_add] at c4
  rw [HS.o] at c4;have HH1:Hid (DS b ao cp zs a t c [] v w1):=h;clear b1 h;go_wp2_with fail
  refine (Rl HH1.o hb hc).mono ?_;rintro e w2 ⟨rfl,D2,b2⟩;have HD2:Hid _:=D2;have HB2:Hid (Below b w w2):=(HB.o.mono (Nat.le_of_lt HL.o)).trans b2;clear D2 b2;go_wp2;go_ret;exact ⟨rfl,HD2.o,HB2.o⟩
 have h5':=Ay h5
 by_cases h6:s=6
 ·have HV:Hid (Cx c=Es c (c.cl / 2)):=by rw [Hid,Cx,hs,if_neg h1,if_neg h5,if_pos h6]
  have HE:Hid (Ck c=Dg c (c.cl / 2)):=by rw [Hid,Ck,hs,if_neg h1,if_neg h5,if_pos h6]
  have HS:Hid _:=hs;subst h6;rw [HV.o,HE.o]
  have HR:Hid (∀ u,DS b ao cp zs a t c [] v u→Calls prog 325 #[.pointer (some ⟨b,0,none⟩),.int .i64 (c.cl / 2)] u (DR b ao cp zs a t u (.int .i64 0) (Es c (c.cl / 2)) (Dg c (c.cl / 2)))):=fun u hu=>O6 hu (c.cl / 2) ⟨by omega,by omega⟩ hb hf
  have HT:Hid (c.cl.tdiv 2=c.cl / 2):=Int.tdiv_eq_ediv_of_nonneg hc.1;clear hs h1 h1' h5 h5' hb hf
  go_enter func296,ntmps296
  go_wp2_with fail
  refine Calls.mono HQ.o ?_;rintro e w1 ⟨rfl,b1⟩;have HB:Hid (BW w w1):=b1;have h:=HH.o.below b1;have c4:=h.db.cb.f4;have c6:=h.db.cb.f6
  simp only [Nat.zero_add] at c4 c6
  rw [HS.o] at c4;have HH1:Hid (DS b ao cp zs a t c [] v w1):=h;clear b1 h;go_wp2_with fail
  try rw [HT.o]
  refine (HR.o _ HH1.o).mono ?_;rintro e w2 ⟨rfl,D2,b2⟩;have HD2:Hid _:=D2;have HB2:Hid (Below b w w2):=(HB.o.mono (Nat.le_of_lt HL.o)).trans b2;clear D2 b2;go_wp2;go_ret;exact ⟨rfl,HD2.o,HB2.o⟩
 have h6':=Ay h6
 ·have HV:Hid (Cx c=I5 c 0):=by rw [Hid,Cx,hs,if_neg h1,if_neg h5,if_neg h6]
  have HE:Hid (Ck c=[]):=by rw [Hid,Ck,hs,if_neg h1,if_neg h5,if_neg h6]
  have HZ:Hid (c.bk+0=c.bk):=Int.add_zero _;have HS:Hid _:=hs;rw [HV.o,HE.o,I5,HZ.o];clear hs h1 h5 h6 hb hc hf
  go_enter func296,ntmps296
  go_wp2_with fail
  refine Calls.mono HQ.o ?_;rintro e w1 ⟨rfl,b1⟩;have HB:Hid (BW w w1):=b1;have h:=HH.o.below b1;have c4:=h.db.cb.f4
  simp only [Nat.zero_add] at c4
  rw [HS.o] at c4;have HH1:Hid (DS b ao cp zs a t c [] v w1):=h;clear b1 h;go_wp2_with fail
  refine (Pn HH1.o 8 (.inr (.inr rfl))).mono ?_;rintro e w2 ⟨rfl,D2,b2⟩;have HD2:Hid _:=D2;have HB2:Hid (Below b w w2):=(HB.o.mono (Nat.le_of_lt HL.o)).trans b2;clear D2 b2;go_wp2;go_ret;exact ⟨rfl,HD2.o,HB2.o⟩
theorem aE {b:Nat} {ao:Option Addr} {cp:Nat} {zs:List Int} {a:Ac} {t:Int} {c:Cs} {v:Value} {w:World} (h:DS b ao cp zs a t c [] v w) (hn:zs.length≤1099511627776) (hb:0≤c.bk∧c.bk≤1000000000000) (hc:0≤c.cl∧c.cl≤1000000000000) :
  Calls prog 291 #[.pointer (some ⟨b,0,none⟩)] w (DR b ao cp zs a t w (.int .i64 (Dd c a t)) (if Dd c a t=0 then ⟨c.iss,c.acq,c.cur,c.am,4,c.rsn,a.am,c.bk - a.am,c.fee,c.cop,c.sta,C6 t 30 zs⟩ else c) (if Dd c a t=0 then Dw c a.am else [])):=by
 have HH:Hid (DS b ao cp zs a t c [] v w):=h;have HL:Hid (b<w.heap.size):=h.lt
 have HQ:Hid (Calls prog 322 #[.pointer (some ⟨b,0,none⟩)] w fun e w'=>e=.returned (.int .i64 (Dd c a t))∧BW w w'):=S2 h
 have HP:Hid (Dd c a t=0→1≤a.am∧a.am≤c.cl):=Sj;clear h;obtain ⟨r,hr⟩:∃ r,Dd c a t=r:=⟨_,rfl⟩;rw [hr] at HQ HP ⊢;clear hr
 by_cases h0:r=0
 ·subst h0
  rw [if_pos rfl,if_pos rfl];have hx:=HP.o rfl
  go_enter func291,ntmps291
  go_wp2_with fail
  refine Calls.mono HQ.o ?_;rintro e w1 ⟨rfl,b1⟩;have h:=HH.o.below b1;have c13:=h.db.a1;have c4:=h.db.cb.f4;have c6:=h.db.cb.f6;have z4:=h.db.fz.z4;have z6:=h.db.fz.z6
  simp only [Nat.zero_add] at c4 c6 z4 z6
  obtain ⟨V,hV⟩:∃ V,V=(w1.setCell ⟨b,4,none⟩ (.int .i64 4)).setCell ⟨b,6,none⟩ (.int .i64 a.am):=⟨_,rfl⟩
  have HV:Hid (DS b ao cp zs a t ⟨c.iss,c.acq,c.cur,c.am,4,c.rsn,a.am,c.bk,c.fee,c.cop,c.sta,c.due⟩ [] v V):=by rw [Hid,hV];exact (h.set4 4).set6 a.am
  have HBV:Hid (Below b w V):=by rw [Hid,hV];exact ((b1.mono (Nat.le_of_lt HL.o)).trans (Bn _ _ 4 _)).trans (Bn _ _ 6 _)
  have HLV:Hid (b<V.heap.size):=HV.o.lt;have HVV:Hid _:=hV;clear b1 h hV;go_upto_region 5 with fail
  rw [← HVV.o];clear HVV c13 c4 c6 z4 z6
  have HM:Hid (∀ u,BW V u→Calls prog 321 #[.pointer (some ⟨b,0,none⟩),.int .i64 c.iss,.int .i64 c.acq,.int .i64 a.am] u (DR b ao cp zs a t u (.tuple #[]) ⟨c.iss,c.acq,c.cur,c.am,4,c.rsn,a.am,c.bk,c.fee,c.cop,c.sta,c.due⟩ (Dw c a.am))):=fun u hu=>by
   have g:=J1 (HV.o.below hu) (Nat.zero_le _) c.iss c.acq a.am
   have e:H0 ⟨c.iss,c.acq,c.cur,c.am,4,c.rsn,a.am,c.bk,c.fee,c.cop,c.sta,c.due⟩ [] c.iss c.acq a.am=Dw c a.am:=aO (c:=c) (by omega)
   rw [e] at g;exact g
  have h:=HV.o;have c13:=h.db.a1;have c0:=h.db.cb.f0;have c1:=h.db.cb.f1
  simp only [Nat.zero_add] at c0 c1
  obtain ⟨E,hE⟩:∃ E,Dw c a.am=E:=⟨_,rfl⟩;rw [hE] at HM;have HEE:Hid _:=hE;clear h hE;have b0:BW V V:=bR
  go_cut [2] (fun v2 wc=>v2=.int .i64 0∧(∃ vv,DS b ao cp zs a t ⟨c.iss,c.acq,c.cur,c.am,4,c.rsn,a.am,c.bk,c.fee,c.cop,c.sta,c.due⟩ E vv wc)∧Below b w wc)
  case first =>
   go_region_with (go_at_call 321;(first | with_reducible refine (HM.o _ b0).mono ?_ | with_reducible refine (HM.o _ b0.drew).mono ?_);rintro e w2 ⟨rfl,D2,b2⟩;(first | (have HB:Hid (Below b w w2):=HBV.o.trans b2) | (have HB:Hid (Below b w w2):=(HBV.o.drew).trans b2));have HD:Hid _:=D2;clear D2 b2)
   all_goals
    go_wp2_with fail
    go_meet;exact ⟨rfl,HD.o,HB.o⟩
  case rest =>
   obtain ⟨rfl,⟨v2,D2⟩,b2⟩:=hcut;have c7:=D2.db.cb.f7;have y7:=D2.db.fz.z7;have y13:=D2.db.a1
   simp only [Nat.zero_add] at c7 y7
   have HD2:Hid (DS b ao cp zs a t ⟨c.iss,c.acq,c.cur,c.am,4,c.rsn,a.am,c.bk,c.fee,c.cop,c.sta,c.due⟩ E v2 wc):=D2;have HB2:Hid (Below b w wc):=b2;obtain ⟨x,hxx⟩:∃ x,a.am=x:=⟨_,rfl⟩;obtain ⟨z,hz⟩:∃ z,c.bk=z:=⟨_,rfl⟩
   have HZ:Hid (z - x=c.bk - a.am):=by rw [Hid,hz,hxx]
   obtain ⟨y,hy⟩:∃ y,c.cl=y:=⟨_,rfl⟩;rw [hz] at c7 hb;rw [hxx] at y13 hx;rw [hy] at hx hc;clear D2 b2 c13 c0 c1 hxx hz hy b0 HM HP;obtain ⟨W2,hW2⟩:∃ x,x=wc:=⟨_,rfl⟩;subst hW2;go_upto_region 6 with fail
   go_cut [2] (fun v2 wc=>v2=.int .i64 0∧(∃ vv,DS b ao cp zs a t ⟨c.iss,c.acq,c.cur,c.am,4,c.rsn,a.am,c.bk - a.am,c.fee,c.cop,c.sta,c.due⟩ E vv wc)∧Below b w wc)
   case first =>
    go_region
    all_goals
     go_wp2_with fail
     go_meet;refine ⟨rfl,⟨v2,?_⟩,?_⟩
     ·rw [← HZ.o]
      first
       | exact HD2.o.set7 (z - x)
       | exact (HD2.o.below (bR.drew)).set7 (z - x)
       | exact (HD2.o.set7 (z - x)).below (bR.drew)
     ·first
        | exact HB2.o.trans (Bn _ _ 7 _)
        | exact (HB2.o.drew).trans (Bn _ _ 7 _)
        | exact (HB2.o.trans (Bn _ _ 7 _)).drew
   case rest =>
    obtain ⟨rfl,⟨v3,D3⟩,b3⟩:=hcut;have HD3:Hid (DS b ao cp zs a t ⟨c.iss,c.acq,c.cur,c.am,4,c.rsn,a.am,c.bk - a.am,c.fee,c.cop,c.sta,c.due⟩ E v3 wc):=D3;have HB3:Hid (Below b w wc):=b3;clear D3 b3 c7 y7 y13;go_wp2_with fail
    refine (Is HD3.o hn 1 30 rfl).mono ?_;rintro e w4 ⟨rfl,D4,b4⟩;have HD4:Hid _:=D4;have HB4:Hid (Below b w w4):=HB3.o.trans b4;clear D4 b4;go_wp2;go_ret
    exact ⟨rfl,by rw [HEE.o];exact HD4.o,HB4.o⟩
 ·rw [if_neg h0,if_neg h0]
  have h0':(r != 0)=true:=by simpa using h0
  clear h0
  go_enter func291,ntmps291
  go_wp2_with fail
  refine Calls.mono HQ.o ?_;rintro e w1 ⟨rfl,b1⟩;have HB:Hid (BW w w1):=b1;clear b1;go_wp2;go_ret;exact ⟨rfl,⟨v,HH.o.below HB.o⟩,HB.o.mono (Nat.le_of_lt HL.o)⟩
theorem Ub {b:Nat} {ao:Option Addr} {cp:Nat} {zs:List Int} {a:Ac} {t:Int} {c:Cs} {v:Value} {w:World} (h:DS b ao cp zs a t c [] v w) :
  Calls prog 333 #[.pointer (some ⟨b,0,none⟩)] w fun e w'=>e=.returned (.bool (E4 c t))∧BW w w':=by
 have c9:=h.db.cb.f9;have c4:=h.db.cb.f4
 simp only [Nat.zero_add] at c9 c4
 have HQ:Hid (Calls prog 318 #[.pointer (some ⟨b,0,none⟩)] w fun e w'=>e=.returned (.bool (Bv t c.due))∧BW w w'):=Hn h
 obtain ⟨p,hp⟩:∃ p,c.cop=p:=⟨_,rfl⟩;obtain ⟨s,hs⟩:∃ s,c.st=s:=⟨_,rfl⟩;obtain ⟨l,hl⟩:∃ l,Bv t c.due=l:=⟨_,rfl⟩
 have HV:Hid (E4 c t=(p || (decide (s=1) && l))):=by rw [Hid,E4,hp,hs,hl]
 rw [hp] at c9;rw [hs] at c4;rw [hl] at HQ;clear h hp hs hl
 cases p
 ·by_cases h1:s=1
  ·have HE:Hid (E4 c t=l):=by rw [Hid,HV.o,decide_eq_true h1,Bool.false_or,Bool.true_and]
   have h1':(s == 1)=true:=by simpa using h1
   clear h1
   go_enter func333,ntmps333
   go_wp2_with fail
   refine Calls.mono HQ.o ?_;rintro e w1 ⟨rfl,b1⟩;go_wp2;go_ret;exact ⟨Aa HE.o.symm,b1⟩
  ·have HE:Hid (E4 c t=false):=by rw [Hid,HV.o,decide_eq_false h1,Bool.false_or,Bool.false_and]
   have h1':=Ay h1;clear h1
   go_enter func333,ntmps333
   go_wp2;go_ret;exact ⟨Aa HE.o.symm,bR⟩
 ·have HE:Hid (E4 c t=true):=by rw [Hid,HV.o,Bool.true_or]
  go_enter func333,ntmps333
  go_wp2;go_ret;exact ⟨Aa HE.o.symm,bR⟩
theorem Rw {b:Nat} {ao:Option Addr} {cp:Nat} {zs:List Int} {a:Ac} {t:Int} {c:Cs} {v:Value} {w:World} (h:DS b ao cp zs a t c [] v w) (hn:zs.length≤1099511627776) :
  Calls prog 320 #[.pointer (some ⟨b,0,none⟩)] w fun e w'=>e=.returned (.int .i64 (Bs c a t zs))∧BW w w':=by
 have c13:=h.db.a1;have c14:=h.db.a2;have HH:Hid (DS b ao cp zs a t c [] v w):=h
 obtain ⟨p,hp⟩:∃ p,(!Oy a.rsn || (E8 a.rsn && !E4 c t))=p:=⟨_,rfl⟩
 obtain ⟨q,hq⟩:∃ q,(decide (a.am<1) || (decide (c.am<a.am) || (decide (a.am<c.am) && !Gb a.rsn)))=q:=⟨_,rfl⟩
 obtain ⟨l,hl⟩:∃ l,Bv t (C6 c.sta (Fs a.rsn) zs)=l:=⟨_,rfl⟩;have HV:Hid _:=Qy hp hq hl;have HPP:Hid _:=hp;have HQQ:Hid _:=hq;have HLL:Hid _:=hl
 have HCO:Hid (∀ u,BW w u→Calls prog 333 #[.pointer (some ⟨b,0,none⟩)] u fun e w'=>e=.returned (.bool (E4 c t))∧BW u w'):=fun u hu=>Ub (h.below hu)
 have HDU:Hid (∀ u,BW w u→Calls prog 330 #[.int .i64 c.sta,.int .i64 (Fs a.rsn),.slice ao zs.length cp] u fun e w'=>e=.returned (.int .i64 (C6 c.sta (Fs a.rsn) zs))∧BW u w'):=fun u hu=>Wi c.sta (Fs a.rsn) ao cp zs u (h.below hu).offs hn
 clear h hp hq hl
 go_enter func320,ntmps320
 go_upto_region 1 with fail
 go_cut [3,4] (fun v3 v4 wc=>v3=.int .i64 a.am∧v4=.int .i64 a.rsn∧BW w wc)
 case first =>
  go_wp2
  go_quiet (fail)
  all_goals
   go_wp2_with fail
   go_meet;exact ⟨rfl,rfl,below_drewN bR _⟩
 case rest =>
  obtain ⟨rfl,rfl,b0⟩:=hcut;obtain ⟨u0,hu0⟩:∃ x,x=wc:=⟨_,rfl⟩;subst hu0;clear c13 c14;have HB0:Hid (BW w u0):=b0;clear b0;go_upto_region 2 with fail
  go_cut [15] (fun v wc=>v=.bool p∧BW w wc)
  case first =>
   go_wp2_with fail
   refine (Rg a.rsn _).mono ?_;rintro e u1 ⟨rfl,b1⟩;have HB1:Hid (BW w u1):=next HB0.o b1;clear b1
   cases h1:Oy a.rsn
   ·have HE:Hid (p=true):=by rw [Hid,← HPP.o,h1];rfl
    clear h1;go_wp2;go_meet
    exact ⟨by rw [HE.o],HB1.o⟩
   go_wp2_with fail
   refine (Xc a.rsn _).mono ?_;rintro e u2 ⟨rfl,b2⟩;have HB2:Hid (BW w u2):=next HB1.o b2;clear b2
   cases h2:E8 a.rsn
   ·have HE:Hid (p=false):=by rw [Hid,← HPP.o,h1,h2];rfl
    clear h1 h2;go_wp2;go_meet
    exact ⟨by rw [HE.o],HB2.o⟩
   go_wp2_with fail
   refine (HCO.o _ HB2.o).mono ?_;rintro e u3 ⟨rfl,b3⟩;have HB3:Hid (BW w u3):=next HB2.o b3;clear b3
   have HE:Hid (p = !E4 c t):=by rw [Hid,← HPP.o,h1,h2];rfl
   clear h1 h2;go_wp2;go_meet
   exact ⟨by rw [HE.o],HB3.o⟩
  case rest =>
   obtain ⟨rfl,b4⟩:=hcut;obtain ⟨u4,hu4⟩:∃ x,x=wc:=⟨_,rfl⟩;subst hu4;have HB4:Hid (BW w u4):=b4;clear b4 HB0
   cases p
   rotate_left
   ·have HE:Hid (Bs c a t zs=3):=by rw [Hid,HV.o,if_pos rfl]
    go_wp2;go_ret;exact ⟨Af HE.o.symm,HB4.o⟩
   have HV1:Hid (Bs c a t zs=if q=true then 2 else if l=true then 4 else 0):=by rw [Hid,HV.o,if_neg (by decide)]
   have h4:=HH.o.below HB4.o;have c3:=h4.db.cb.f3
   simp only [Nat.zero_add] at c3
   clear HV h4;go_upto_region 4 with fail
   go_cut [28] (fun v wc=>v=.bool q∧BW w wc)
   case first =>
    have HQ2:Hid ((decide (a.am<1) || (decide (c.am<a.am) || (decide (a.am<c.am) && !Gb a.rsn)))=q):=HQQ.o
    by_cases h1:a.am<1
    ·have HE:Hid (q=true):=by rw [Hid,← HQ2.o,decide_eq_true h1];rfl
     go_wp2;go_meet
     exact ⟨by rw [HE.o],HB4.o⟩
    by_cases h2:c.am<a.am
    ·have HE:Hid (q=true):=by rw [Hid,← HQ2.o,decide_eq_true h2];simp
     go_wp2;go_meet
     exact ⟨by rw [HE.o],HB4.o⟩
    by_cases h3:a.am<c.am
    ·have HE:Hid (q = !Gb a.rsn):=by rw [Hid,← HQ2.o,decide_eq_false h1,decide_eq_false h2,decide_eq_true h3];rfl
     go_wp2_with fail
     refine (X0 a.rsn _).mono ?_;rintro e u5 ⟨rfl,b5⟩;have HB5:Hid (BW w u5):=next HB4.o b5;clear b5;go_wp2;go_meet
     exact ⟨by rw [HE.o],HB5.o⟩
    ·have HE:Hid (q=false):=by rw [Hid,← HQ2.o,decide_eq_false h1,decide_eq_false h2,decide_eq_false h3];rfl
     go_wp2;go_meet
     exact ⟨by rw [HE.o],HB4.o⟩
   case rest =>
    obtain ⟨rfl,b5⟩:=hcut;obtain ⟨u5,hu5⟩:∃ x,x=wc:=⟨_,rfl⟩;subst hu5;have HB5:Hid (BW w u5):=b5;clear b5 c3 HB4
    cases q
    rotate_left
    ·have HE:Hid (Bs c a t zs=2):=by rw [Hid,HV1.o,if_pos rfl]
     go_wp2;go_ret;exact ⟨Af HE.o.symm,HB5.o⟩
    have HV2:Hid (Bs c a t zs=if l=true then 4 else 0):=by rw [Hid,HV1.o,if_neg (by decide)]
    clear HV1
    have HAT:Hid (∀ u,BW w u→u.cell? ⟨b,15,none⟩=some (.int .i64 t)∧u.cell? ⟨b,10,none⟩=some (.int .i64 c.sta)∧u.cell? ⟨b,16,none⟩=some (.slice ao zs.length cp)):=fun u hu=>by
     have g:=HH.o.below hu;have g10:=g.db.cb.f10
     simp only [Nat.zero_add] at g10
     exact ⟨g.db.td,g10,g.db.ho⟩
    obtain ⟨k15,k10,k16⟩:=HAT.o u5 HB5.o;obtain ⟨n,hn'⟩:∃ n,Fs a.rsn=n:=⟨_,rfl⟩
    have HRD:Hid (∀ u,Calls prog 335 #[.int .i64 a.rsn] u fun e w'=>e=.returned (.int .i64 n)∧BW u w'):=fun u=>by rw [← hn'];exact X7 a.rsn u
    rw [hn'] at HDU HLL;obtain ⟨dd,hdd⟩:∃ dd,C6 c.sta n zs=dd:=⟨_,rfl⟩;rw [hdd] at HDU HLL
    have HLT:Hid (∀ u,Calls prog 91 #[.int .i64 t,.int .i64 dd] u fun e w'=>e=.returned (.bool l)∧w'=u):=fun u=>by rw [← HLL.o];exact N2 t dd u
    clear hn' hdd;have d5:BW w u5.drew:=HB5.o.drew;go_upto_region 6 with fail
    go_cut [54] (fun v wc=>v=.bool l∧BW w wc)
    case first =>
     go_region_held3 (fun u=>u.cell? ⟨b,15,none⟩=some (.int .i64 t)∧u.cell? ⟨b,10,none⟩=some (.int .i64 c.sta)∧u.cell? ⟨b,16,none⟩=some (.slice ao zs.length cp)) (first | exact ⟨k15,k10,k16⟩ | exact HAT.o _ HB5.o | exact HAT.o _ d5 | exact HAT.o _ HB6.o | exact HAT.o _ HB7.o) ((first
      | (go_at_call 335;refine (HRD.o _).mono ?_;rintro e u6 ⟨rfl,b6⟩;(first | (have HB6:Hid (BW w u6):=next d5 b6) | (have HB6:Hid (BW w u6):=next HB5.o b6));clear b6)
      | (go_at_call 330;refine (HDU.o _ HB6.o).mono ?_;rintro e u7 ⟨rfl,b7⟩;(have HB7:Hid (BW w u7):=next HB6.o b7);clear b7)
      | (go_at_call 91;refine (HLT.o _).mono ?_;rintro e u8 ⟨rfl,hu8⟩;rw [hu8];clear hu8)))
     all_goals
      go_wp2_with fail
      go_meet;exact ⟨rfl,HB7.o⟩
    case rest =>
     obtain ⟨rfl,b8⟩:=hcut;clear k15 k10 k16
     cases l
     ·have HE:Hid (Bs c a t zs=0):=by rw [Hid,HV2.o,if_neg (by decide)]
      go_wp2;go_ret;exact ⟨Af HE.o.symm,b8⟩
     ·have HE:Hid (Bs c a t zs=4):=by rw [Hid,HV2.o,if_pos rfl]
      go_wp2;go_ret;exact ⟨Af HE.o.symm,b8⟩
end Go.Proofs.YtomiclakhjncbaaGreatDoor
