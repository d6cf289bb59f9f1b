import Derived.Test.YtomiclakhjncbaaGreatDoorKCSDo2
import Derived.Test.YtomiclakhjncbaaGreatDoorKCFDis5
import Derived.Test.YtomiclakhjncbaaGreatDoorJC2b
import Derived.Test.YtomiclakhjncbaaGreatDoorKCDrawAt
set_option maxRecDepth 100000
set_option maxHeartbeats 12800000
namespace Go.Proofs.YtomiclakhjncbaaGreatDoor
open Go.RowKit Go.Proofs.Tryz
theorem J4 (c:Cs) (w:World) (hb:0≤c.bk∧c.bk≤1000000000000) (hc:0≤c.cl∧c.cl≤1000000000000) (hf:0≤c.fee∧c.fee≤1000000):Calls prog 227 #[cv c] w (Gr w (Cx c) (Ck c)):=by
 have HG:Hid (∀ u,Calls prog 225 #[cv c,.int .i64 c.cl] u (Gr u (I5 c c.cl) (Bg c c.cl))):=fun u=>M8 c c.cl u hb hc
 have HG0:Hid (∀ u,Calls prog 225 #[cv c,.int .i64 0] u (Gr u (I5 c 0) (Bg c 0))):=fun u=>M8 c 0 u hb (by omega)
 have HR:Hid (∀ u,Calls prog 226 #[cv c,.int .i64 (c.cl / 2)] u (Gr u (Es c (c.cl / 2)) (Dg c (c.cl / 2)))):=fun u=>Tr c (c.cl / 2) u hb (by omega) hf
 have HT:Hid (c.cl.tdiv 2=c.cl / 2):=Int.tdiv_eq_ediv_of_nonneg hc.1;obtain ⟨W,hW⟩:∃ W,W=(w.alloc (.cells #[.int .i64 c.iss,.int .i64 c.acq,.int .i64 c.cur,.int .i64 c.am,.int .i64 c.st,.int .i64 c.rsn,.int .i64 c.cl,.int .i64 c.bk,.int .i64 c.fee,.bool c.cop,.int .i64 c.sta,.int .i64 c.due] 61)).alloc (.cells #[.int .i64 0,.int .i64 0,.int .i64 0,.int .i64 0,.int .i64 0,.int .i64 0,.int .i64 0,.int .i64 0,.int .i64 0,.bool false,.int .i64 0,.int .i64 0] 61):=⟨_,rfl⟩
 have b1:Below (w.alloc (.cells #[.int .i64 c.iss,.int .i64 c.acq,.int .i64 c.cur,.int .i64 c.am,.int .i64 c.st,.int .i64 c.rsn,.int .i64 c.cl,.int .i64 c.bk,.int .i64 c.fee,.bool c.cop,.int .i64 c.sta,.int .i64 c.due] 61)).heap.size (w.alloc (.cells #[.int .i64 c.iss,.int .i64 c.acq,.int .i64 c.cur,.int .i64 c.am,.int .i64 c.st,.int .i64 c.rsn,.int .i64 c.cl,.int .i64 c.bk,.int .i64 c.fee,.bool c.cop,.int .i64 c.sta,.int .i64 c.due] 61)) W:=by rw [hW];exact bR.alloc nL _
 have e1:(w.alloc (.cells #[.int .i64 c.iss,.int .i64 c.acq,.int .i64 c.cur,.int .i64 c.am,.int .i64 c.st,.int .i64 c.rsn,.int .i64 c.cl,.int .i64 c.bk,.int .i64 c.fee,.bool c.cop,.int .i64 c.sta,.int .i64 c.due] 61)).heap.size=w.heap.size+1:=by simp
 have HC1:Hid (CB w.heap.size 0 c W):=(CB.new w c _).below b1
 have HC2:Hid (CB (w.heap.size+1) 0 Br W):=by
  have h:=CB.new (w.alloc (.cells #[.int .i64 c.iss,.int .i64 c.acq,.int .i64 c.cur,.int .i64 c.am,.int .i64 c.st,.int .i64 c.rsn,.int .i64 c.cl,.int .i64 c.bk,.int .i64 c.fee,.bool c.cop,.int .i64 c.sta,.int .i64 c.due] 61)) Br 61;rw [e1] at h
  rw [Hid,hW];exact h
 have HF2:Hid (FZ (w.heap.size+1) 0 W):=by
  have h:=FZ.new (w.alloc (.cells #[.int .i64 c.iss,.int .i64 c.acq,.int .i64 c.cur,.int .i64 c.am,.int .i64 c.st,.int .i64 c.rsn,.int .i64 c.cl,.int .i64 c.bk,.int .i64 c.fee,.bool c.cop,.int .i64 c.sta,.int .i64 c.due] 61)) #[.int .i64 0,.int .i64 0,.int .i64 0,.int .i64 0,.int .i64 0,.int .i64 0,.int .i64 0,.int .i64 0,.int .i64 0,.bool false,.int .i64 0,.int .i64 0] 61;rw [e1] at h
  rw [Hid,hW];exact h
 have HBW:Hid (BW w W):=by rw [Hid,hW];go_grown
 have HW:Hid _:=hW
 have HS:Hid (W.heap.size=w.heap.size+1+1):=by rw [Hid,hW];simp
 clear b1 e1 hW hb hf;obtain ⟨ex,hex⟩:∃ x,Cx c=x:=⟨_,rfl⟩;obtain ⟨ee,hee⟩:∃ x,Ck c=x:=⟨_,rfl⟩;have HX0:Hid _:=hex;have HE0:Hid _:=hee;rw [hex,hee];clear hex hee;obtain ⟨iY,aZ,cQ,am,st,rW,cl,bk,fW,cW,sS,dX⟩:=c;unfold Gr cv at HG HG0 HR;unfold cv;unfold I5 at HG HG0;unfold Es at HR
 simp only at HG HG0 HR HT HW hc ⊢
 by_cases h1:st=1
 ·have HX:Hid (ex=J9 ⟨iY,aZ,cQ,am,st,rW,cl,bk,fW,cW,sS,dX⟩):=by rw [Hid,← HX0.o];simp [Cx,h1]
  have HE:Hid (ee=[]):=by rw [Hid,← HE0.o];simp [Ck,h1]
  subst h1;clear HG HG0 HR HT HX0 HE0 HC1 HC2 HF2 HBW HS HW W
  go_enter func227,ntmps227
  go_wp2
  go_returns
  rw [HX.o,HE.o]
  exact ⟨_,_,rfl,Lf _ _ _ (by simp) (by simp <;> omega),by go_grown⟩
 have h1':=Ay h1
 by_cases h5:st=5
 ·have HX:Hid (ex=I5 ⟨iY,aZ,cQ,am,st,rW,cl,bk,fW,cW,sS,dX⟩ cl):=by rw [Hid,← HX0.o];simp [Cx,h5]
  have HE:Hid (ee=Bg ⟨iY,aZ,cQ,am,st,rW,cl,bk,fW,cW,sS,dX⟩ cl):=by rw [Hid,← HE0.o];simp [Ck,h5]
  subst h5;clear HG0 HR HT HX0 HE0 h1
  go_enter func227,ntmps227
  go_upto_region 1 with fail
  rw [← HW.o];clear HW;obtain ⟨f0,f1,f2,f3,f4,f5,f6,f7,f8,f9,f10,f11⟩:=HC1.o
  simp only [Nat.zero_add] at f0 f1 f2 f3 f4 f5 f6 f7 f8 f9 f10 f11
  go_wp2_with fail
  refine (HG.o _).mono ?_;rintro e u ⟨ae,ke,rfl,oe,b⟩;have HO:Hid (u.ownsRow W.heap.size 269 4 (.slice ae (Bg ⟨iY,aZ,cQ,am,5,rW,cl,bk,fW,cW,sS,dX⟩ cl).length ke) (Bg ⟨iY,aZ,cQ,am,5,rW,cl,bk,fW,cW,sS,dX⟩ cl).length (Ba (Bg ⟨iY,aZ,cQ,am,5,rW,cl,bk,fW,cW,sS,dX⟩ cl))):=oe;have HB:Hid (BW w u):=next HBW.o b;have HU2:Hid (CB (w.heap.size+1) 0 Br u):=HC2.o.below b;have HV2:Hid (FZ (w.heap.size+1) 0 u):=HF2.o.below HC2.o.lt b;clear b oe f0 f1 f2 f3 f4 f5 f6 f7 f8 f9 f10 f11;obtain ⟨g0,g1,g2,g3,g4,g5,g6,g7,g8,g9,g10,g11⟩:=HU2.o;obtain ⟨z0,z1,z2,z3,z4,z5,z6,z7,z8,z9,z10,z11⟩:=HV2.o
  simp only [Nat.zero_add,Br] at g0 g1 g2 g3 g4 g5 g6 g7 g8 g9 g10 g11 z0 z1 z2 z3 z4 z5 z6 z7 z8 z9 z10 z11
  obtain ⟨N,hN⟩:∃ N,(Bg ⟨iY,aZ,cQ,am,5,rW,cl,bk,fW,cW,sS,dX⟩ cl).length=N:=⟨_,rfl⟩;have HNN:Hid _:=hN;rw [hN];clear hN;go_wp2
  refine bodyPost_ret (by simp [results,results227,go_sem,g0,g1,g2,g3,g4,g5,g6,g7,g8,g9,g10,g11];try rfl) rfl ?_
  rw [HX.o,HE.o,← HNN.o]
  exact Iq (c:=I5 ⟨iY,aZ,cQ,am,5,rW,cl,bk,fW,cW,sS,dX⟩ cl) (h:=w.heap.size+1) (base:=W.heap.size) (by omega) (by have:=HS.o;omega) HO.o HB.o
 have h5':=Ay h5
 by_cases h6:st=6
 ·have HX:Hid (ex=Es ⟨iY,aZ,cQ,am,st,rW,cl,bk,fW,cW,sS,dX⟩ (cl / 2)):=by rw [Hid,← HX0.o];simp [Cx,h6]
  have HE:Hid (ee=Dg ⟨iY,aZ,cQ,am,st,rW,cl,bk,fW,cW,sS,dX⟩ (cl / 2)):=by rw [Hid,← HE0.o];simp [Ck,h6]
  subst h6;clear HG HG0 HX0 HE0 h1 h5
  go_enter func227,ntmps227
  go_upto_region 1 with fail
  rw [← HW.o];clear HW;obtain ⟨f0,f1,f2,f3,f4,f5,f6,f7,f8,f9,f10,f11⟩:=HC1.o
  simp only [Nat.zero_add] at f0 f1 f2 f3 f4 f5 f6 f7 f8 f9 f10 f11
  go_wp2_with fail
  try rw [HT.o]
  refine (HR.o _).mono ?_;rintro e u ⟨ae,ke,rfl,oe,b⟩;have HO:Hid (u.ownsRow W.heap.size 269 4 (.slice ae (Dg ⟨iY,aZ,cQ,am,6,rW,cl,bk,fW,cW,sS,dX⟩ (cl / 2)).length ke) (Dg ⟨iY,aZ,cQ,am,6,rW,cl,bk,fW,cW,sS,dX⟩ (cl / 2)).length (Ba (Dg ⟨iY,aZ,cQ,am,6,rW,cl,bk,fW,cW,sS,dX⟩ (cl / 2)))):=oe;have HB:Hid (BW w u):=next HBW.o b;have HU2:Hid (CB (w.heap.size+1) 0 Br u):=HC2.o.below b;have HV2:Hid (FZ (w.heap.size+1) 0 u):=HF2.o.below HC2.o.lt b;clear b oe f0 f1 f2 f3 f4 f5 f6 f7 f8 f9 f10 f11;obtain ⟨g0,g1,g2,g3,g4,g5,g6,g7,g8,g9,g10,g11⟩:=HU2.o;obtain ⟨z0,z1,z2,z3,z4,z5,z6,z7,z8,z9,z10,z11⟩:=HV2.o
  simp only [Nat.zero_add,Br] at g0 g1 g2 g3 g4 g5 g6 g7 g8 g9 g10 g11 z0 z1 z2 z3 z4 z5 z6 z7 z8 z9 z10 z11
  obtain ⟨N,hN⟩:∃ N,(Dg ⟨iY,aZ,cQ,am,6,rW,cl,bk,fW,cW,sS,dX⟩ (cl / 2)).length=N:=⟨_,rfl⟩;have HNN:Hid _:=hN;rw [hN];clear hN;go_wp2
  refine bodyPost_ret (by simp [results,results227,go_sem,g0,g1,g2,g3,g4,g5,g6,g7,g8,g9,g10,g11];try rfl) rfl ?_
  rw [HX.o,HE.o,← HNN.o]
  exact Iq (c:=Es ⟨iY,aZ,cQ,am,6,rW,cl,bk,fW,cW,sS,dX⟩ (cl / 2)) (h:=w.heap.size+1) (base:=W.heap.size) (by omega) (by have:=HS.o;omega) HO.o HB.o
 have h6':=Ay h6
 ·have HX:Hid (ex=⟨iY,aZ,cQ,am,7,rW,0,bk,fW,cW,sS,-1⟩):=by rw [Hid,← HX0.o];simp [Cx,h1,h5,h6,I5]
  rw [Int.add_zero] at HG0
  have HE:Hid (ee=Bg ⟨iY,aZ,cQ,am,st,rW,cl,bk,fW,cW,sS,dX⟩ 0):=by rw [Hid,← HE0.o];simp [Ck,h1,h5,h6,Bg]
  clear HG HR HT HX0 HE0 h1 h5 h6
  go_enter func227,ntmps227
  go_upto_region 1 with fail
  rw [← HW.o];clear HW;obtain ⟨f0,f1,f2,f3,f4,f5,f6,f7,f8,f9,f10,f11⟩:=HC1.o
  simp only [Nat.zero_add] at f0 f1 f2 f3 f4 f5 f6 f7 f8 f9 f10 f11
  go_wp2_with fail
  refine (HG0.o _).mono ?_;rintro e u ⟨ae,ke,rfl,oe,b⟩;have HO:Hid (u.ownsRow W.heap.size 269 4 (.slice ae (Bg ⟨iY,aZ,cQ,am,st,rW,cl,bk,fW,cW,sS,dX⟩ 0).length ke) (Bg ⟨iY,aZ,cQ,am,st,rW,cl,bk,fW,cW,sS,dX⟩ 0).length (Ba (Bg ⟨iY,aZ,cQ,am,st,rW,cl,bk,fW,cW,sS,dX⟩ 0))):=oe;have HB:Hid (BW w u):=next HBW.o b;have HU2:Hid (CB (w.heap.size+1) 0 Br u):=HC2.o.below b;have HV2:Hid (FZ (w.heap.size+1) 0 u):=HF2.o.below HC2.o.lt b;clear b oe f0 f1 f2 f3 f4 f5 f6 f7 f8 f9 f10 f11;obtain ⟨g0,g1,g2,g3,g4,g5,g6,g7,g8,g9,g10,g11⟩:=HU2.o;obtain ⟨z0,z1,z2,z3,z4,z5,z6,z7,z8,z9,z10,z11⟩:=HV2.o
  simp only [Nat.zero_add,Br] at g0 g1 g2 g3 g4 g5 g6 g7 g8 g9 g10 g11 z0 z1 z2 z3 z4 z5 z6 z7 z8 z9 z10 z11
  obtain ⟨N,hN⟩:∃ N,(Bg ⟨iY,aZ,cQ,am,st,rW,cl,bk,fW,cW,sS,dX⟩ 0).length=N:=⟨_,rfl⟩;have HNN:Hid _:=hN;rw [hN];clear hN;go_wp2
  refine bodyPost_ret (by simp [results,results227,go_sem,g0,g1,g2,g3,g4,g5,g6,g7,g8,g9,g10,g11];try rfl) rfl ?_
  rw [HX.o,HE.o,← HNN.o]
  exact Iq (c:=⟨iY,aZ,cQ,am,7,rW,0,bk,fW,cW,sS,-1⟩) (h:=w.heap.size+1) (base:=W.heap.size) (by omega) (by have:=HS.o;omega) HO.o HB.o
theorem Ub {b:Nat} {ao:Option Addr} {cp:Nat} {zs:List Int} {a:Ac} {t:Int} {c:Cs} {v:Value} {w:World} (h:DS b ao cp zs a t c [] v w) :
  Calls prog 333 #[.pointer (some ⟨b,0,none⟩)] w fun e w'=>e=.returned (.bool (E4 c t))∧BW w w':=by
 have c9:=h.db.cb.f9;have c4:=h.db.cb.f4
 simp only [Nat.zero_add] at c9 c4
 have HQ:Hid (Calls prog 318 #[.pointer (some ⟨b,0,none⟩)] w fun e w'=>e=.returned (.bool (Bv t c.due))∧BW w w'):=Hn h
 obtain ⟨p,hp⟩:∃ p,c.cop=p:=⟨_,rfl⟩;obtain ⟨s,hs⟩:∃ s,c.st=s:=⟨_,rfl⟩;obtain ⟨l,hl⟩:∃ l,Bv t c.due=l:=⟨_,rfl⟩
 have HV:Hid (E4 c t=(p || (decide (s=1) && l))):=by rw [Hid,E4,hp,hs,hl]
 rw [hp] at c9;rw [hs] at c4;rw [hl] at HQ;clear h hp hs hl
 cases p
 ·by_cases h1:s=1
  ·have HE:Hid (E4 c t=l):=by rw [Hid,HV.o,decide_eq_true h1,Bool.false_or,Bool.true_and]
   have h1':(s == 1)=true:=by simpa using h1
   clear h1
   go_enter func333,ntmps333
   go_wp2_with fail
   refine Calls.mono HQ.o ?_;rintro e w1 ⟨rfl,b1⟩;go_wp2;go_ret;exact ⟨Aa HE.o.symm,b1⟩
  ·have HE:Hid (E4 c t=false):=by rw [Hid,HV.o,decide_eq_false h1,Bool.false_or,Bool.false_and]
   have h1':=Ay h1;clear h1
   go_enter func333,ntmps333
   go_wp2;go_ret;exact ⟨Aa HE.o.symm,bR⟩
 ·have HE:Hid (E4 c t=true):=by rw [Hid,HV.o,Bool.true_or]
  go_enter func333,ntmps333
  go_wp2;go_ret;exact ⟨Aa HE.o.symm,bR⟩
theorem Rw {b:Nat} {ao:Option Addr} {cp:Nat} {zs:List Int} {a:Ac} {t:Int} {c:Cs} {v:Value} {w:World} (h:DS b ao cp zs a t c [] v w) (hn:zs.length≤1099511627776) :
  Calls prog 320 #[.pointer (some ⟨b,0,none⟩)] w fun e w'=>e=.returned (.int .i64 (Bs c a t zs))∧BW w w':=by
 have c13:=h.db.a1;have c14:=h.db.a2;have HH:Hid (DS b ao cp zs a t c [] v w):=h
 obtain ⟨p,hp⟩:∃ p,(!Oy a.rsn || (E8 a.rsn && !E4 c t))=p:=⟨_,rfl⟩
 obtain ⟨q,hq⟩:∃ q,(decide (a.am<1) || (decide (c.am<a.am) || (decide (a.am<c.am) && !Gb a.rsn)))=q:=⟨_,rfl⟩
 obtain ⟨l,hl⟩:∃ l,Bv t (C6 c.sta (Fs a.rsn) zs)=l:=⟨_,rfl⟩;have HV:Hid _:=Qy hp hq hl;have HPP:Hid _:=hp;have HQQ:Hid _:=hq;have HLL:Hid _:=hl
 have HCO:Hid (∀ u,BW w u→Calls prog 333 #[.pointer (some ⟨b,0,none⟩)] u fun e w'=>e=.returned (.bool (E4 c t))∧BW u w'):=fun u hu=>Ub (h.below hu)
 have HDU:Hid (∀ u,BW w u→Calls prog 330 #[.int .i64 c.sta,.int .i64 (Fs a.rsn),.slice ao zs.length cp] u fun e w'=>e=.returned (.int .i64 (C6 c.sta (Fs a.rsn) zs))∧BW u w'):=fun u hu=>Wi c.sta (Fs a.rsn) ao cp zs u (h.below hu).offs hn
 clear h hp hq hl
 go_enter func320,ntmps320
 go_upto_region 1 with fail
 go_cut [3,4] (fun v3 v4 wc=>v3=.int .i64 a.am∧v4=.int .i64 a.rsn∧BW w wc)
 case first =>
  go_wp2
  go_quiet (fail)
  all_goals
   go_wp2_with fail
   go_meet;exact ⟨rfl,rfl,below_drewN bR _⟩
 case rest =>
  obtain ⟨rfl,rfl,b0⟩:=hcut;obtain ⟨u0,hu0⟩:∃ x,x=wc:=⟨_,rfl⟩;subst hu0;clear c13 c14;have HB0:Hid (BW w u0):=b0;clear b0;go_upto_region 2 with fail
  go_cut [15] (fun v wc=>v=.bool p∧BW w wc)
  case first =>
   go_wp2_with fail
   refine (Rg a.rsn _).mono ?_;rintro e u1 ⟨rfl,b1⟩;have HB1:Hid (BW w u1):=next HB0.o b1;clear b1
   cases h1:Oy a.rsn
   ·have HE:Hid (p=true):=by rw [Hid,← HPP.o,h1];rfl
    clear h1;go_wp2;go_meet
    exact ⟨by rw [HE.o],HB1.o⟩
   go_wp2_with fail
   refine (Xc a.rsn _).mono ?_;rintro e u2 ⟨rfl,b2⟩;have HB2:Hid (BW w u2):=next HB1.o b2;clear b2
   cases h2:E8 a.rsn
   ·have HE:Hid (p=false):=by rw [Hid,← HPP.o,h1,h2];rfl
    clear h1 h2;go_wp2;go_meet
    exact ⟨by rw [HE.o],HB2.o⟩
   go_wp2_with fail
   refine (HCO.o _ HB2.o).mono ?_;rintro e u3 ⟨rfl,b3⟩;have HB3:Hid (BW w u3):=next HB2.o b3;clear b3
   have HE:Hid (p = !E4 c t):=by rw [Hid,← HPP.o,h1,h2];rfl
   clear h1 h2;go_wp2;go_meet
   exact ⟨by rw [HE.o],HB3.o⟩
  case rest =>
   obtain ⟨rfl,b4⟩:=hcut;obtain ⟨u4,hu4⟩:∃ x,x=wc:=⟨_,rfl⟩;subst hu4;have HB4:Hid (BW w u4):=b4;clear b4 HB0
   cases p
   rotate_left
   ·have HE:Hid (Bs c a t zs=3):=by rw [Hid,HV.o,if_pos rfl]
    go_wp2;go_ret;exact ⟨Af HE.o.symm,HB4.o⟩
   have HV1:Hid (Bs c a t zs=if q=true then 2 else if l=true then 4 else 0):=by rw [Hid,HV.o,if_neg (by decide)]
   have h4:=HH.o.below HB4.o;have c3:=h4.db.cb.f3
   simp only [Nat.zero_add] at c3
   clear HV h4;go_upto_region 4 with fail
   go_cut [28] (fun v wc=>v=.bool q∧BW w wc)
   case first =>
    have HQ2:Hid ((decide (a.am<1) || (decide (c.am<a.am) || (decide (a.am<c.am) && !Gb a.rsn)))=q):=HQQ.o
    by_cases h1:a.am<1
    ·have HE:Hid (q=true):=by rw [Hid,← HQ2.o,decide_eq_true h1];rfl
     go_wp2;go_meet
     exact ⟨by rw [HE.o],HB4.o⟩
    by_cases h2:c.am<a.am
    ·have HE:Hid (q=true):=by rw [Hid,← HQ2.o,decide_eq_true h2];simp
     go_wp2;go_meet
     exact ⟨by rw [HE.o],HB4.o⟩
    by_cases h3:a.am<c.am
    ·have HE:Hid (q = !Gb a.rsn):=by rw [Hid,← HQ2.o,decide_eq_false h1,decide_eq_false h2,decide_eq_true h3];rfl
     go_wp2_with fail
     refine (X0 a.rsn _).mono ?_;rintro e u5 ⟨rfl,b5⟩;have HB5:Hid (BW w u5):=next HB4.o b5;clear b5;go_wp2;go_meet
     exact ⟨by rw [HE.o],HB5.o⟩
    ·have HE:Hid (q=false):=by rw [Hid,← HQ2.o,decide_eq_false h1,decide_eq_false h2,decide_eq_false h3];rfl
     go_wp2;go_meet
     exact ⟨by rw [HE.o],HB4.o⟩
   case rest =>
    obtain ⟨rfl,b5⟩:=hcut;obtain ⟨u5,hu5⟩:∃ x,x=wc:=⟨_,rfl⟩;subst hu5;have HB5:Hid (BW w u5):=b5;clear b5 c3 HB4
    cases q
    rotate_left
    ·have HE:Hid (Bs c a t zs=2):=by rw [Hid,HV1.o,if_pos rfl]
     go_wp2;go_ret;exact ⟨Af HE.o.symm,HB5.o⟩
    have HV2:Hid (Bs c a t zs=if l=true then 4 else 0):=by rw [Hid,HV1.o,if_neg (by decide)]
    clear HV1
    have HAT:Hid (∀ u,BW w u→u.cell? ⟨b,15,none⟩=some (.int .i64 t)∧u.cell? ⟨b,10,none⟩=some (.int .i64 c.sta)∧u.cell? ⟨b,16,none⟩=some (.slice ao zs.length cp)):=fun u hu=>by
     have g:=HH.o.below hu;have g10:=g.db.cb.f10
     simp only [Nat.zero_add] at g10
     exact ⟨g.db.td,g10,g.db.ho⟩
    obtain ⟨k15,k10,k16⟩:=HAT.o u5 HB5.o;obtain ⟨n,hn'⟩:∃ n,Fs a.rsn=n:=⟨_,rfl⟩
    have HRD:Hid (∀ u,Calls prog 335 #[.int .i64 a.rsn] u fun e w'=>e=.returned (.int .i64 n)∧BW u w'):=fun u=>by rw [← hn'];exact X7 a.rsn u
    rw [hn'] at HDU HLL;obtain ⟨dd,hdd⟩:∃ dd,C6 c.sta n zs=dd:=⟨_,rfl⟩;rw [hdd] at HDU HLL
    have HLT:Hid (∀ u,Calls prog 91 #[.int .i64 t,.int .i64 dd] u fun e w'=>e=.returned (.bool l)∧w'=u):=fun u=>by rw [← HLL.o];exact N2 t dd u
    clear hn' hdd;have d5:BW w u5.drew:=HB5.o.drew;go_upto_region 6 with fail
    go_cut [54] (fun v wc=>v=.bool l∧BW w wc)
    case first =>
     go_region_held3 (fun u=>u.cell? ⟨b,15,none⟩=some (.int .i64 t)∧u.cell? ⟨b,10,none⟩=some (.int .i64 c.sta)∧u.cell? ⟨b,16,none⟩=some (.slice ao zs.length cp)) (first | exact ⟨k15,k10,k16⟩ | exact HAT.o _ HB5.o | exact HAT.o _ d5 | exact HAT.o _ HB6.o | exact HAT.o _ HB7.o) ((first
      | (go_at_call 335;refine (HRD.o _).mono ?_;rintro e u6 ⟨rfl,b6⟩;(first | (have HB6:Hid (BW w u6):=next d5 b6) | (have HB6:Hid (BW w u6):=next HB5.o b6));clear b6)
      | (go_at_call 330;refine (HDU.o _ HB6.o).mono ?_;rintro e u7 ⟨rfl,b7⟩;(have HB7:Hid (BW w u7):=next HB6.o b7);clear b7)
      | (go_at_call 91;refine (HLT.o _).mono ?_;rintro e u8 ⟨rfl,hu8⟩;rw [hu8];clear hu8)))
     all_goals
      go_wp2_with fail
      go_meet;exact ⟨rfl,HB7.o⟩
    case rest =>
     obtain ⟨rfl,b8⟩:=hcut;clear k15 k10 k16
     cases l
     ·have HE:Hid (Bs c a t zs=0):=by rw [Hid,HV2.o,if_neg (by decide)]
      go_wp2;go_ret;exact ⟨Af HE.o.symm,b8⟩
     ·have HE:Hid (Bs c a t zs=4):=by rw [Hid,HV2.o,if_pos rfl]
      go_wp2;go_ret;exact ⟨Af HE.o.symm,b8⟩
def Y9:Be:=[[],[119,104,97,116],[100,97,121],[100,97,121,32,120],[97,117,116,104,32,97],[112,97,121,32,49,32,49,32,56,52,48,32,53],[97,99,116,32,48,32,97,115,107,32,48],[97,99,116,32,48,32,100,97,110,99,101,32,48,32,48],[97,99,116,32,57,57,57,32,97,115,107,32,48,32,48],[112,97,121,32,48,49,32,52,32,56,52,48,32,53],[97,117,116,104,32,48,48,48,48,48,48,48,48,48,48,48,49,32,49,32,56,52,48,32,48]]
def vG:Array Value:=#[.string ⟨#[]⟩,.string ⟨#[119,104,97,116]⟩,.string ⟨#[100,97,121]⟩,.string ⟨#[100,97,121,32,120]⟩,.string ⟨#[97,117,116,104,32,97]⟩,.string ⟨#[112,97,121,32,49,32,49,32,56,52,48,32,53]⟩,.string ⟨#[97,99,116,32,48,32,97,115,107,32,48]⟩,.string ⟨#[97,99,116,32,48,32,100,97,110,99,101,32,48,32,48]⟩,.string ⟨#[97,99,116,32,57,57,57,32,97,115,107,32,48,32,48]⟩,.string ⟨#[112,97,121,32,48,49,32,52,32,56,52,48,32,53]⟩,.string ⟨#[97,117,116,104,32,48,48,48,48,48,48,48,48,48,48,48,49,32,49,32,56,52,48,32,48]⟩]
theorem yC (u:World) (t:TypeId) (k:Nat) (h:k<11):(u.alloc (.cells vG t)).cell? ⟨u.heap.size,k,none⟩=some (.string ⟨(Al Y9 k).toArray⟩):=by
 rcases (show k=0∨k=1∨k=2∨k=3∨k=4∨k=5∨k=6∨k=7∨k=8∨k=9∨k=10 by omega) with rfl | rfl | rfl | rfl | rfl | rfl | rfl | rfl | rfl | rfl | rfl <;> simp [vG,Y9,Al,go_sem]
theorem xQ (k:Nat):(Al Y9 k).length≤30:=by
 by_cases h:k<11
 ·rcases (show k=0∨k=1∨k=2∨k=3∨k=4∨k=5∨k=6∨k=7∨k=8∨k=9∨k=10 by omega) with rfl | rfl | rfl | rfl | rfl | rfl | rfl | rfl | rfl | rfl | rfl <;> decide
 ·have:Al Y9 k=[]:=by simp [Al,Y9,List.getD_eq_getElem?_getD];rw [List.getElem?_eq_none (by simp;omega)];rfl
  rw [this];simp
theorem Aa2 {B g:Nat} {w:World} {b:Bk} {p:Bp} {u:World} (q:LS B g w b p u) (k:Cs) :
  Calls prog 133 #[.pointer (some ⟨g,0,none⟩),cv k] u fun e u'=>∃ a:Ac,e=.returned (av a)∧LS B g w b p u' :=
 (zE g k u q.cu).mono (by rintro e u' ⟨a,h1,c,r⟩;exact ⟨a,h1,q.call c r⟩)
structure LT (B g:Nat) (w:World) (b:Bk) (p:Bp) (T:Nat) (v1 v2 v3:Value) (u:World):Prop where
 ls:LS B g w b p u
 s:u.cell? ⟨T,1,none⟩=some v1∧u.cell? ⟨T,2,none⟩=some v2∧u.cell? ⟨T,3,none⟩=some v3
 ne:T≠g
theorem LT.call {B g:Nat} {w:World} {b:Bk} {p:Bp} {T:Nat} {v1 v2 v3:Value} {u u':World} (q:LT B g w b p T v1 v2 v3 u) (c:A2 B u' g) (r:u.grownBy u' (some g)):LT B g w b p T v1 v2 v3 u' :=
 ⟨q.ls.call c r,⟨r.cell (a:=⟨T,1,none⟩) q.s.1 (by have:=q.ne;simp;omega),r.cell (a:=⟨T,2,none⟩) q.s.2.1 (by have:=q.ne;simp;omega),r.cell (a:=⟨T,3,none⟩) q.s.2.2 (by have:=q.ne;simp;omega)⟩,q.ne⟩
theorem LT.below {B g:Nat} {w:World} {b:Bk} {p:Bp} {T:Nat} {v1 v2 v3:Value} {u u':World} (q:LT B g w b p T v1 v2 v3 u) (h:BW u u'):LT B g w b p T v1 v2 v3 u':=q.call (A4 q.ls.cu h) (K8 h _)
theorem LT.drew {B g:Nat} {w:World} {b:Bk} {p:Bp} {T:Nat} {v1 v2 v3:Value} {u:World} (q:LT B g w b p T v1 v2 v3 u):LT B g w b p T v1 v2 v3 u.drew:=q.below (bR.drew)
theorem zQ {B g:Nat} {w:World} {b:Bk} {p:Bp} {T:Nat} {v1 v2 v3:Value} {u:World} (q:LT B g w b p T v1 v2 v3 u) (n:Int) (hn:n≤1099511627776) :
  Calls prog 97 #[.pointer (some ⟨g,0,none⟩),.int .i64 n] u fun e u'=>∃ x:Bool,e=.returned (.bool x)∧LT B g w b p T v1 v2 v3 u' :=
 (Y7 g n u q.ls.cu hn).mono (by rintro e u' ⟨x,h1,c,r⟩;exact ⟨x,h1,q.call c r⟩)
structure LA (B g:Nat) (w:World) (T:Nat) (v0 v1 v2:Value) (u:World):Prop where
 cu:A2 B u g
 gr:w.grownBy u (some g)
 s:u.cell? ⟨T,0,none⟩=some v0∧u.cell? ⟨T,1,none⟩=some v1∧u.cell? ⟨T,2,none⟩=some v2
 z:u.frozen? ⟨T,0,none⟩=false∧u.frozen? ⟨T,1,none⟩=false∧u.frozen? ⟨T,2,none⟩=false
 hT:B≤T
 hw:w.heap.size≤T
theorem LA.below {B g:Nat} {w:World} {T:Nat} {v0 v1 v2:Value} {u u':World} (q:LA B g w T v0 v1 v2 u) (h:BW u u'):LA B g w T v0 v1 v2 u':=by
 have l:=World.block_lt_of_cell? u _ q.s.1;exact ⟨A4 q.cu h,q.gr.trans (K8 h _),⟨(h.cell l).trans q.s.1,(h.cell (p:=⟨T,1,none⟩) l).trans q.s.2.1,(h.cell (p:=⟨T,2,none⟩) l).trans q.s.2.2⟩,⟨(h.frozen (p:=⟨T,0,none⟩) l).trans q.z.1,(h.frozen (p:=⟨T,1,none⟩) l).trans q.z.2.1,(h.frozen (p:=⟨T,2,none⟩) l).trans q.z.2.2⟩,q.hT,q.hw⟩
theorem LA.drew {B g:Nat} {w:World} {T:Nat} {v0 v1 v2:Value} {u:World} (q:LA B g w T v0 v1 v2 u):LA B g w T v0 v1 v2 u.drew:=q.below (bR.drew)
theorem LA.at {B g:Nat} {w:World} {T:Nat} {v0 v1 v2 y0 y1 y2:Value} {u:World} (q:LA B g w T v0 v1 v2 u) (i:Nat) (x:Value) (e:(u.setCell ⟨T,i,none⟩ x).cell? ⟨T,0,none⟩=some y0∧(u.setCell ⟨T,i,none⟩ x).cell? ⟨T,1,none⟩=some y1∧(u.setCell ⟨T,i,none⟩ x).cell? ⟨T,2,none⟩=some y2):LA B g w T y0 y1 y2 (u.setCell ⟨T,i,none⟩ x):=by
 have hw:=q.hw
 refine ⟨B9 q.cu ((Below.refl B u).setCell q.hT _),⟨q.gr.os,q.gr.tape,q.gr.output,by simpa using q.gr.size,fun k hk hne=>(Below.heap_setCell _ _ _ _ (by simp only;omega)).trans (q.gr.block k hk hne)⟩,e,⟨?_,?_,?_⟩,q.hT,q.hw⟩
 ·rw [World.frozen?_setCell];exact q.z.1
 ·rw [World.frozen?_setCell];exact q.z.2.1
 ·rw [World.frozen?_setCell];exact q.z.2.2
theorem LA.zero {B g:Nat} {w:World} {T:Nat} {v0 v1 v2:Value} {u:World} (q:LA B g w T v0 v1 v2 u) (x0 x1 x2:Value):LA B g w T x0 x1 x2 (((u.setCell ⟨T,0,none⟩ x0).setCell ⟨T,1,none⟩ x1).setCell ⟨T,2,none⟩ x2):=by
 have q0:=q.at (y0:=x0) (y1:=v1) (y2:=v2) 0 x0 ⟨World.cell?_setCell_same _ _ _ q.s.1,by rw [World.cell?_setCell_other _ _ _ _ (by simp)];exact q.s.2.1,by rw [World.cell?_setCell_other _ _ _ _ (by simp)];exact q.s.2.2⟩
 have q1:=q0.at (y0:=x0) (y1:=x1) (y2:=v2) 1 x1 ⟨by rw [World.cell?_setCell_other _ _ _ _ (by simp)];exact q0.s.1,World.cell?_setCell_same _ _ _ q0.s.2.1,by rw [World.cell?_setCell_other _ _ _ _ (by simp)];exact q0.s.2.2⟩
 exact q1.at (y0:=x0) (y1:=x1) (y2:=x2) 2 x2 ⟨by rw [World.cell?_setCell_other _ _ _ _ (by simp)];exact q1.s.1,by rw [World.cell?_setCell_other _ _ _ _ (by simp)];exact q1.s.2.1,World.cell?_setCell_same _ _ _ q1.s.2.2⟩
theorem Aa5 (A D:ByteArray) (n:Nat) (hA:A.size≤n) (hn:n≤1000) (hD:D.size≤30):∃ C E:ByteArray,(∀ w,(Op.stringOp .add A D).run prog w=.ok (.string C) w)∧(∀ w,(Op.stringOp .add C ⟨#[32]⟩).run prog w=.ok (.string E) w)∧C.size≤n+30∧E.size≤n+31 :=
 ⟨A++D,(A++D)++⟨#[32]⟩,fun w=>run_string_add_sum w A D (by omega),fun w=>run_string_add_sum w _ _ (by rw [O7];have:(⟨#[32]⟩:ByteArray).size=1:=rfl;omega),by rw [O7];omega,by rw [O7,O7];have:(⟨#[32]⟩:ByteArray).size=1:=rfl;omega⟩
theorem xN (k:Nat):(Al Dm k).length≤10:=by
 by_cases h:k<10
 ·rcases (show k=0∨k=1∨k=2∨k=3∨k=4∨k=5∨k=6∨k=7∨k=8∨k=9 by omega) with rfl | rfl | rfl | rfl | rfl | rfl | rfl | rfl | rfl | rfl <;> decide
 ·have:Al Dm k=[]:=by simp [Al,Dm,List.getD_eq_getElem?_getD];rw [List.getElem?_eq_none (by simp;omega)];rfl
  rw [this];simp
def GD (D:ByteArray):Prop:=NoB D.data.toList∧Dr D.data.toList≤8
def LnG (B g:Nat) (w:World) (e:Ending) (u:World):Prop :=
 ∃ l:List UInt8,e=.returned (.string ⟨l.toArray⟩)∧l.length≤400∧K5 l∧A2 B u g∧w.grownBy u (some g)
theorem tR {B g:Nat} {w:World} {b:Bk} {p:Bp} {u:World} {s:ByteArray} (q:LS B g w b p u) (h:s.size≤400) (hg:K5 s.data.toList):LnG B g w (.returned (.string s)) u :=
 ⟨s.data.toList,by cases s;simp,by cases s;simpa [ByteArray.size] using h,hg,q.cu,q.gr⟩
theorem uU {B g:Nat} {w:World} {T:Nat} {v0 v1 v2:Value} {u:World} {s:ByteArray} (q:LA B g w T v0 v1 v2 u) (h:s.size≤400) (hg:K5 s.data.toList):LnG B g w (.returned (.string s)) u :=
 ⟨s.data.toList,by cases s;simp,by cases s;simpa [ByteArray.size] using h,hg,q.cu,q.gr⟩
theorem baL (a b:ByteArray):(a++b).data.toList=a.data.toList++b.data.toList:=by simp
theorem W8 (A D:ByteArray) (n:Nat) (hA:A.size≤n) (hn:n≤1000) (hD:D.size≤30):∃ C E:ByteArray,(∀ w,(Op.stringOp .add A D).run prog w=.ok (.string C) w)∧(∀ w,(Op.stringOp .add C ⟨#[32]⟩).run prog w=.ok (.string E) w)∧C.size≤n+30∧E.size≤n+31∧Hid (C=A++D∧E=A++D++⟨#[32]⟩) :=
 ⟨A++D,(A++D)++⟨#[32]⟩,fun w=>run_string_add_sum w A D (by omega),fun w=>run_string_add_sum w _ _ (by rw [O7];have:(⟨#[32]⟩:ByteArray).size=1:=rfl;omega),by rw [O7];omega,by rw [O7,O7];have:(⟨#[32]⟩:ByteArray).size=1:=rfl;omega,⟨rfl,rfl⟩⟩
theorem uA {D1 D2 D3 D4 C1 C2 C3 C4 E1 E2 E3 E4:ByteArray} (h1:Hid (C1=⟨#[97,99,116,32]⟩++D1∧E1=⟨#[97,99,116,32]⟩++D1++⟨#[32]⟩)) (h2:Hid (C2=E1++D2∧E2=E1++D2++⟨#[32]⟩)) (h3:Hid (C3=E2++D3∧E3=E2++D3++⟨#[32]⟩)) (h4:Hid (C4=E3++D4∧E4=E3++D4++⟨#[32]⟩)):K5 C4.data.toList:=by
 have e:C4.data.toList=[97,99,116]++32::(D1.data.toList++[32]++D2.data.toList++[32]++D3.data.toList++[32]++D4.data.toList):=by
  rw [h4.out.1,h3.out.2,h2.out.2,h1.out.2]
  simp only [baL]
  simp
 rw [e]
 exact Pl (L2 (by decide)) (by decide) (by decide) _
theorem xP {D1 D2 D3 D4 C1 C2 C3 C4 E1 E2 E3 E4:ByteArray} (h1:Hid (C1=⟨#[112,97,121,32]⟩++D1∧E1=⟨#[112,97,121,32]⟩++D1++⟨#[32]⟩)) (h2:Hid (C2=E1++D2∧E2=E1++D2++⟨#[32]⟩)) (h3:Hid (C3=E2++D3∧E3=E2++D3++⟨#[32]⟩)) (h4:Hid (C4=E3++D4∧E4=E3++D4++⟨#[32]⟩)) (g1:Hid (GD D1)) (g2:Hid (GD D2)):K5 C4.data.toList:=by
 have e:C4.data.toList=[112,97,121]++32::(D1.data.toList++32::(D2.data.toList++32::(D3.data.toList++[32]++D4.data.toList))):=by
  rw [h4.out.1,h3.out.2,h2.out.2,h1.out.2]
  simp only [baL]
  simp
 rw [e];exact tT g1.out.1 g2.out.1 g1.out.2 g2.out.2 _
theorem xK (D:ByteArray):K5 ((⟨#[100,97,121,32]⟩:ByteArray)++D).data.toList:=by
 have e:((⟨#[100,97,121,32]⟩:ByteArray)++D).data.toList=[100,97,121]++32::D.data.toList:=by rw [baL];rfl
 rw [e]
 exact Pl (L2 (by decide)) (by decide) (by decide) _
theorem wL {l:List UInt8} {D R:ByteArray} (hl:Hid (NoB l∧l≠[])) (hD:Hid (GD D)):K5 (((((⟨#[97,117,116,104,32]⟩:ByteArray)++⟨l.toArray⟩)++⟨#[32]⟩)++D)++⟨#[32]⟩++R).data.toList:=by
 have e:(((((⟨#[97,117,116,104,32]⟩:ByteArray)++⟨l.toArray⟩)++⟨#[32]⟩)++D)++⟨#[32]⟩++R).data.toList=[97,117,116,104]++32::(l++32::(D.data.toList++32::R.data.toList)):=by
  simp only [baL]
  simp
 rw [e];exact uC hl.out.2 hl.out.1 hD.out.1 hD.out.2 _
theorem wC {l:List UInt8} (hl:Hid (NoB l∧l≠[])):K5 (((⟨#[97,117,116,104,32]⟩:ByteArray)++⟨l.toArray⟩)++⟨#[32,49,32,56,52,48,32,53,48,48]⟩).data.toList:=by
 have e:(((⟨#[97,117,116,104,32]⟩:ByteArray)++⟨l.toArray⟩)++⟨#[32,49,32,56,52,48,32,53,48,48]⟩).data.toList=[97,117,116,104]++32::(l++32::([49]++32::[56,52,48,32,53,48,48])):=by
  simp only [baL]
  simp
 rw [e]
 exact uC hl.out.2 hl.out.1 (L2 (by decide)) (by decide) _
theorem wM (a b c d e f g h:ByteArray):(((((((a++b)++c)++d)++e)++f)++g)++h)=(((((a++b)++c)++d)++e)++(f++g++h)):=by
 apply ByteArray.ext;apply Array.ext'
 simp only [baL,List.append_assoc]
theorem vJ (n:Int) (w:World) :
  Calls prog 72 #[.int .i64 n] w fun e w'=>∃ l:List UInt8,e=.returned (.string ⟨l.toArray⟩)∧l.length≤22∧Hid (0≤n→n≤8→GD ⟨l.toArray⟩)∧w'=w:=by
 by_cases h:0≤n∧n≤8
 ·obtain ⟨m,rfl⟩:=Int.eq_ofNat_of_zero_le h.1
  refine (Tg.dec_up m w (by omega)).mono ?_
  rintro e w' ⟨rfl,rfl⟩
  have hm:m≤8:=by omega
  have hd:Lib.decDigits m=[UInt8.ofNat (48+m)]:=by
   rcases (show m=0∨m=1∨m=2∨m=3∨m=4∨m=5∨m=6∨m=7∨m=8 from by omega) with rfl | rfl | rfl | rfl | rfl | rfl | rfl | rfl | rfl <;> simp [Lib.decDigits]
  rw [hd]
  exact ⟨_,rfl,by simp,fun _ _=>⟨Aac (by omega),xF hm⟩,rfl⟩
 ·refine (R3 n w).mono ?_
  rintro e w' ⟨l,h1,h2,h3⟩
  exact ⟨l,h1,h2,fun a b=>absurd ⟨a,b⟩ h,h3⟩
theorem Aa1 {n:Int} {l:List UInt8} (h:Hid (0≤n→n≤8→GD ⟨l.toArray⟩)) (h0:0≤n) (h1:n≤8):Hid (GD ⟨l.toArray⟩):=h.out h0 h1
theorem zP {l:List UInt8} (h:A6 48 57 l=true):NoB l:=fun c hc e=>by
 have:=Ym h c hc
 rw [e] at this
 revert this;decide
theorem yW (x n:Int):NoB (uF x n):=by
 rcases uG x n with h | ⟨a,m,_,_,_,_,_,h⟩
 ·rw [h];exact fun c hc=>by cases hc
 ·rw [h];exact zP (yH a m)
theorem zS {x:Int} (h0:0≤x) (h1:x<60):uF x 12≠[]:=fun e=>by
 obtain ⟨a,rfl⟩:=Int.eq_ofNat_of_zero_le h0
 have h:a<10 ^ 12:=by omega
 have e2:=vI (x:=a) (n:=12) (by decide) h
 rw [show uF (a:Int) 12=uZ a 12 from uH (by decide) (by decide) h] at e
 rw [e] at e2
 simp at e2
theorem zV {B g:Nat} {w:World} {b:Bk} {p:Bp} {u:World} (q:LS B g w b p u) (x n:Int) :
  Calls prog 130 #[.int .i64 x,.int .i64 n] u fun e u'=>∃ l:List UInt8,e=.returned (.string ⟨l.toArray⟩)∧l.length≤18∧Hid (NoB l∧(0≤x→x<60→n=12→l≠[]))∧LS B g w b p u' :=
 (vD x n u).mono (by rintro e u' ⟨h,c⟩;exact ⟨_,h,zN x n,⟨yW x n,fun h0 h1 h2=>h2 ▸ zS h0 h1⟩,q.below c⟩)
theorem uP {B g:Nat} {w:World} {b:Bk} {p:Bp} {T:Nat} {v1 v2 v3:Value} {u:World} (q:LT B g w b p T v1 v2 v3 u) :
  Calls prog 79 #[.pointer (some ⟨g,0,none⟩),.int .i64 3] u fun e u'=>∃ x:Int,e=.returned (.int .i64 x)∧Hid (0≤x∧x<3)∧LT B g w b p T v1 v2 v3 u' :=
 (G4 g 3 u q.ls.cu (by omega)).mono (by rintro e u' ⟨x,h1,h2,h3,c,r⟩;exact ⟨x,h1,⟨h2,h3 (by omega)⟩,q.call c r⟩)
theorem vY (k:Nat):K5 (Al Y9 k):=by
 by_cases h:k<11
 ·rcases (show k=0∨k=1∨k=2∨k=3∨k=4∨k=5∨k=6∨k=7∨k=8∨k=9∨k=10 by omega) with rfl | rfl | rfl | rfl | rfl | rfl | rfl | rfl | rfl | rfl | rfl
  ·exact ⟨fun h=>absurd h (by decide),fun h=>absurd h (by decide)⟩
  ·exact ⟨fun h=>absurd h (by decide),fun h=>absurd h (by decide)⟩
  ·exact ⟨fun h=>absurd h (by decide),fun h=>absurd h (by decide)⟩
  ·exact ⟨fun h=>absurd h (by decide),fun h=>absurd h (by decide)⟩
  ·exact ⟨fun h=>absurd h (by decide),fun h=>absurd h (by decide)⟩
  ·exact tT (A:=[49]) (D:=[49]) (L2 (by decide)) (L2 (by decide)) (by decide) (by decide) [56,52,48,32,53]
  ·exact Pl (x:=[97,99,116]) (L2 (by decide)) (by decide) (by decide) _
  ·exact Pl (x:=[97,99,116]) (L2 (by decide)) (by decide) (by decide) _
  ·exact Pl (x:=[97,99,116]) (L2 (by decide)) (by decide) (by decide) _
  ·exact tT (A:=[48,49]) (D:=[52]) (L2 (by decide)) (L2 (by decide)) (by decide) (by decide) [56,52,48,32,53]
  ·exact uC (by decide) (A:=[48,48,48,48,48,48,48,48,48,48,48,49]) (D:=[49]) (L2 (by decide)) (L2 (by decide)) (by decide) [56,52,48,32,48]
 ·have:Al Y9 k=[]:=by simp [Al,Y9,List.getD_eq_getElem?_getD];rw [List.getElem?_eq_none (by simp;omega)];rfl
  rw [this]
  exact ⟨fun h=>absurd h (by decide),fun h=>absurd h (by decide)⟩
theorem Aaj {B g:Nat} {w:World} {b:Bk} {p:Bp} {u:World} (q:LS B g w b p u) (t:TypeId) :
  Calls prog 132 #[.pointer (some ⟨g,0,none⟩),.slice (some ⟨u.heap.size,0,none⟩) 11 11] (u.alloc (.cells vG t)) fun e u'=>∃ l:List UInt8,e=.returned (.string ⟨l.toArray⟩)∧l.length≤30∧Hid (K5 l)∧LS B g w b p u':=by
 have qa:=q.alloc (.cells vG t);have hne:=R5 q.cu;have hcl:=yC u t;obtain ⟨U,hU⟩:∃ U,u.alloc (.cells vG t)=U:=⟨_,rfl⟩;rw [hU] at qa hcl ⊢;obtain ⟨T,hT⟩:∃ T,u.heap.size=T:=⟨_,rfl⟩;rw [hT] at hcl hne ⊢;clear hU hT q
 go_enter func132,ntmps132
 go_wp2_with fail
 refine (G4 g 11 U qa.cu (by omega)).mono ?_
 rintro e u1 ⟨x,rfl,x0,x1,c1,g1⟩
 have hx:=x1 (by omega)
 obtain ⟨k,rfl⟩:=Int.eq_ofNat_of_zero_le x0
 have hk:k<11:=by omega
 have cb:u1.cell? ⟨T,k,none⟩=some (.string ⟨(Al Y9 k).toArray⟩):=g1.cell (a:=⟨T,k,none⟩) (hcl k hk) (by simpa using hne)
 have q1:=qa.call c1 g1;have hl:=xQ k;have hgd:Hid (K5 (Al Y9 k)):=vY k;obtain ⟨s,hs⟩:∃ s,Al Y9 k=s:=⟨_,rfl⟩;rw [hs] at cb hl hgd;clear hcl hs c1 g1 x1 x0 qa;go_wp2;go_ret;exact ⟨s,rfl,hl,hgd,q1⟩
end Go.Proofs.YtomiclakhjncbaaGreatDoor
