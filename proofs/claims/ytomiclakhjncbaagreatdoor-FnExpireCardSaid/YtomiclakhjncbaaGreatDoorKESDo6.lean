import Derived.Test.YtomiclakhjncbaaGreatDoorJE3a
namespace Go.Proofs.YtomiclakhjncbaaGreatDoor
open Go.RowKit Go.Proofs.Tryz
set_option maxRecDepth 100000
set_option maxHeartbeats 12800000
structure NB (h:Nat) (n:Cs) (u:World):Prop where
 cb:CB h 0 n u
 fz:FZ h 0 u
theorem NB.below {h:Nat} {n:Cs} {u u':World} (x:NB h n u) (b:BW u u'):NB h n u':=⟨x.cb.below b,x.fz.below x.cb.lt b⟩
theorem NB.set4 {h:Nat} {c:Cs} {u:World} (q:NB h c u) (x:Int):NB h ⟨c.iss,c.acq,c.cur,c.am,x,c.rsn,c.cl,c.bk,c.fee,c.cop,c.sta,c.due⟩ (u.setCell ⟨h,4,none⟩ (.int .i64 x)):=by
 obtain ⟨⟨f0,f1,f2,f3,f4,f5,f6,f7,f8,f9,f10,f11⟩,⟨z0,z1,z2,z3,z4,z5,z6,z7,z8,z9,z10,z11⟩⟩:=q
 simp only [Nat.zero_add] at f0 f1 f2 f3 f4 f5 f6 f7 f8 f9 f10 f11 z0 z1 z2 z3 z4 z5 z6 z7 z8 z9 z10 z11
 exact ⟨(by constructor<;>simp [go_sem, *]),(by constructor<;>simp [go_sem, *])⟩
theorem NB.set5 {h:Nat} {c:Cs} {u:World} (q:NB h c u) (x:Int):NB h ⟨c.iss,c.acq,c.cur,c.am,c.st,x,c.cl,c.bk,c.fee,c.cop,c.sta,c.due⟩ (u.setCell ⟨h,5,none⟩ (.int .i64 x)):=by
 obtain ⟨⟨f0,f1,f2,f3,f4,f5,f6,f7,f8,f9,f10,f11⟩,⟨z0,z1,z2,z3,z4,z5,z6,z7,z8,z9,z10,z11⟩⟩:=q
 simp only [Nat.zero_add] at f0 f1 f2 f3 f4 f5 f6 f7 f8 f9 f10 f11 z0 z1 z2 z3 z4 z5 z6 z7 z8 z9 z10 z11
 exact ⟨(by constructor<;>simp [go_sem, *]),(by constructor<;>simp [go_sem, *])⟩
theorem NB.set6 {h:Nat} {c:Cs} {u:World} (q:NB h c u) (x:Int):NB h ⟨c.iss,c.acq,c.cur,c.am,c.st,c.rsn,x,c.bk,c.fee,c.cop,c.sta,c.due⟩ (u.setCell ⟨h,6,none⟩ (.int .i64 x)):=by
 obtain ⟨⟨f0,f1,f2,f3,f4,f5,f6,f7,f8,f9,f10,f11⟩,⟨z0,z1,z2,z3,z4,z5,z6,z7,z8,z9,z10,z11⟩⟩:=q
 simp only [Nat.zero_add] at f0 f1 f2 f3 f4 f5 f6 f7 f8 f9 f10 f11 z0 z1 z2 z3 z4 z5 z6 z7 z8 z9 z10 z11
 exact ⟨(by constructor<;>simp [go_sem, *]),(by constructor<;>simp [go_sem, *])⟩
theorem NB.set7 {h:Nat} {c:Cs} {u:World} (q:NB h c u) (x:Int):NB h ⟨c.iss,c.acq,c.cur,c.am,c.st,c.rsn,c.cl,x,c.fee,c.cop,c.sta,c.due⟩ (u.setCell ⟨h,7,none⟩ (.int .i64 x)):=by
 obtain ⟨⟨f0,f1,f2,f3,f4,f5,f6,f7,f8,f9,f10,f11⟩,⟨z0,z1,z2,z3,z4,z5,z6,z7,z8,z9,z10,z11⟩⟩:=q
 simp only [Nat.zero_add] at f0 f1 f2 f3 f4 f5 f6 f7 f8 f9 f10 f11 z0 z1 z2 z3 z4 z5 z6 z7 z8 z9 z10 z11
 exact ⟨(by constructor<;>simp [go_sem, *]),(by constructor<;>simp [go_sem, *])⟩
theorem NB.set9 {h:Nat} {c:Cs} {u:World} (q:NB h c u) (x:Bool):NB h ⟨c.iss,c.acq,c.cur,c.am,c.st,c.rsn,c.cl,c.bk,c.fee,x,c.sta,c.due⟩ (u.setCell ⟨h,9,none⟩ (.bool x)):=by
 obtain ⟨⟨f0,f1,f2,f3,f4,f5,f6,f7,f8,f9,f10,f11⟩,⟨z0,z1,z2,z3,z4,z5,z6,z7,z8,z9,z10,z11⟩⟩:=q
 simp only [Nat.zero_add] at f0 f1 f2 f3 f4 f5 f6 f7 f8 f9 f10 f11 z0 z1 z2 z3 z4 z5 z6 z7 z8 z9 z10 z11
 exact ⟨(by constructor<;>simp [go_sem, *]),(by constructor<;>simp [go_sem, *])⟩
theorem NB.set11 {h:Nat} {c:Cs} {u:World} (q:NB h c u) (x:Int):NB h ⟨c.iss,c.acq,c.cur,c.am,c.st,c.rsn,c.cl,c.bk,c.fee,c.cop,c.sta,x⟩ (u.setCell ⟨h,11,none⟩ (.int .i64 x)):=by
 obtain ⟨⟨f0,f1,f2,f3,f4,f5,f6,f7,f8,f9,f10,f11⟩,⟨z0,z1,z2,z3,z4,z5,z6,z7,z8,z9,z10,z11⟩⟩:=q
 simp only [Nat.zero_add] at f0 f1 f2 f3 f4 f5 f6 f7 f8 f9 f10 f11 z0 z1 z2 z3 z4 z5 z6 z7 z8 z9 z10 z11
 exact ⟨(by constructor<;>simp [go_sem, *]),(by constructor<;>simp [go_sem, *])⟩
theorem NB.put {h:Nat} {c d:Cs} {u:World} (q:NB h d u):NB h c (Cz u h c):=by
 refine ⟨Mb q.cb,?_⟩;obtain ⟨⟨f0,f1,f2,f3,f4,f5,f6,f7,f8,f9,f10,f11⟩,⟨z0,z1,z2,z3,z4,z5,z6,z7,z8,z9,z10,z11⟩⟩:=q
 simp only [Nat.zero_add] at f0 f1 f2 f3 f4 f5 f6 f7 f8 f9 f10 f11 z0 z1 z2 z3 z4 z5 z6 z7 z8 z9 z10 z11
 exact ⟨by simp [Cz,go_sem,z0],by simp [Cz,go_sem,z1],by simp [Cz,go_sem,z2],by simp [Cz,go_sem,z3],by simp [Cz,go_sem,z4],by simp [Cz,go_sem,z5],by simp [Cz,go_sem,z6],by simp [Cz,go_sem,z7],by simp [Cz,go_sem,z8],by simp [Cz,go_sem,z9],by simp [Cz,go_sem,z10],by simp [Cz,go_sem,z11]⟩
structure QS (w:World) (h g:Nat) (c:Cs) (a:Ac) (n:Cs) (u:World):Prop where
 bx:BX w.heap.size c a u
 nb:NB h n u
 no:u.ownsRow (w.heap.size+1+1+1) 269 4 (.slice (some ⟨g,0,none⟩) 0 0) 0 []
 lt:w.heap.size+1+1<h
 ne:g≠h
 bel:BW w u
theorem QS.below {w:World} {h g:Nat} {c:Cs} {a:Ac} {n:Cs} {u u':World} (q:QS w h g c a n u) (b:BW u u'):QS w h g c a n u':=⟨q.bx.below b,q.nb.below b,Av q.no b,q.lt,q.ne,next q.bel b⟩
theorem QS.at {w:World} {h g:Nat} {c:Cs} {a:Ac} {n m:Cs} {u:World} (q:QS w h g c a n u) (i:Nat) (x:Value) (e:NB h m (u.setCell ⟨h,i,none⟩ x)):QS w h g c a m (u.setCell ⟨h,i,none⟩ x) :=
 ⟨q.bx.under (B:=h) (Bn u h i x) q.lt,e,A5 q.no ⟨h,i,none⟩ x (fun k hk=>by injection hk with hk;subst hk;exact q.ne),q.lt,q.ne,q.bel.trans ((Bn u h i x).mono (by have:=q.lt;omega))⟩
theorem QS.put {w:World} {h g:Nat} {c:Cs} {a:Ac} {n m:Cs} {u:World} (q:QS w h g c a n u):QS w h g c a m (Cz u h m) :=
 ⟨q.bx.under (B:=h) (Cp m (Below.refl h u) (Nat.le_refl h)) q.lt,q.nb.put,F3 m q.no (fun k hk=>by injection hk with hk;subst hk;exact q.ne),q.lt,q.ne,Cp m q.bel (by have:=q.lt;omega)⟩
def SW (w:World) (h g:Nat) (c:Cs) (a:Ac) (n:Cs) (E:List En) (v:Value) (u:World):Prop :=
 ∃ ae ke,v=.slice ae E.length ke∧QS w h g c a n u∧u.ownsRow (w.heap.size+1+1+1) 269 4 (.slice ae E.length ke) E.length (Ba E)
theorem sO {c:Cs} {a:Ac} {t:Int} {zs:List Int} (h:B4 c a t zs=0) (hk:a.kind=3):1≤a.am∧a.am≤c.cl:=by
 have:B4 c a t zs=Dd c a t:=by simp [B4,hk,Dd]
 rw [this] at h;exact Sj h
theorem sV {c:Cs} {a:Ac} {t:Int} {zs:List Int} (h:B4 c a t zs=0) (hk:a.kind=7):0≤a.am∧a.am≤c.cl:=by
 have:B4 c a t zs=if 0≤a.am∧a.am≤c.cl then 0 else 2:=by simp [B4,hk]
 rw [this] at h
 split at h
 ·assumption
 ·cases h
theorem oC (c:Cs) (a:Ac) (t:Int) (ao:Option Addr) (cp:Nat) (zs:List Int) (w:World) (hx:Aw w ao zs) (hn:zs.length≤1099511627776) :
  Calls prog 184 #[cv c,av a,.int .i64 t,.slice ao zs.length cp] w (pM w (doC c a t zs) (doE c a t zs) (doV c a t zs)):=by
 obtain ⟨W,hW⟩:∃ W,W=(((w.alloc (.cells #[.int .i64 c.iss,.int .i64 c.acq,.int .i64 c.cur,.int .i64 c.am,.int .i64 c.st,.int .i64 c.rsn,.int .i64 c.cl,.int .i64 c.bk,.int .i64 c.fee,.bool c.cop,.int .i64 c.sta,.int .i64 c.due] 61)).alloc (.cells #[.int .i64 a.kind,.int .i64 a.am,.int .i64 a.rsn] 165)).alloc (.cells #[.int .i64 0,.int .i64 0,.int .i64 0,.int .i64 0,.int .i64 0,.int .i64 0,.int .i64 0,.int .i64 0,.int .i64 0,.bool false,.int .i64 0,.int .i64 0] 61)).alloc (.cells #[] 269):=⟨_,rfl⟩
 have e0:(((w.alloc (.cells #[.int .i64 c.iss,.int .i64 c.acq,.int .i64 c.cur,.int .i64 c.am,.int .i64 c.st,.int .i64 c.rsn,.int .i64 c.cl,.int .i64 c.bk,.int .i64 c.fee,.bool c.cop,.int .i64 c.sta,.int .i64 c.due] 61)).alloc (.cells #[.int .i64 a.kind,.int .i64 a.am,.int .i64 a.rsn] 165)).alloc (.cells #[.int .i64 0,.int .i64 0,.int .i64 0,.int .i64 0,.int .i64 0,.int .i64 0,.int .i64 0,.int .i64 0,.int .i64 0,.bool false,.int .i64 0,.int .i64 0] 61)).heap.size=w.heap.size+1+1+1:=by simp
 have HX:Hid (BX w.heap.size c a W):=by rw [Hid,hW];exact (BX.new w c a _ _ _).below (bR.alloc nL _)
 have HNW:Hid (W.ownsRow (w.heap.size+1+1+1) 269 4 (.slice (some ⟨w.heap.size+1+1+1,0,none⟩) 0 0) 0 []):=by rw [Hid,hW];exact Lf _ _ _ e0.symm (by rw [e0];omega)
 have HBW:Hid (BW w W):=by rw [Hid,hW];go_grown
 have HI:Hid (Aw w ao zs):=hx
 have HOK:Hid (∀ u,Calls prog 219 #[cv c] u fun e w'=>e=.returned (.bool (Ao c))∧BW u w'):=fun u=>J6 c u
 have HCO:Hid (0≤a.kind∧a.kind≤9→∀ u,BW w u→Calls prog 221 #[cv c,av a,.int .i64 t,.slice ao zs.length cp] u fun e w'=>e=.returned (.int .i64 (B4 c a t zs))∧BW u w'):=fun hk u hu=>fX c a t ao cp zs u (hx.below hu) hn hk
 have HM3:Hid (B4 c a t zs=0→a.kind=3→1≤a.am∧a.am≤c.cl):=sO;have HM7:Hid (B4 c a t zs=0→a.kind=7→0≤a.am∧a.am≤c.cl):=sV;obtain ⟨k,m,r⟩:=a;obtain ⟨iY,aZ,uV,am,st,rJ,cl,bk,fW,cW,sS,dX⟩:=c;unfold cv av;unfold cv at HOK;unfold cv av at HCO
 simp only at hW HOK HCO HM3 HM7 ⊢
 have HW:Hid _:=hW;clear hx hW e0
 go_enter func184,ntmps184
 go_upto_region 2 with fail
 rw [← HW.o];clear HW;obtain ⟨⟨f0,f1,f2,f3,f4,f5,f6,f7,f8,f9,f10,f11⟩,k0,k1,k2,⟨g0,g1,g2,g3,g4,g5,g6,g7,g8,g9,g10,g11⟩,⟨z0,z1,z2,z3,z4,z5,z6,z7,z8,z9,z10,z11⟩⟩:=HX.o
 simp only [Nat.zero_add,Br] at f0 f1 f2 f3 f4 f5 f6 f7 f8 f9 f10 f11 g0 g1 g2 g3 g4 g5 g6 g7 g8 g9 g10 g11 z0 z1 z2 z3 z4 z5 z6 z7 z8 z9 z10 z11 k0 k1 k2
 go_wp2_with fail
 refine (HOK.o _).mono ?_;rintro e w1 ⟨rfl,b1⟩;have HX1:Hid (BX w.heap.size ⟨iY,aZ,uV,am,st,rJ,cl,bk,fW,cW,sS,dX⟩ ⟨k,m,r⟩ w1):=HX.o.below b1;have HB:Hid (BW w w1):=next HBW.o b1;have HNO:Hid (w1.ownsRow (w.heap.size+1+1+1) 269 4 (.slice (some ⟨w.heap.size+1+1+1,0,none⟩) 0 0) 0 []):=Av HNW.o b1;clear b1 f0 f1 f2 f3 f4 f5 f6 f7 f8 f9 f10 f11 g0 g1 g2 g3 g4 g5 g6 g7 g8 g9 g10 g11 z0 z1 z2 z3 z4 z5 z6 z7 z8 z9 z10 z11 k0 k1 k2 HX HBW HNW;obtain ⟨⟨f0,f1,f2,f3,f4,f5,f6,f7,f8,f9,f10,f11⟩,k0,k1,k2,⟨g0,g1,g2,g3,g4,g5,g6,g7,g8,g9,g10,g11⟩,⟨z0,z1,z2,z3,z4,z5,z6,z7,z8,z9,z10,z11⟩⟩:=HX1.o
 simp only [Nat.zero_add,Br] at f0 f1 f2 f3 f4 f5 f6 f7 f8 f9 f10 f11 g0 g1 g2 g3 g4 g5 g6 g7 g8 g9 g10 g11 z0 z1 z2 z3 z4 z5 z6 z7 z8 z9 z10 z11 k0 k1 k2
 cases h1:Ao ⟨iY,aZ,uV,am,st,rJ,cl,bk,fW,cW,sS,dX⟩
 ·have HV:Hid (doV ⟨iY,aZ,uV,am,st,rJ,cl,bk,fW,cW,sS,dX⟩ ⟨k,m,r⟩ t zs=5):=if_pos (by simp [D7,h1])
  have HC:Hid (doC ⟨iY,aZ,uV,am,st,rJ,cl,bk,fW,cW,sS,dX⟩ ⟨k,m,r⟩ t zs=⟨iY,aZ,uV,am,st,rJ,cl,bk,fW,cW,sS,dX⟩):=if_neg (by rw [HV.o];decide)
  have HE:Hid (doE ⟨iY,aZ,uV,am,st,rJ,cl,bk,fW,cW,sS,dX⟩ ⟨k,m,r⟩ t zs=[]):=if_neg (by rw [HV.o];decide)
  clear h1;go_wp2
  refine bodyPost_ret (by simp [results,results184,go_sem,g0,g1,g2,g3,g4,g5,g6,g7,g8,g9,g10,g11];try rfl) rfl ?_
  rw [HC.o,HE.o,HV.o]
  exact Ek (c:=⟨iY,aZ,uV,am,st,rJ,cl,bk,fW,cW,sS,dX⟩) (es:=[]) (base:=w.heap.size+1+1+1) (by omega) HNO.o HB.o
 go_wp2_with fail
 refine (A9 t _).mono ?_;rintro e w2 ⟨rfl,hw⟩;rw [hw];clear hw
 cases h2:Dn t
 ·have HV:Hid (doV ⟨iY,aZ,uV,am,st,rJ,cl,bk,fW,cW,sS,dX⟩ ⟨k,m,r⟩ t zs=5):=if_pos (by simp [D7,h2])
  have HC:Hid (doC ⟨iY,aZ,uV,am,st,rJ,cl,bk,fW,cW,sS,dX⟩ ⟨k,m,r⟩ t zs=⟨iY,aZ,uV,am,st,rJ,cl,bk,fW,cW,sS,dX⟩):=if_neg (by rw [HV.o];decide)
  have HE:Hid (doE ⟨iY,aZ,uV,am,st,rJ,cl,bk,fW,cW,sS,dX⟩ ⟨k,m,r⟩ t zs=[]):=if_neg (by rw [HV.o];decide)
  clear h1 h2;go_wp2
  refine bodyPost_ret (by simp [results,results184,go_sem,g0,g1,g2,g3,g4,g5,g6,g7,g8,g9,g10,g11];try rfl) rfl ?_
  rw [HC.o,HE.o,HV.o]
  exact Ek (c:=⟨iY,aZ,uV,am,st,rJ,cl,bk,fW,cW,sS,dX⟩) (es:=[]) (base:=w.heap.size+1+1+1) (by omega) HNO.o HB.o
 by_cases h3:t<sS
 ·have HV:Hid (doV ⟨iY,aZ,uV,am,st,rJ,cl,bk,fW,cW,sS,dX⟩ ⟨k,m,r⟩ t zs=5):=if_pos (by have g:¬ sS≤t:=(by omega);simp [D7,g])
  have HC:Hid (doC ⟨iY,aZ,uV,am,st,rJ,cl,bk,fW,cW,sS,dX⟩ ⟨k,m,r⟩ t zs=⟨iY,aZ,uV,am,st,rJ,cl,bk,fW,cW,sS,dX⟩):=if_neg (by rw [HV.o];decide)
  have HE:Hid (doE ⟨iY,aZ,uV,am,st,rJ,cl,bk,fW,cW,sS,dX⟩ ⟨k,m,r⟩ t zs=[]):=if_neg (by rw [HV.o];decide)
  clear h1 h2;go_wp2
  refine bodyPost_ret (by simp [results,results184,go_sem,g0,g1,g2,g3,g4,g5,g6,g7,g8,g9,g10,g11];try rfl) rfl ?_
  rw [HC.o,HE.o,HV.o]
  exact Ek (c:=⟨iY,aZ,uV,am,st,rJ,cl,bk,fW,cW,sS,dX⟩) (es:=[]) (base:=w.heap.size+1+1+1) (by omega) HNO.o HB.o
 have h3':¬ t<sS:=h3;go_wp2_with fail
 refine (Rk ao cp zs _ (HI.o.below HB.o) hn).mono ?_;rintro e w3 ⟨rfl,b3⟩;replace HX1:Hid (BX w.heap.size ⟨iY,aZ,uV,am,st,rJ,cl,bk,fW,cW,sS,dX⟩ ⟨k,m,r⟩ w3):=HX1.o.below b3;replace HB:Hid (BW w w3):=next HB.o b3;replace HNO:Hid (w3.ownsRow (w.heap.size+1+1+1) 269 4 (.slice (some ⟨w.heap.size+1+1+1,0,none⟩) 0 0) 0 []):=Av HNO.o b3;clear b3 f0 f1 f2 f3 f4 f5 f6 f7 f8 f9 f10 f11 g0 g1 g2 g3 g4 g5 g6 g7 g8 g9 g10 g11 z0 z1 z2 z3 z4 z5 z6 z7 z8 z9 z10 z11 k0 k1 k2;obtain ⟨⟨f0,f1,f2,f3,f4,f5,f6,f7,f8,f9,f10,f11⟩,k0,k1,k2,⟨g0,g1,g2,g3,g4,g5,g6,g7,g8,g9,g10,g11⟩,⟨z0,z1,z2,z3,z4,z5,z6,z7,z8,z9,z10,z11⟩⟩:=HX1.o
 simp only [Nat.zero_add,Br] at f0 f1 f2 f3 f4 f5 f6 f7 f8 f9 f10 f11 g0 g1 g2 g3 g4 g5 g6 g7 g8 g9 g10 g11 z0 z1 z2 z3 z4 z5 z6 z7 z8 z9 z10 z11 k0 k1 k2
 cases h4:Ct zs
 ·have HV:Hid (doV ⟨iY,aZ,uV,am,st,rJ,cl,bk,fW,cW,sS,dX⟩ ⟨k,m,r⟩ t zs=5):=if_pos (by simp [D7,h4])
  have HC:Hid (doC ⟨iY,aZ,uV,am,st,rJ,cl,bk,fW,cW,sS,dX⟩ ⟨k,m,r⟩ t zs=⟨iY,aZ,uV,am,st,rJ,cl,bk,fW,cW,sS,dX⟩):=if_neg (by rw [HV.o];decide)
  have HE:Hid (doE ⟨iY,aZ,uV,am,st,rJ,cl,bk,fW,cW,sS,dX⟩ ⟨k,m,r⟩ t zs=[]):=if_neg (by rw [HV.o];decide)
  clear h1 h2 h3 h4;go_wp2
  refine bodyPost_ret (by simp [results,results184,go_sem,g0,g1,g2,g3,g4,g5,g6,g7,g8,g9,g10,g11];try rfl) rfl ?_
  rw [HC.o,HE.o,HV.o]
  exact Ek (c:=⟨iY,aZ,uV,am,st,rJ,cl,bk,fW,cW,sS,dX⟩) (es:=[]) (base:=w.heap.size+1+1+1) (by omega) HNO.o HB.o
 have HDAY:Hid (D7 ⟨iY,aZ,uV,am,st,rJ,cl,bk,fW,cW,sS,dX⟩ t zs=true):=by
  have g:sS≤t:=by omega
  simp [Hid,D7,h1,h2,g,h4]
 have HOKC:Hid (Ao ⟨iY,aZ,uV,am,st,rJ,cl,bk,fW,cW,sS,dX⟩=true):=h1;clear h1 h2 h3 h4;go_wp2_with fail
 clear h3';refine (oU st k _).mono ?_;rintro e w5 ⟨rfl,hw⟩;rw [hw];clear hw
 cases h5:Dx st k
 ·have HV:Hid (doV ⟨iY,aZ,uV,am,st,rJ,cl,bk,fW,cW,sS,dX⟩ ⟨k,m,r⟩ t zs=1):=by rw [Hid,doV,if_neg (by rw [HDAY.o];decide),if_pos h5]
  have HC:Hid (doC ⟨iY,aZ,uV,am,st,rJ,cl,bk,fW,cW,sS,dX⟩ ⟨k,m,r⟩ t zs=⟨iY,aZ,uV,am,st,rJ,cl,bk,fW,cW,sS,dX⟩):=if_neg (by rw [HV.o];decide)
  have HE:Hid (doE ⟨iY,aZ,uV,am,st,rJ,cl,bk,fW,cW,sS,dX⟩ ⟨k,m,r⟩ t zs=[]):=if_neg (by rw [HV.o];decide)
  clear h5;go_wp2
  refine bodyPost_ret (by simp [results,results184,go_sem,g0,g1,g2,g3,g4,g5,g6,g7,g8,g9,g10,g11];try rfl) rfl ?_
  rw [HC.o,HE.o,HV.o]
  exact Ek (c:=⟨iY,aZ,uV,am,st,rJ,cl,bk,fW,cW,sS,dX⟩) (es:=[]) (base:=w.heap.size+1+1+1) (by omega) HNO.o HB.o
 have HOF:Hid (Dx st k=true):=h5
 have HKR:Hid (0≤k∧k≤9):=by have:=Jt h5;rw [Hid];omega
 clear h5;go_wp2_with fail
 refine (HCO.o HKR.o _ HB.o).mono ?_;rintro e w4 ⟨rfl,b4⟩;replace HX1:Hid (BX w.heap.size ⟨iY,aZ,uV,am,st,rJ,cl,bk,fW,cW,sS,dX⟩ ⟨k,m,r⟩ w4):=HX1.o.below b4;replace HB:Hid (BW w w4):=next HB.o b4;replace HNO:Hid (w4.ownsRow (w.heap.size+1+1+1) 269 4 (.slice (some ⟨w.heap.size+1+1+1,0,none⟩) 0 0) 0 []):=Av HNO.o b4;clear b4 f0 f1 f2 f3 f4 f5 f6 f7 f8 f9 f10 f11 g0 g1 g2 g3 g4 g5 g6 g7 g8 g9 g10 g11 z0 z1 z2 z3 z4 z5 z6 z7 z8 z9 z10 z11 k0 k1 k2 HCO HOK;obtain ⟨⟨f0,f1,f2,f3,f4,f5,f6,f7,f8,f9,f10,f11⟩,k0,k1,k2,⟨g0,g1,g2,g3,g4,g5,g6,g7,g8,g9,g10,g11⟩,⟨z0,z1,z2,z3,z4,z5,z6,z7,z8,z9,z10,z11⟩⟩:=HX1.o
 simp only [Nat.zero_add,Br] at f0 f1 f2 f3 f4 f5 f6 f7 f8 f9 f10 f11 g0 g1 g2 g3 g4 g5 g6 g7 g8 g9 g10 g11 z0 z1 z2 z3 z4 z5 z6 z7 z8 z9 z10 z11 k0 k1 k2
 obtain ⟨cd,hcd⟩:∃ cd,B4 ⟨iY,aZ,uV,am,st,rJ,cl,bk,fW,cW,sS,dX⟩ ⟨k,m,r⟩ t zs=cd:=⟨_,rfl⟩;have HCD:Hid _:=hcd;rw [hcd] at HM3 HM7 ⊢;clear hcd
 by_cases h0:cd=0
 rotate_left
 ·have HV:Hid (doV ⟨iY,aZ,uV,am,st,rJ,cl,bk,fW,cW,sS,dX⟩ ⟨k,m,r⟩ t zs=cd):=by rw [Hid,doV,if_neg (by rw [HDAY.o];decide),if_neg (by rw [HOF.o];decide),if_pos (by rw [HCD.o];exact h0),HCD.o]
  have HC:Hid (doC ⟨iY,aZ,uV,am,st,rJ,cl,bk,fW,cW,sS,dX⟩ ⟨k,m,r⟩ t zs=⟨iY,aZ,uV,am,st,rJ,cl,bk,fW,cW,sS,dX⟩):=if_neg (by rw [HV.o];exact h0)
  have HE:Hid (doE ⟨iY,aZ,uV,am,st,rJ,cl,bk,fW,cW,sS,dX⟩ ⟨k,m,r⟩ t zs=[]):=if_neg (by rw [HV.o];exact h0)
  have h0':(cd != 0)=true:=by simpa using h0
  clear h0;go_wp2
  refine bodyPost_ret (by simp [results,results184,go_sem,g0,g1,g2,g3,g4,g5,g6,g7,g8,g9,g10,g11];try rfl) rfl ?_
  rw [HC.o,HE.o,HV.o]
  exact Ek (c:=⟨iY,aZ,uV,am,st,rJ,cl,bk,fW,cW,sS,dX⟩) (es:=[]) (base:=w.heap.size+1+1+1) (by omega) HNO.o HB.o
 subst h0;obtain ⟨V,hV⟩:∃ V,V=w4.alloc (.cells #[.int .i64 iY,.int .i64 aZ,.int .i64 uV,.int .i64 am,.int .i64 st,.int .i64 rJ,.int .i64 cl,.int .i64 bk,.int .i64 fW,.bool cW,.int .i64 sS,.int .i64 dX] 61):=⟨_,rfl⟩
 have bV:BW w4 V:=by rw [hV];exact bR.alloc nL _
 have hpp:=Jb HOKC.o
 simp only at hpp
 obtain ⟨_,_,_,_,hp1,_,_,hp2,hp3,hp4,_,_⟩:=hpp
 have HBK:Hid (0≤bk∧bk≤1000000000000):=⟨by omega,by omega⟩
 have HCLA:Hid (0≤cl∧cl≤1000000000000):=⟨by omega,by omega⟩
 have HFE:Hid (0≤fW∧fW≤1000000):=⟨by omega,by omega⟩
 replace HM3:Hid (k=3→1≤m∧m≤1000000000000):=fun hk=>by have:=HM3.o rfl hk;omega
 replace HM7:Hid (k=7→0≤m∧m≤1000000000000):=fun hk=>by have:=HM7.o rfl hk;omega
 obtain ⟨h,hh⟩:∃ h,h=w4.heap.size:=⟨_,rfl⟩;obtain ⟨g,hg⟩:∃ g,g=w.heap.size+1+1+1:=⟨_,rfl⟩
 have HQ:Hid (QS w h g ⟨iY,aZ,uV,am,st,rJ,cl,bk,fW,cW,sS,dX⟩ ⟨k,m,r⟩ ⟨iY,aZ,uV,am,st,rJ,cl,bk,fW,cW,sS,dX⟩ V):=by
  refine ⟨HX1.o.below bV,⟨?_,?_⟩,by rw [hg];exact Av HNO.o bV,by rw [hh];exact HX1.o.rb.lt,?_,next HB.o bV⟩
  ·rw [hV,hh];exact CB.new w4 ⟨iY,aZ,uV,am,st,rJ,cl,bk,fW,cW,sS,dX⟩ _
  ·rw [hV,hh];exact FZ.new w4 _ _
  ·have h1:w.heap.size+1+1+1<w4.heap.size:=(HNO.o.lt (w.heap.size+1+1+1) rfl).2
   rw [hg,hh];exact Nat.ne_of_lt h1
 have HVV:Hid _:=hV;clear hV bV hp1 hp2 hp3 hp4 HNO HX1 HB;go_upto_region 11 with fail
 rw [← HVV.o,← hh];have HGG:Hid (w.heap.size+1+1+1=g):=hg.symm;rw [HGG.o];clear HVV hh hg f0 f1 f2 f3 f4 f5 f6 f7 f8 f9 f10 f11 g0 g1 g2 g3 g4 g5 g6 g7 g8 g9 g10 g11 z0 z1 z2 z3 z4 z5 z6 z7 z8 z9 z10 z11 k0 k1 k2;obtain ⟨⟨f0,f1,f2,f3,f4,f5,f6,f7,f8,f9,f10,f11⟩,k0,k1,k2,_,_⟩:=HQ.o.bx
 simp only [Nat.zero_add] at f0 f1 f2 f3 f4 f5 f6 f7 f8 f9 f10 f11 k0 k1 k2
 go_upto_block 0 with fail
 go_cut [14] (fun v wc=>SW w h g ⟨iY,aZ,uV,am,st,rJ,cl,bk,fW,cW,sS,dX⟩ ⟨k,m,r⟩ (Bx ⟨iY,aZ,uV,am,st,rJ,cl,bk,fW,cW,sS,dX⟩ ⟨k,m,r⟩ t zs) (Bw ⟨iY,aZ,uV,am,st,rJ,cl,bk,fW,cW,sS,dX⟩ ⟨k,m,r⟩) v wc)
 case first =>
  have hkr:=HKR.o
  rcases (show k=0∨k=1∨k=2∨k=3∨k=4∨k=5∨k=6∨k=7∨k=8∨k=9 by omega) with rfl | rfl | rfl | rfl | rfl | rfl | rfl | rfl | rfl | rfl
  all_goals clear hkr
  ·have HN:Hid (Bx ⟨iY,aZ,uV,am,st,rJ,cl,bk,fW,cW,sS,dX⟩ ⟨0,m,r⟩ t zs=⟨iY,aZ,uV,am,1,rJ,cl,bk,fW,cW,sS,C6 t 20 zs⟩):=by simp [Hid,Bx]
   have HEE:Hid (Bw ⟨iY,aZ,uV,am,st,rJ,cl,bk,fW,cW,sS,dX⟩ ⟨0,m,r⟩=[]):=by simp [Hid,Bw]
   obtain ⟨p0,p1,p2,p3,p4,p5,p6,p7,p8,p9,p10,p11⟩:=HQ.o.nb.cb;obtain ⟨y0,y1,y2,y3,y4,y5,y6,y7,y8,y9,y10,y11⟩:=HQ.o.nb.fz
   simp only [Nat.zero_add] at p0 p1 p2 p3 p4 p5 p6 p7 p8 p9 p10 p11 y0 y1 y2 y3 y4 y5 y6 y7 y8 y9 y10 y11
   go_wp2_with fail
   refine (I1 4 _).mono ?_;rintro e u1 ⟨rfl,b1⟩
   rw [show Ki 4=20 from rfl]
   have HQ1:Hid _:=((HQ.o.at 4 (.int .i64 1) (HQ.o.nb.set4 1))).below b1;clear b1;go_wp2_with fail
   refine (Ir t 20 ao cp zs _ (HI.o.below HQ1.o.bel) hn).mono ?_;rintro e u2 ⟨rfl,b2⟩;have HQ2:Hid _:=HQ1.o.below b2;have y11:=HQ2.o.nb.fz.z11;have q11:=HQ2.o.nb.cb.f11
   simp only [Nat.zero_add] at q11 y11
   clear b2;go_wp2;go_meet;rw [HN.o,HEE.o];exact ⟨some ⟨g,0,none⟩,0,rfl,(HQ2.o.at 11 (.int .i64 (C6 t 20 zs)) (HQ2.o.nb.set11 (C6 t 20 zs))),((HQ2.o.at 11 (.int .i64 (C6 t 20 zs)) (HQ2.o.nb.set11 (C6 t 20 zs)))).no⟩
  ·have HN:Hid (Bx ⟨iY,aZ,uV,am,st,rJ,cl,bk,fW,cW,sS,dX⟩ ⟨1,m,r⟩ t zs=J9 ⟨iY,aZ,uV,am,st,rJ,cl,bk,fW,cW,sS,dX⟩):=by simp [Hid,Bx]
   have HEE:Hid (Bw ⟨iY,aZ,uV,am,st,rJ,cl,bk,fW,cW,sS,dX⟩ ⟨1,m,r⟩=[]):=by simp [Hid,Bw]
   obtain ⟨p0,p1,p2,p3,p4,p5,p6,p7,p8,p9,p10,p11⟩:=HQ.o.nb.cb;obtain ⟨y0,y1,y2,y3,y4,y5,y6,y7,y8,y9,y10,y11⟩:=HQ.o.nb.fz
   simp only [Nat.zero_add] at p0 p1 p2 p3 p4 p5 p6 p7 p8 p9 p10 p11 y0 y1 y2 y3 y4 y5 y6 y7 y8 y9 y10 y11
   go_wp2;go_meet;rw [HN.o,HEE.o];exact ⟨some ⟨g,0,none⟩,0,rfl,(((HQ.o.at 4 (.int .i64 2) (HQ.o.nb.set4 2)).at 9 (.bool true) ((HQ.o.at 4 (.int .i64 2) (HQ.o.nb.set4 2)).nb.set9 true)).at 11 (.int .i64 (-1)) (((HQ.o.at 4 (.int .i64 2) (HQ.o.nb.set4 2)).at 9 (.bool true) ((HQ.o.at 4 (.int .i64 2) (HQ.o.nb.set4 2)).nb.set9 true)).nb.set11 (-1))),((((HQ.o.at 4 (.int .i64 2) (HQ.o.nb.set4 2)).at 9 (.bool true) ((HQ.o.at 4 (.int .i64 2) (HQ.o.nb.set4 2)).nb.set9 true)).at 11 (.int .i64 (-1)) (((HQ.o.at 4 (.int .i64 2) (HQ.o.nb.set4 2)).at 9 (.bool true) ((HQ.o.at 4 (.int .i64 2) (HQ.o.nb.set4 2)).nb.set9 true)).nb.set11 (-1)))).no⟩
  ·have HN:Hid (Bx ⟨iY,aZ,uV,am,st,rJ,cl,bk,fW,cW,sS,dX⟩ ⟨2,m,r⟩ t zs=⟨iY,aZ,uV,am,3,r,m,m,fW,cW,sS,C6 t 30 zs⟩):=by simp [Hid,Bx]
   have HEE:Hid (Bw ⟨iY,aZ,uV,am,st,rJ,cl,bk,fW,cW,sS,dX⟩ ⟨2,m,r⟩=Bg ⟨iY,aZ,uV,am,st,rJ,cl,bk,fW,cW,sS,dX⟩ m):=by simp [Hid,Bw]
   obtain ⟨p0,p1,p2,p3,p4,p5,p6,p7,p8,p9,p10,p11⟩:=HQ.o.nb.cb;obtain ⟨y0,y1,y2,y3,y4,y5,y6,y7,y8,y9,y10,y11⟩:=HQ.o.nb.fz
   simp only [Nat.zero_add] at p0 p1 p2 p3 p4 p5 p6 p7 p8 p9 p10 p11 y0 y1 y2 y3 y4 y5 y6 y7 y8 y9 y10 y11
   go_wp2_with fail
   refine (I1 0 _).mono ?_;rintro e u1 ⟨rfl,b1⟩
   rw [show Ki 0=30 from rfl]
   have HQ1:Hid _:=((((HQ.o.at 4 (.int .i64 3) (HQ.o.nb.set4 3)).at 5 (.int .i64 r) ((HQ.o.at 4 (.int .i64 3) (HQ.o.nb.set4 3)).nb.set5 r)).at 6 (.int .i64 m) (((HQ.o.at 4 (.int .i64 3) (HQ.o.nb.set4 3)).at 5 (.int .i64 r) ((HQ.o.at 4 (.int .i64 3) (HQ.o.nb.set4 3)).nb.set5 r)).nb.set6 m)).at 7 (.int .i64 m) ((((HQ.o.at 4 (.int .i64 3) (HQ.o.nb.set4 3)).at 5 (.int .i64 r) ((HQ.o.at 4 (.int .i64 3) (HQ.o.nb.set4 3)).nb.set5 r)).at 6 (.int .i64 m) (((HQ.o.at 4 (.int .i64 3) (HQ.o.nb.set4 3)).at 5 (.int .i64 r) ((HQ.o.at 4 (.int .i64 3) (HQ.o.nb.set4 3)).nb.set5 r)).nb.set6 m)).nb.set7 m)).below b1;clear b1;go_wp2_with fail
   refine (Ir t 30 ao cp zs _ (HI.o.below HQ1.o.bel) hn).mono ?_;rintro e u2 ⟨rfl,b2⟩;have HQ2:Hid _:=HQ1.o.below b2;have y11:=HQ2.o.nb.fz.z11;have q11:=HQ2.o.nb.cb.f11
   simp only [Nat.zero_add] at q11 y11
   clear b2;have HQ3:Hid _:=HQ2.o.at 11 (.int .i64 (C6 t 30 zs)) (HQ2.o.nb.set11 (C6 t 30 zs));obtain ⟨⟨e0,e1,e2,e3,e4,e5,e6,e7,e8,e9,e10,e11⟩,l0,l1,l2,_,_⟩:=HQ3.o.bx
   simp only [Nat.zero_add] at e0 e1 e2 e3 e4 e5 e6 e7 e8 e9 e10 e11 l0 l1 l2
   go_wp2_with fail
   refine (dA ⟨iY,aZ,uV,am,st,rJ,cl,bk,fW,cW,sS,dX⟩ m _).mono ?_;rintro e u3 ⟨ae,ke,rfl,oe,b3⟩;have HQ4:Hid _:=HQ3.o.below b3
   have HO4:Hid _:=Bi oe (show w.heap.size+1+1+1≤_ from HQ3.o.bx.rb.lt)
   clear oe b3;go_wp2;go_meet;rw [HN.o,HEE.o];exact ⟨ae,ke,rfl,HQ4.o,HO4.o⟩
  ·have HN:Hid (Bx ⟨iY,aZ,uV,am,st,rJ,cl,bk,fW,cW,sS,dX⟩ ⟨3,m,r⟩ t zs=⟨iY,aZ,uV,am,4,rJ,m,bk - m,fW,cW,sS,C6 t 30 zs⟩):=by simp [Hid,Bx]
   have HEE:Hid (Bw ⟨iY,aZ,uV,am,st,rJ,cl,bk,fW,cW,sS,dX⟩ ⟨3,m,r⟩=Dw ⟨iY,aZ,uV,am,st,rJ,cl,bk,fW,cW,sS,dX⟩ m):=by simp [Hid,Bw]
   have hm3:=HM3.o rfl;have hbk:=HBK.o;obtain ⟨p0,p1,p2,p3,p4,p5,p6,p7,p8,p9,p10,p11⟩:=HQ.o.nb.cb;obtain ⟨y0,y1,y2,y3,y4,y5,y6,y7,y8,y9,y10,y11⟩:=HQ.o.nb.fz
   simp only [Nat.zero_add] at p0 p1 p2 p3 p4 p5 p6 p7 p8 p9 p10 p11 y0 y1 y2 y3 y4 y5 y6 y7 y8 y9 y10 y11
   go_wp2_with fail
   refine (I1 1 _).mono ?_;rintro e u1 ⟨rfl,b1⟩
   rw [show Ki 1=30 from rfl]
   have HQ1:Hid _:=(((HQ.o.at 4 (.int .i64 4) (HQ.o.nb.set4 4)).at 6 (.int .i64 m) ((HQ.o.at 4 (.int .i64 4) (HQ.o.nb.set4 4)).nb.set6 m)).at 7 (.int .i64 (bk - m)) (((HQ.o.at 4 (.int .i64 4) (HQ.o.nb.set4 4)).at 6 (.int .i64 m) ((HQ.o.at 4 (.int .i64 4) (HQ.o.nb.set4 4)).nb.set6 m)).nb.set7 (bk - m))).below b1;clear b1;go_wp2_with fail
   refine (Ir t 30 ao cp zs _ (HI.o.below HQ1.o.bel) hn).mono ?_;rintro e u2 ⟨rfl,b2⟩;have HQ2:Hid _:=HQ1.o.below b2;have y11:=HQ2.o.nb.fz.z11;have q11:=HQ2.o.nb.cb.f11
   simp only [Nat.zero_add] at q11 y11
   clear b2;have HQ3:Hid _:=HQ2.o.at 11 (.int .i64 (C6 t 30 zs)) (HQ2.o.nb.set11 (C6 t 30 zs));obtain ⟨⟨e0,e1,e2,e3,e4,e5,e6,e7,e8,e9,e10,e11⟩,l0,l1,l2,_,_⟩:=HQ3.o.bx
   simp only [Nat.zero_add] at e0 e1 e2 e3 e4 e5 e6 e7 e8 e9 e10 e11 l0 l1 l2
   go_wp2_with fail
   refine (jZ ⟨iY,aZ,uV,am,st,rJ,cl,bk,fW,cW,sS,dX⟩ m _).mono ?_;rintro e u3 ⟨ae,ke,rfl,oe,b3⟩;have HQ4:Hid _:=HQ3.o.below b3
   have HO4:Hid _:=Bi oe (show w.heap.size+1+1+1≤_ from HQ3.o.bx.rb.lt)
   clear oe b3;go_wp2;go_meet;rw [HN.o,HEE.o];exact ⟨ae,ke,rfl,HQ4.o,HO4.o⟩
  ·have HN:Hid (Bx ⟨iY,aZ,uV,am,st,rJ,cl,bk,fW,cW,sS,dX⟩ ⟨4,m,r⟩ t zs=⟨iY,aZ,uV,am,5,rJ,m,bk,fW,cW,sS,C6 t 15 zs⟩):=by simp [Hid,Bx]
   have HEE:Hid (Bw ⟨iY,aZ,uV,am,st,rJ,cl,bk,fW,cW,sS,dX⟩ ⟨4,m,r⟩=[]):=by simp [Hid,Bw]
   obtain ⟨p0,p1,p2,p3,p4,p5,p6,p7,p8,p9,p10,p11⟩:=HQ.o.nb.cb;obtain ⟨y0,y1,y2,y3,y4,y5,y6,y7,y8,y9,y10,y11⟩:=HQ.o.nb.fz
   simp only [Nat.zero_add] at p0 p1 p2 p3 p4 p5 p6 p7 p8 p9 p10 p11 y0 y1 y2 y3 y4 y5 y6 y7 y8 y9 y10 y11
   go_wp2_with fail
   refine (I1 2 _).mono ?_;rintro e u1 ⟨rfl,b1⟩
   rw [show Ki 2=15 from rfl]
   have HQ1:Hid _:=((HQ.o.at 4 (.int .i64 5) (HQ.o.nb.set4 5)).at 6 (.int .i64 m) ((HQ.o.at 4 (.int .i64 5) (HQ.o.nb.set4 5)).nb.set6 m)).below b1;clear b1;go_wp2_with fail
   refine (Ir t 15 ao cp zs _ (HI.o.below HQ1.o.bel) hn).mono ?_;rintro e u2 ⟨rfl,b2⟩;have HQ2:Hid _:=HQ1.o.below b2;have y11:=HQ2.o.nb.fz.z11;have q11:=HQ2.o.nb.cb.f11
   simp only [Nat.zero_add] at q11 y11
   clear b2;go_wp2;go_meet;rw [HN.o,HEE.o];exact ⟨some ⟨g,0,none⟩,0,rfl,(HQ2.o.at 11 (.int .i64 (C6 t 15 zs)) (HQ2.o.nb.set11 (C6 t 15 zs))),((HQ2.o.at 11 (.int .i64 (C6 t 15 zs)) (HQ2.o.nb.set11 (C6 t 15 zs)))).no⟩
  ·have HN:Hid (Bx ⟨iY,aZ,uV,am,st,rJ,cl,bk,fW,cW,sS,dX⟩ ⟨5,m,r⟩ t zs=I5 ⟨iY,aZ,uV,am,st,rJ,cl,bk,fW,cW,sS,dX⟩ cl):=by simp [Hid,Bx]
   have HEE:Hid (Bw ⟨iY,aZ,uV,am,st,rJ,cl,bk,fW,cW,sS,dX⟩ ⟨5,m,r⟩=Bg ⟨iY,aZ,uV,am,st,rJ,cl,bk,fW,cW,sS,dX⟩ cl):=by simp [Hid,Bw]
   have HCL:Hid (∀ u,Calls prog 225 #[cv ⟨iY,aZ,uV,am,st,rJ,cl,bk,fW,cW,sS,dX⟩,.int .i64 cl] u (Gr u (I5 ⟨iY,aZ,uV,am,st,rJ,cl,bk,fW,cW,sS,dX⟩ cl) (Bg ⟨iY,aZ,uV,am,st,rJ,cl,bk,fW,cW,sS,dX⟩ cl))):=fun u=>M8 ⟨iY,aZ,uV,am,st,rJ,cl,bk,fW,cW,sS,dX⟩ cl u HBK.o HCLA.o
   unfold Gr at HCL;obtain ⟨n,hn1⟩:∃ n,Bx ⟨iY,aZ,uV,am,st,rJ,cl,bk,fW,cW,sS,dX⟩ ⟨5,m,r⟩ t zs=n:=⟨_,rfl⟩;obtain ⟨E,hE1⟩:∃ E,Bw ⟨iY,aZ,uV,am,st,rJ,cl,bk,fW,cW,sS,dX⟩ ⟨5,m,r⟩=E:=⟨_,rfl⟩;have HN1:Hid _:=hn1;have HE1:Hid _:=hE1;rw [← HN.o,← HEE.o,hn1,hE1] at HCL;clear hn1 hE1;obtain ⟨n0,n1,n2,n3,n4,n5,n6,n7,n8,n9,n10,n11⟩:=n;unfold cv at HCL
   simp only at HCL
   obtain ⟨p0,p1,p2,p3,p4,p5,p6,p7,p8,p9,p10,p11⟩:=HQ.o.nb.cb;obtain ⟨y0,y1,y2,y3,y4,y5,y6,y7,y8,y9,y10,y11⟩:=HQ.o.nb.fz
   simp only [Nat.zero_add] at p0 p1 p2 p3 p4 p5 p6 p7 p8 p9 p10 p11 y0 y1 y2 y3 y4 y5 y6 y7 y8 y9 y10 y11
   go_wp2_with fail
   refine (HCL.o _).mono ?_;rintro e u3 ⟨ae,ke,rfl,oe,b3⟩;have HQ4:Hid _:=HQ.o.below b3
   have HO4:Hid _:=Bi oe (show w.heap.size+1+1+1≤_ from HQ.o.bx.rb.lt)
   have HG4:Hid (∀ j,(Value.slice ae E.length ke).ownBlock=some j→j≠h):=fun j hj=>by have:=(oe.lt j hj).1;have:=HQ.o.nb.cb.lt;omega
   clear oe b3 p0 p1 p2 p3 p4 p5 p6 p7 p8 p9 p10 p11 y0 y1 y2 y3 y4 y5 y6 y7 y8 y9 y10 y11;obtain ⟨p0,p1,p2,p3,p4,p5,p6,p7,p8,p9,p10,p11⟩:=HQ4.o.nb.cb;obtain ⟨y0,y1,y2,y3,y4,y5,y6,y7,y8,y9,y10,y11⟩:=HQ4.o.nb.fz
   simp only [Nat.zero_add] at p0 p1 p2 p3 p4 p5 p6 p7 p8 p9 p10 p11 y0 y1 y2 y3 y4 y5 y6 y7 y8 y9 y10 y11
   go_wp2;go_meet;rw [HN1.o,HE1.o];exact ⟨ae,ke,rfl,HQ4.o.put (m:=⟨n0,n1,n2,n3,n4,n5,n6,n7,n8,n9,n10,n11⟩),F3 ⟨n0,n1,n2,n3,n4,n5,n6,n7,n8,n9,n10,n11⟩ HO4.o HG4.o⟩
  ·have HN:Hid (Bx ⟨iY,aZ,uV,am,st,rJ,cl,bk,fW,cW,sS,dX⟩ ⟨6,m,r⟩ t zs=⟨iY,aZ,uV,am,6,rJ,cl,bk,fW,cW,sS,C6 t 60 zs⟩):=by simp [Hid,Bx]
   have HEE:Hid (Bw ⟨iY,aZ,uV,am,st,rJ,cl,bk,fW,cW,sS,dX⟩ ⟨6,m,r⟩=[]):=by simp [Hid,Bw]
   obtain ⟨p0,p1,p2,p3,p4,p5,p6,p7,p8,p9,p10,p11⟩:=HQ.o.nb.cb;obtain ⟨y0,y1,y2,y3,y4,y5,y6,y7,y8,y9,y10,y11⟩:=HQ.o.nb.fz
   simp only [Nat.zero_add] at p0 p1 p2 p3 p4 p5 p6 p7 p8 p9 p10 p11 y0 y1 y2 y3 y4 y5 y6 y7 y8 y9 y10 y11
   go_wp2_with fail
   refine (I1 3 _).mono ?_;rintro e u1 ⟨rfl,b1⟩
   rw [show Ki 3=60 from rfl]
   have HQ1:Hid _:=(HQ.o.at 4 (.int .i64 6) (HQ.o.nb.set4 6)).below b1;clear b1;go_wp2_with fail
   refine (Ir t 60 ao cp zs _ (HI.o.below HQ1.o.bel) hn).mono ?_;rintro e u2 ⟨rfl,b2⟩;have HQ2:Hid _:=HQ1.o.below b2;have y11:=HQ2.o.nb.fz.z11;have q11:=HQ2.o.nb.cb.f11
   simp only [Nat.zero_add] at q11 y11
   clear b2;go_wp2;go_meet;rw [HN.o,HEE.o];exact ⟨some ⟨g,0,none⟩,0,rfl,(HQ2.o.at 11 (.int .i64 (C6 t 60 zs)) (HQ2.o.nb.set11 (C6 t 60 zs))),((HQ2.o.at 11 (.int .i64 (C6 t 60 zs)) (HQ2.o.nb.set11 (C6 t 60 zs)))).no⟩
  ·have HN:Hid (Bx ⟨iY,aZ,uV,am,st,rJ,cl,bk,fW,cW,sS,dX⟩ ⟨7,m,r⟩ t zs=Es ⟨iY,aZ,uV,am,st,rJ,cl,bk,fW,cW,sS,dX⟩ m):=by simp [Hid,Bx]
   have HEE:Hid (Bw ⟨iY,aZ,uV,am,st,rJ,cl,bk,fW,cW,sS,dX⟩ ⟨7,m,r⟩=Dg ⟨iY,aZ,uV,am,st,rJ,cl,bk,fW,cW,sS,dX⟩ m):=by simp [Hid,Bw]
   have HCL:Hid (∀ u,Calls prog 226 #[cv ⟨iY,aZ,uV,am,st,rJ,cl,bk,fW,cW,sS,dX⟩,.int .i64 m] u (Gr u (Es ⟨iY,aZ,uV,am,st,rJ,cl,bk,fW,cW,sS,dX⟩ m) (Dg ⟨iY,aZ,uV,am,st,rJ,cl,bk,fW,cW,sS,dX⟩ m))):=fun u=>Tr ⟨iY,aZ,uV,am,st,rJ,cl,bk,fW,cW,sS,dX⟩ m u HBK.o (HM7.o rfl) HFE.o
   unfold Gr at HCL;obtain ⟨n,hn1⟩:∃ n,Bx ⟨iY,aZ,uV,am,st,rJ,cl,bk,fW,cW,sS,dX⟩ ⟨7,m,r⟩ t zs=n:=⟨_,rfl⟩;obtain ⟨E,hE1⟩:∃ E,Bw ⟨iY,aZ,uV,am,st,rJ,cl,bk,fW,cW,sS,dX⟩ ⟨7,m,r⟩=E:=⟨_,rfl⟩;have HN1:Hid _:=hn1;have HE1:Hid _:=hE1;rw [← HN.o,← HEE.o,hn1,hE1] at HCL;clear hn1 hE1;obtain ⟨n0,n1,n2,n3,n4,n5,n6,n7,n8,n9,n10,n11⟩:=n;unfold cv at HCL
   simp only at HCL
   obtain ⟨p0,p1,p2,p3,p4,p5,p6,p7,p8,p9,p10,p11⟩:=HQ.o.nb.cb;obtain ⟨y0,y1,y2,y3,y4,y5,y6,y7,y8,y9,y10,y11⟩:=HQ.o.nb.fz
   simp only [Nat.zero_add] at p0 p1 p2 p3 p4 p5 p6 p7 p8 p9 p10 p11 y0 y1 y2 y3 y4 y5 y6 y7 y8 y9 y10 y11
   go_wp2_with fail
   refine (HCL.o _).mono ?_;rintro e u3 ⟨ae,ke,rfl,oe,b3⟩;have HQ4:Hid _:=HQ.o.below b3
   have HO4:Hid _:=Bi oe (show w.heap.size+1+1+1≤_ from HQ.o.bx.rb.lt)
   have HG4:Hid (∀ j,(Value.slice ae E.length ke).ownBlock=some j→j≠h):=fun j hj=>by have:=(oe.lt j hj).1;have:=HQ.o.nb.cb.lt;omega
   clear oe b3 p0 p1 p2 p3 p4 p5 p6 p7 p8 p9 p10 p11 y0 y1 y2 y3 y4 y5 y6 y7 y8 y9 y10 y11;obtain ⟨p0,p1,p2,p3,p4,p5,p6,p7,p8,p9,p10,p11⟩:=HQ4.o.nb.cb;obtain ⟨y0,y1,y2,y3,y4,y5,y6,y7,y8,y9,y10,y11⟩:=HQ4.o.nb.fz
   simp only [Nat.zero_add] at p0 p1 p2 p3 p4 p5 p6 p7 p8 p9 p10 p11 y0 y1 y2 y3 y4 y5 y6 y7 y8 y9 y10 y11
   go_wp2;go_meet;rw [HN1.o,HE1.o];exact ⟨ae,ke,rfl,HQ4.o.put (m:=⟨n0,n1,n2,n3,n4,n5,n6,n7,n8,n9,n10,n11⟩),F3 ⟨n0,n1,n2,n3,n4,n5,n6,n7,n8,n9,n10,n11⟩ HO4.o HG4.o⟩
  ·have HN:Hid (Bx ⟨iY,aZ,uV,am,st,rJ,cl,bk,fW,cW,sS,dX⟩ ⟨8,m,r⟩ t zs=Cx ⟨iY,aZ,uV,am,st,rJ,cl,bk,fW,cW,sS,dX⟩):=by simp [Hid,Bx]
   have HEE:Hid (Bw ⟨iY,aZ,uV,am,st,rJ,cl,bk,fW,cW,sS,dX⟩ ⟨8,m,r⟩=Ck ⟨iY,aZ,uV,am,st,rJ,cl,bk,fW,cW,sS,dX⟩):=by simp [Hid,Bw]
   have HCL:Hid (∀ u,Calls prog 227 #[cv ⟨iY,aZ,uV,am,st,rJ,cl,bk,fW,cW,sS,dX⟩] u (Gr u (Cx ⟨iY,aZ,uV,am,st,rJ,cl,bk,fW,cW,sS,dX⟩) (Ck ⟨iY,aZ,uV,am,st,rJ,cl,bk,fW,cW,sS,dX⟩))):=fun u=>J4 ⟨iY,aZ,uV,am,st,rJ,cl,bk,fW,cW,sS,dX⟩ u HBK.o HCLA.o HFE.o
   unfold Gr at HCL;obtain ⟨n,hn1⟩:∃ n,Bx ⟨iY,aZ,uV,am,st,rJ,cl,bk,fW,cW,sS,dX⟩ ⟨8,m,r⟩ t zs=n:=⟨_,rfl⟩;obtain ⟨E,hE1⟩:∃ E,Bw ⟨iY,aZ,uV,am,st,rJ,cl,bk,fW,cW,sS,dX⟩ ⟨8,m,r⟩=E:=⟨_,rfl⟩;have HN1:Hid _:=hn1;have HE1:Hid _:=hE1;rw [← HN.o,← HEE.o,hn1,hE1] at HCL;clear hn1 hE1;obtain ⟨n0,n1,n2,n3,n4,n5,n6,n7,n8,n9,n10,n11⟩:=n;unfold cv at HCL
   simp only at HCL
   obtain ⟨p0,p1,p2,p3,p4,p5,p6,p7,p8,p9,p10,p11⟩:=HQ.o.nb.cb;obtain ⟨y0,y1,y2,y3,y4,y5,y6,y7,y8,y9,y10,y11⟩:=HQ.o.nb.fz
   simp only [Nat.zero_add] at p0 p1 p2 p3 p4 p5 p6 p7 p8 p9 p10 p11 y0 y1 y2 y3 y4 y5 y6 y7 y8 y9 y10 y11
   go_wp2_with fail
   refine (HCL.o _).mono ?_;rintro e u3 ⟨ae,ke,rfl,oe,b3⟩;have HQ4:Hid _:=HQ.o.below b3
   have HO4:Hid _:=Bi oe (show w.heap.size+1+1+1≤_ from HQ.o.bx.rb.lt)
   have HG4:Hid (∀ j,(Value.slice ae E.length ke).ownBlock=some j→j≠h):=fun j hj=>by have:=(oe.lt j hj).1;have:=HQ.o.nb.cb.lt;omega
   clear oe b3 p0 p1 p2 p3 p4 p5 p6 p7 p8 p9 p10 p11 y0 y1 y2 y3 y4 y5 y6 y7 y8 y9 y10 y11;obtain ⟨p0,p1,p2,p3,p4,p5,p6,p7,p8,p9,p10,p11⟩:=HQ4.o.nb.cb;obtain ⟨y0,y1,y2,y3,y4,y5,y6,y7,y8,y9,y10,y11⟩:=HQ4.o.nb.fz
   simp only [Nat.zero_add] at p0 p1 p2 p3 p4 p5 p6 p7 p8 p9 p10 p11 y0 y1 y2 y3 y4 y5 y6 y7 y8 y9 y10 y11
   go_wp2;go_meet;rw [HN1.o,HE1.o];exact ⟨ae,ke,rfl,HQ4.o.put (m:=⟨n0,n1,n2,n3,n4,n5,n6,n7,n8,n9,n10,n11⟩),F3 ⟨n0,n1,n2,n3,n4,n5,n6,n7,n8,n9,n10,n11⟩ HO4.o HG4.o⟩
  ·have HN:Hid (Bx ⟨iY,aZ,uV,am,st,rJ,cl,bk,fW,cW,sS,dX⟩ ⟨9,m,r⟩ t zs=⟨iY,aZ,uV,am,7,rJ,cl,bk,fW,cW,sS,-1⟩):=by simp [Hid,Bx]
   have HEE:Hid (Bw ⟨iY,aZ,uV,am,st,rJ,cl,bk,fW,cW,sS,dX⟩ ⟨9,m,r⟩=[]):=by simp [Hid,Bw]
   obtain ⟨p0,p1,p2,p3,p4,p5,p6,p7,p8,p9,p10,p11⟩:=HQ.o.nb.cb;obtain ⟨y0,y1,y2,y3,y4,y5,y6,y7,y8,y9,y10,y11⟩:=HQ.o.nb.fz
   simp only [Nat.zero_add] at p0 p1 p2 p3 p4 p5 p6 p7 p8 p9 p10 p11 y0 y1 y2 y3 y4 y5 y6 y7 y8 y9 y10 y11
   go_wp2;go_meet;rw [HN.o,HEE.o];exact ⟨some ⟨g,0,none⟩,0,rfl,((HQ.o.at 4 (.int .i64 7) (HQ.o.nb.set4 7)).at 11 (.int .i64 (-1)) ((HQ.o.at 4 (.int .i64 7) (HQ.o.nb.set4 7)).nb.set11 (-1))),(((HQ.o.at 4 (.int .i64 7) (HQ.o.nb.set4 7)).at 11 (.int .i64 (-1)) ((HQ.o.at 4 (.int .i64 7) (HQ.o.nb.set4 7)).nb.set11 (-1)))).no⟩
 case rest =>
  obtain ⟨ae,ke,rfl,Q5,o5⟩:=hcut;clear f0 f1 f2 f3 f4 f5 f6 f7 f8 f9 f10 f11 k0 k1 k2;obtain ⟨n,hn1⟩:∃ n,Bx ⟨iY,aZ,uV,am,st,rJ,cl,bk,fW,cW,sS,dX⟩ ⟨k,m,r⟩ t zs=n:=⟨_,rfl⟩;obtain ⟨E,hE1⟩:∃ E,Bw ⟨iY,aZ,uV,am,st,rJ,cl,bk,fW,cW,sS,dX⟩ ⟨k,m,r⟩=E:=⟨_,rfl⟩;rw [hn1] at Q5;rw [hE1] at o5 ⊢;have HN1:Hid _:=hn1;have HE1:Hid _:=hE1
  have HOK2:Hid (∀ u,Calls prog 219 #[cv n] u fun e w'=>e=.returned (.bool (Ao n))∧BW u w'):=fun u=>J6 n u
  obtain ⟨n0,n1,n2,n3,n4,n5,n6,n7,n8,n9,n10,n11⟩:=n;unfold cv at HOK2
  simp only at HOK2
  have HQ5:Hid (QS w h g ⟨iY,aZ,uV,am,st,rJ,cl,bk,fW,cW,sS,dX⟩ ⟨k,m,r⟩ ⟨n0,n1,n2,n3,n4,n5,n6,n7,n8,n9,n10,n11⟩ wc):=Q5;have HO5:Hid (wc.ownsRow (w.heap.size+1+1+1) 269 4 (.slice ae E.length ke) E.length (Ba E)):=o5;obtain ⟨f0,f1,f2,f3,f4,f5,f6,f7,f8,f9,f10,f11⟩:=Q5.nb.cb
  simp only [Nat.zero_add] at f0 f1 f2 f3 f4 f5 f6 f7 f8 f9 f10 f11
  clear hn1 hE1 Q5 o5 HQ;go_wp2_with fail
  refine (HOK2.o _).mono ?_;rintro e w6 ⟨rfl,b6⟩;have HQ6:Hid (QS w h g ⟨iY,aZ,uV,am,st,rJ,cl,bk,fW,cW,sS,dX⟩ ⟨k,m,r⟩ ⟨n0,n1,n2,n3,n4,n5,n6,n7,n8,n9,n10,n11⟩ w6):=HQ5.o.below b6;have HO6:Hid (w6.ownsRow (w.heap.size+1+1+1) 269 4 (.slice ae E.length ke) E.length (Ba E)):=Av HO5.o b6;have HB:Hid (BW w w6):=HQ6.o.bel;have HNO:Hid (w6.ownsRow (w.heap.size+1+1+1) 269 4 (.slice (some ⟨g,0,none⟩) 0 0) 0 []):=HQ6.o.no;clear b6 f0 f1 f2 f3 f4 f5 f6 f7 f8 f9 f10 f11 HQ5 HO5 HOK2
  cases h6:Ao ⟨n0,n1,n2,n3,n4,n5,n6,n7,n8,n9,n10,n11⟩
  ·have HV:Hid (doV ⟨iY,aZ,uV,am,st,rJ,cl,bk,fW,cW,sS,dX⟩ ⟨k,m,r⟩ t zs=1):=by rw [Hid,doV,if_neg (by rw [HDAY.o];decide),if_neg (by rw [HOF.o];decide),if_neg (by rw [HCD.o];decide),HN1.o,if_neg (by rw [h6];decide)]
   have HC:Hid (doC ⟨iY,aZ,uV,am,st,rJ,cl,bk,fW,cW,sS,dX⟩ ⟨k,m,r⟩ t zs=⟨iY,aZ,uV,am,st,rJ,cl,bk,fW,cW,sS,dX⟩):=if_neg (by rw [HV.o];decide)
   have HE:Hid (doE ⟨iY,aZ,uV,am,st,rJ,cl,bk,fW,cW,sS,dX⟩ ⟨k,m,r⟩ t zs=[]):=if_neg (by rw [HV.o];decide)
   clear h6;obtain ⟨⟨f0,f1,f2,f3,f4,f5,f6,f7,f8,f9,f10,f11⟩,k0,k1,k2,⟨g0,g1,g2,g3,g4,g5,g6,g7,g8,g9,g10,g11⟩,⟨z0,z1,z2,z3,z4,z5,z6,z7,z8,z9,z10,z11⟩⟩:=HQ6.o.bx
   simp only [Nat.zero_add,Br] at f0 f1 f2 f3 f4 f5 f6 f7 f8 f9 f10 f11 g0 g1 g2 g3 g4 g5 g6 g7 g8 g9 g10 g11 z0 z1 z2 z3 z4 z5 z6 z7 z8 z9 z10 z11 k0 k1 k2
   clear k0 k1 k2;go_wp2
   refine bodyPost_ret (by simp [results,results184,go_sem,g0,g1,g2,g3,g4,g5,g6,g7,g8,g9,g10,g11];try rfl) rfl ?_
   rw [HC.o,HE.o,HV.o]
   exact Ek (c:=⟨iY,aZ,uV,am,st,rJ,cl,bk,fW,cW,sS,dX⟩) (es:=[]) (base:=w.heap.size+1+1+1) (by omega) HNO.o HB.o
  ·have HV:Hid (doV ⟨iY,aZ,uV,am,st,rJ,cl,bk,fW,cW,sS,dX⟩ ⟨k,m,r⟩ t zs=0):=by rw [Hid,doV,if_neg (by rw [HDAY.o];decide),if_neg (by rw [HOF.o];decide),if_neg (by rw [HCD.o];decide),HN1.o,if_pos h6]
   have HC:Hid (doC ⟨iY,aZ,uV,am,st,rJ,cl,bk,fW,cW,sS,dX⟩ ⟨k,m,r⟩ t zs=⟨n0,n1,n2,n3,n4,n5,n6,n7,n8,n9,n10,n11⟩):=by rw [Hid,doC,if_pos HV.o,HN1.o]
   have HE:Hid (doE ⟨iY,aZ,uV,am,st,rJ,cl,bk,fW,cW,sS,dX⟩ ⟨k,m,r⟩ t zs=E):=by rw [Hid,doE,if_pos HV.o,HE1.o]
   clear h6;obtain ⟨⟨f0,f1,f2,f3,f4,f5,f6,f7,f8,f9,f10,f11⟩,k0,k1,k2,⟨g0,g1,g2,g3,g4,g5,g6,g7,g8,g9,g10,g11⟩,⟨z0,z1,z2,z3,z4,z5,z6,z7,z8,z9,z10,z11⟩⟩:=HQ6.o.bx
   simp only [Nat.zero_add,Br] at f0 f1 f2 f3 f4 f5 f6 f7 f8 f9 f10 f11 g0 g1 g2 g3 g4 g5 g6 g7 g8 g9 g10 g11 z0 z1 z2 z3 z4 z5 z6 z7 z8 z9 z10 z11 k0 k1 k2
   clear k0 k1 k2 f0 f1 f2 f3 f4 f5 f6 f7 f8 f9 f10 f11;obtain ⟨f0,f1,f2,f3,f4,f5,f6,f7,f8,f9,f10,f11⟩:=HQ6.o.nb.cb
   simp only [Nat.zero_add] at f0 f1 f2 f3 f4 f5 f6 f7 f8 f9 f10 f11
   go_wp2
   refine bodyPost_ret (by simp [results,results184,go_sem,g0,g1,g2,g3,g4,g5,g6,g7,g8,g9,g10,g11];try rfl) rfl ?_
   rw [HC.o,HE.o,HV.o]
   exact Ek (c:=⟨n0,n1,n2,n3,n4,n5,n6,n7,n8,n9,n10,n11⟩) (es:=E) (base:=w.heap.size+1+1+1) (by omega) HO6.o HB.o
end Go.Proofs.YtomiclakhjncbaaGreatDoor
