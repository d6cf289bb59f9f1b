import Derived.Test.YtomiclakhjncbaaGreatDoorJT5a
namespace Go.Proofs.YtomiclakhjncbaaGreatDoor
open Go.RowKit Go.Proofs.Tryz
set_option maxRecDepth 100000
set_option maxHeartbeats 12800000
structure NB (h:Nat) (n:Cs) (u:World):Prop where
 cb:CB h 0 n u
 fz:FZ h 0 u
theorem NB.below {h:Nat} {n:Cs} {u u':World} (x:NB h n u) (b:BW u u'):NB h n u':=⟨x.cb.below b,x.fz.below x.cb.lt b⟩
theorem NB.set4 {h:Nat} {c:Cs} {u:World} (q:NB h c u) (x:Int):NB h ⟨c.iss,c.acq,c.cur,c.am,x,c.rsn,c.cl,c.bk,c.fee,c.cop,c.sta,c.due⟩ (u.setCell (qzA h 4) (qzI x)):=by
 obtain ⟨⟨f0,f1,f2,f3,f4,f5,f6,f7,f8,f9,f10,f11⟩,⟨z0,z1,z2,z3,z4,z5,z6,z7,z8,z9,z10,z11⟩⟩:=q
 simp only [Nat.zero_add] at f0 f1 f2 f3 f4 f5 f6 f7 f8 f9 f10 f11 z0 z1 z2 z3 z4 z5 z6 z7 z8 z9 z10 z11
 exact ⟨(by constructor<;>simp [go_sem, *]),(by constructor<;>simp [go_sem, *])⟩
theorem NB.set5 {h:Nat} {c:Cs} {u:World} (q:NB h c u) (x:Int):NB h ⟨c.iss,c.acq,c.cur,c.am,c.st,x,c.cl,c.bk,c.fee,c.cop,c.sta,c.due⟩ (u.setCell (qzA h 5) (qzI x)):=by
 obtain ⟨⟨f0,f1,f2,f3,f4,f5,f6,f7,f8,f9,f10,f11⟩,⟨z0,z1,z2,z3,z4,z5,z6,z7,z8,z9,z10,z11⟩⟩:=q
 simp only [Nat.zero_add] at f0 f1 f2 f3 f4 f5 f6 f7 f8 f9 f10 f11 z0 z1 z2 z3 z4 z5 z6 z7 z8 z9 z10 z11
 exact ⟨(by constructor<;>simp [go_sem, *]),(by constructor<;>simp [go_sem, *])⟩
theorem NB.set6 {h:Nat} {c:Cs} {u:World} (q:NB h c u) (x:Int):NB h ⟨c.iss,c.acq,c.cur,c.am,c.st,c.rsn,x,c.bk,c.fee,c.cop,c.sta,c.due⟩ (u.setCell (qzA h 6) (qzI x)):=by
 obtain ⟨⟨f0,f1,f2,f3,f4,f5,f6,f7,f8,f9,f10,f11⟩,⟨z0,z1,z2,z3,z4,z5,z6,z7,z8,z9,z10,z11⟩⟩:=q
 simp only [Nat.zero_add] at f0 f1 f2 f3 f4 f5 f6 f7 f8 f9 f10 f11 z0 z1 z2 z3 z4 z5 z6 z7 z8 z9 z10 z11
 exact ⟨(by constructor<;>simp [go_sem, *]),(by constructor<;>simp [go_sem, *])⟩
theorem NB.set7 {h:Nat} {c:Cs} {u:World} (q:NB h c u) (x:Int):NB h ⟨c.iss,c.acq,c.cur,c.am,c.st,c.rsn,c.cl,x,c.fee,c.cop,c.sta,c.due⟩ (u.setCell (qzA h 7) (qzI x)):=by
 obtain ⟨⟨f0,f1,f2,f3,f4,f5,f6,f7,f8,f9,f10,f11⟩,⟨z0,z1,z2,z3,z4,z5,z6,z7,z8,z9,z10,z11⟩⟩:=q
 simp only [Nat.zero_add] at f0 f1 f2 f3 f4 f5 f6 f7 f8 f9 f10 f11 z0 z1 z2 z3 z4 z5 z6 z7 z8 z9 z10 z11
 exact ⟨(by constructor<;>simp [go_sem, *]),(by constructor<;>simp [go_sem, *])⟩
theorem NB.set9 {h:Nat} {c:Cs} {u:World} (q:NB h c u) (x:Bool):NB h ⟨c.iss,c.acq,c.cur,c.am,c.st,c.rsn,c.cl,c.bk,c.fee,x,c.sta,c.due⟩ (u.setCell (qzA h 9) (.bool x)):=by
 obtain ⟨⟨f0,f1,f2,f3,f4,f5,f6,f7,f8,f9,f10,f11⟩,⟨z0,z1,z2,z3,z4,z5,z6,z7,z8,z9,z10,z11⟩⟩:=q
 simp only [Nat.zero_add] at f0 f1 f2 f3 f4 f5 f6 f7 f8 f9 f10 f11 z0 z1 z2 z3 z4 z5 z6 z7 z8 z9 z10 z11
 exact ⟨(by constructor<;>simp [go_sem, *]),(by constructor<;>simp [go_sem, *])⟩
theorem NB.set11 {h:Nat} {c:Cs} {u:World} (q:NB h c u) (x:Int):NB h ⟨c.iss,c.acq,c.cur,c.am,c.st,c.rsn,c.cl,c.bk,c.fee,c.cop,c.sta,x⟩ (u.setCell (qzA h 11) (qzI x)):=by
 obtain ⟨⟨f0,f1,f2,f3,f4,f5,f6,f7,f8,f9,f10,f11⟩,⟨z0,z1,z2,z3,z4,z5,z6,z7,z8,z9,z10,z11⟩⟩:=q
 simp only [Nat.zero_add] at f0 f1 f2 f3 f4 f5 f6 f7 f8 f9 f10 f11 z0 z1 z2 z3 z4 z5 z6 z7 z8 z9 z10 z11
 exact ⟨(by constructor<;>simp [go_sem, *]),(by constructor<;>simp [go_sem, *])⟩
theorem NB.put {h:Nat} {c d:Cs} {u:World} (q:NB h d u):NB h c (Cz u h c):=by
 refine ⟨Mb q.cb,?_⟩;obtain ⟨⟨f0,f1,f2,f3,f4,f5,f6,f7,f8,f9,f10,f11⟩,⟨z0,z1,z2,z3,z4,z5,z6,z7,z8,z9,z10,z11⟩⟩:=q
 simp only [Nat.zero_add] at f0 f1 f2 f3 f4 f5 f6 f7 f8 f9 f10 f11 z0 z1 z2 z3 z4 z5 z6 z7 z8 z9 z10 z11
 exact ⟨by simp [Cz,go_sem,z0],by simp [Cz,go_sem,z1],by simp [Cz,go_sem,z2],by simp [Cz,go_sem,z3],by simp [Cz,go_sem,z4],by simp [Cz,go_sem,z5],by simp [Cz,go_sem,z6],by simp [Cz,go_sem,z7],by simp [Cz,go_sem,z8],by simp [Cz,go_sem,z9],by simp [Cz,go_sem,z10],by simp [Cz,go_sem,z11]⟩
structure QS (w:World) (h g:Nat) (c:Cs) (a:Ac) (n:Cs) (u:World):Prop where
 bx:BX w.heap.size c a u
 nb:NB h n u
 no:u.ownsRow (w.heap.size+1+1+1) 269 4 (.slice (some (qzA g 0)) 0 0) 0 []
 lt:w.heap.size+1+1<h
 ne:g≠h
 bel:BW w u
theorem QS.below {w:World} {h g:Nat} {c:Cs} {a:Ac} {n:Cs} {u u':World} (q:QS w h g c a n u) (b:BW u u'):QS w h g c a n u':=⟨q.bx.below b,q.nb.below b,Av q.no b,q.lt,q.ne,next q.bel b⟩
theorem QS.at {w:World} {h g:Nat} {c:Cs} {a:Ac} {n m:Cs} {u:World} (q:QS w h g c a n u) (i:Nat) (x:Value) (e:NB h m (u.setCell (qzA h i) x)):QS w h g c a m (u.setCell (qzA h i) x) :=
 ⟨q.bx.under (B:=h) (Bn u h i x) q.lt,e,A5 q.no (qzA h i) x (fun k hk=>by injection hk with hk;subst hk;exact q.ne),q.lt,q.ne,q.bel.trans ((Bn u h i x).mono (by have:=q.lt;omega))⟩
theorem QS.put {w:World} {h g:Nat} {c:Cs} {a:Ac} {n m:Cs} {u:World} (q:QS w h g c a n u):QS w h g c a m (Cz u h m) :=
 ⟨q.bx.under (B:=h) (Cp m (Below.refl h u) (Nat.le_refl h)) q.lt,q.nb.put,F3 m q.no (fun k hk=>by injection hk with hk;subst hk;exact q.ne),q.lt,q.ne,Cp m q.bel (by have:=q.lt;omega)⟩
def SW (w:World) (h g:Nat) (c:Cs) (a:Ac) (n:Cs) (E:List En) (v:Value) (u:World):Prop :=
 ∃ ae ke,v=.slice ae E.length ke/\QS w h g c a n u/\u.ownsRow (w.heap.size+1+1+1) 269 4 (.slice ae E.length ke) E.length (Ba E)
theorem sO {c:Cs} {a:Ac} {t:Int} {zs:List Int} (h:B4 c a t zs=0) (hk:a.kind=3):1<=a.am/\a.am<=c.cl:=by
 have:B4 c a t zs=Dd c a t:=by simp [B4,hk,Dd]
 rw [this] at h;exact Sj h
theorem sV {c:Cs} {a:Ac} {t:Int} {zs:List Int} (h:B4 c a t zs=0) (hk:a.kind=7):0<=a.am/\a.am<=c.cl:=by
 have:B4 c a t zs=if 0<=a.am/\a.am<=c.cl then 0 else 2:=by simp [B4,hk]
 rw [this] at h
 split at h
 ·assumption
 ·cases h
theorem oC (c:Cs) (a:Ac) (t:Int) (ao:Option Addr) (cp:Nat) (zs:List Int) (w:World) (hx:Aw w ao zs) (hn:zs.length<=1099511627776) :
  Calls prog 184 #[cv c,av a,qzI t,.slice ao zs.length cp] w (pM w (doC c a t zs) (doE c a t zs) (doV c a t zs)):=by
 obtain ⟨W,hW⟩:∃ W,W=(((w.alloc (.cells #[qzI c.iss,qzI c.acq,qzI c.cur,qzI c.am,qzI c.st,qzI c.rsn,qzI c.cl,qzI c.bk,qzI c.fee,.bool c.cop,qzI c.sta,qzI c.due] 61)).alloc (.cells #[qzI a.kind,qzI a.am,qzI a.rsn] 165)).alloc (.cells #[qzI 0,qzI 0,qzI 0,qzI 0,qzI 0,qzI 0,qzI 0,qzI 0,qzI 0,.bool false,qzI 0,qzI 0] 61)).alloc (.cells #[] 269):=⟨_,rfl⟩
 have e0:(((w.alloc (.cells #[qzI c.iss,qzI c.acq,qzI c.cur,qzI c.am,qzI c.st,qzI c.rsn,qzI c.cl,qzI c.bk,qzI c.fee,.bool c.cop,qzI c.sta,qzI c.due] 61)).alloc (.cells #[qzI a.kind,qzI a.am,qzI a.rsn] 165)).alloc (.cells #[qzI 0,qzI 0,qzI 0,qzI 0,qzI 0,qzI 0,qzI 0,qzI 0,qzI 0,.bool false,qzI 0,qzI 0] 61)).heap.size=w.heap.size+1+1+1:=by simp
 have HX:Hid (BX w.heap.size c a W):=by rw [Hid,hW];exact (BX.new w c a _ _ _).below (bR.alloc nL _)
 have h8:Hid (W.ownsRow (w.heap.size+1+1+1) 269 4 (.slice (some ⟨w.heap.size+1+1+1,0,none⟩) 0 0) 0 []):=by rw [Hid,hW];exact Lf _ _ _ e0.symm (by rw [e0];omega)
 have d7:Hid (BW w W):=by rw [Hid,hW];go_grown
 have HI:Hid (Aw w ao zs):=hx
 have d1:Hid (∀ u,Calls prog 219 #[cv c] u fun e w'=>e=.returned (.bool (Ao c))/\BW u w'):=fun u=>J6 c u
 have d0:Hid (0<=a.kind/\a.kind<=9->∀ u,BW w u->Calls prog 221 #[cv c,av a,qzI t,.slice ao zs.length cp] u fun e w'=>e=.returned (qzI (B4 c a t zs))/\BW u w'):=fun hk u hu=>fX c a t ao cp zs u (hx.below hu) hn hk
 have b7:Hid (B4 c a t zs=0->a.kind=3->1<=a.am/\a.am<=c.cl):=sO;have b8:Hid (B4 c a t zs=0->a.kind=7->0<=a.am/\a.am<=c.cl):=sV;obtain ⟨k,m,r⟩:=a;obtain ⟨z,p,s,am,st,A,cl,bk,l,y,f,C⟩:=c;unfold cv av;unfold cv at d1;unfold cv av at d0
 simp only at hW d1 d0 b7 b8 ⊢
 have HW:Hid _:=hW;clear hx hW e0
 go_enter func184,ntmps184
 go_upto_region 2 with fail
 rw [<- HW.o];clear HW;obtain ⟨⟨f0,f1,f2,f3,f4,f5,f6,f7,f8,f9,f10,f11⟩,k0,k1,k2,⟨g0,g1,g2,g3,g4,g5,g6,g7,g8,g9,L,M⟩,⟨z0,z1,z2,z3,z4,z5,z6,z7,z8,z9,z10,z11⟩⟩:=HX.o
 simp only [Nat.zero_add,Br] at f0 f1 f2 f3 f4 f5 f6 f7 f8 f9 f10 f11 g0 g1 g2 g3 g4 g5 g6 g7 g8 g9 L M z0 z1 z2 z3 z4 z5 z6 z7 z8 z9 z10 z11 k0 k1 k2
 go_wp2_with fail
 refine (d1.o _).mono ?_;rintro e w1 ⟨rfl,b1⟩;have a3:Hid (BX w.heap.size ⟨z,p,s,am,st,A,cl,bk,l,y,f,C⟩ ⟨k,m,r⟩ w1):=HX.o.below b1;have HB:Hid (BW w w1):=next d7.o b1;have R:Hid (w1.ownsRow (w.heap.size+1+1+1) 269 4 (.slice (some ⟨w.heap.size+1+1+1,0,none⟩) 0 0) 0 []):=Av h8.o b1;clear b1 f0 f1 f2 f3 f4 f5 f6 f7 f8 f9 f10 f11 g0 g1 g2 g3 g4 g5 g6 g7 g8 g9 L M z0 z1 z2 z3 z4 z5 z6 z7 z8 z9 z10 z11 k0 k1 k2 HX d7 h8;obtain ⟨⟨f0,f1,f2,f3,f4,f5,f6,f7,f8,f9,f10,f11⟩,k0,k1,k2,⟨g0,g1,g2,g3,g4,g5,g6,g7,g8,g9,L,M⟩,⟨z0,z1,z2,z3,z4,z5,z6,z7,z8,z9,z10,z11⟩⟩:=a3.o
 simp only [Nat.zero_add,Br] at f0 f1 f2 f3 f4 f5 f6 f7 f8 f9 f10 f11 g0 g1 g2 g3 g4 g5 g6 g7 g8 g9 L M z0 z1 z2 z3 z4 z5 z6 z7 z8 z9 z10 z11 k0 k1 k2
 cases h1:Ao ⟨z,p,s,am,st,A,cl,bk,l,y,f,C⟩
 ·have T:Hid (doV ⟨z,p,s,am,st,A,cl,bk,l,y,f,C⟩ ⟨k,m,r⟩ t zs=5):=if_pos (by simp [D7,h1])
  have HC:Hid (doC ⟨z,p,s,am,st,A,cl,bk,l,y,f,C⟩ ⟨k,m,r⟩ t zs=⟨z,p,s,am,st,A,cl,bk,l,y,f,C⟩):=if_neg (by rw [T.o];decide)
  have HE:Hid (doE ⟨z,p,s,am,st,A,cl,bk,l,y,f,C⟩ ⟨k,m,r⟩ t zs=[]):=if_neg (by rw [T.o];decide)
  clear h1;go_wp2
  refine bodyPost_ret (by simp [results,results184,go_sem,g0,g1,g2,g3,g4,g5,g6,g7,g8,g9,L,M];try rfl) rfl ?_
  rw [HC.o,HE.o,T.o]
  exact Ek (c:=⟨z,p,s,am,st,A,cl,bk,l,y,f,C⟩) (es:=[]) (base:=w.heap.size+1+1+1) (by omega) R.o HB.o
 go_wp2_with fail
 refine (A9 t _).mono ?_;rintro e w2 ⟨rfl,hw⟩;rw [hw];clear hw
 cases h2:Dn t
 ·have T:Hid (doV ⟨z,p,s,am,st,A,cl,bk,l,y,f,C⟩ ⟨k,m,r⟩ t zs=5):=if_pos (by simp [D7,h2])
  have HC:Hid (doC ⟨z,p,s,am,st,A,cl,bk,l,y,f,C⟩ ⟨k,m,r⟩ t zs=⟨z,p,s,am,st,A,cl,bk,l,y,f,C⟩):=if_neg (by rw [T.o];decide)
  have HE:Hid (doE ⟨z,p,s,am,st,A,cl,bk,l,y,f,C⟩ ⟨k,m,r⟩ t zs=[]):=if_neg (by rw [T.o];decide)
  clear h1 h2;go_wp2
  refine bodyPost_ret (by simp [results,results184,go_sem,g0,g1,g2,g3,g4,g5,g6,g7,g8,g9,L,M];try rfl) rfl ?_
  rw [HC.o,HE.o,T.o]
  exact Ek (c:=⟨z,p,s,am,st,A,cl,bk,l,y,f,C⟩) (es:=[]) (base:=w.heap.size+1+1+1) (by omega) R.o HB.o
 by_cases h3:t<f
 ·have T:Hid (doV ⟨z,p,s,am,st,A,cl,bk,l,y,f,C⟩ ⟨k,m,r⟩ t zs=5):=if_pos (by have g:¬ f<=t:=(by omega);simp [D7,g])
  have HC:Hid (doC ⟨z,p,s,am,st,A,cl,bk,l,y,f,C⟩ ⟨k,m,r⟩ t zs=⟨z,p,s,am,st,A,cl,bk,l,y,f,C⟩):=if_neg (by rw [T.o];decide)
  have HE:Hid (doE ⟨z,p,s,am,st,A,cl,bk,l,y,f,C⟩ ⟨k,m,r⟩ t zs=[]):=if_neg (by rw [T.o];decide)
  clear h1 h2;go_wp2
  refine bodyPost_ret (by simp [results,results184,go_sem,g0,g1,g2,g3,g4,g5,g6,g7,g8,g9,L,M];try rfl) rfl ?_
  rw [HC.o,HE.o,T.o]
  exact Ek (c:=⟨z,p,s,am,st,A,cl,bk,l,y,f,C⟩) (es:=[]) (base:=w.heap.size+1+1+1) (by omega) R.o HB.o
 have i6:¬ t<f:=h3;go_wp2_with fail
 refine (Rk ao cp zs _ (HI.o.below HB.o) hn).mono ?_;rintro e w3 ⟨rfl,b3⟩;replace a3:Hid (BX w.heap.size ⟨z,p,s,am,st,A,cl,bk,l,y,f,C⟩ ⟨k,m,r⟩ w3):=a3.o.below b3;replace HB:Hid (BW w w3):=next HB.o b3;replace R:Hid (w3.ownsRow (w.heap.size+1+1+1) 269 4 (.slice (some ⟨w.heap.size+1+1+1,0,none⟩) 0 0) 0 []):=Av R.o b3;clear b3 f0 f1 f2 f3 f4 f5 f6 f7 f8 f9 f10 f11 g0 g1 g2 g3 g4 g5 g6 g7 g8 g9 L M z0 z1 z2 z3 z4 z5 z6 z7 z8 z9 z10 z11 k0 k1 k2;obtain ⟨⟨f0,f1,f2,f3,f4,f5,f6,f7,f8,f9,f10,f11⟩,k0,k1,k2,⟨g0,g1,g2,g3,g4,g5,g6,g7,g8,g9,L,M⟩,⟨z0,z1,z2,z3,z4,z5,z6,z7,z8,z9,z10,z11⟩⟩:=a3.o
 simp only [Nat.zero_add,Br] at f0 f1 f2 f3 f4 f5 f6 f7 f8 f9 f10 f11 g0 g1 g2 g3 g4 g5 g6 g7 g8 g9 L M z0 z1 z2 z3 z4 z5 z6 z7 z8 z9 z10 z11 k0 k1 k2
 cases h4:Ct zs
 ·have T:Hid (doV ⟨z,p,s,am,st,A,cl,bk,l,y,f,C⟩ ⟨k,m,r⟩ t zs=5):=if_pos (by simp [D7,h4])
  have HC:Hid (doC ⟨z,p,s,am,st,A,cl,bk,l,y,f,C⟩ ⟨k,m,r⟩ t zs=⟨z,p,s,am,st,A,cl,bk,l,y,f,C⟩):=if_neg (by rw [T.o];decide)
  have HE:Hid (doE ⟨z,p,s,am,st,A,cl,bk,l,y,f,C⟩ ⟨k,m,r⟩ t zs=[]):=if_neg (by rw [T.o];decide)
  clear h1 h2 h3 h4;go_wp2
  refine bodyPost_ret (by simp [results,results184,go_sem,g0,g1,g2,g3,g4,g5,g6,g7,g8,g9,L,M];try rfl) rfl ?_
  rw [HC.o,HE.o,T.o]
  exact Ek (c:=⟨z,p,s,am,st,A,cl,bk,l,y,f,C⟩) (es:=[]) (base:=w.heap.size+1+1+1) (by omega) R.o HB.o
 have a9:Hid (D7 ⟨z,p,s,am,st,A,cl,bk,l,y,f,C⟩ t zs=true):=by
  have g:f<=t:=by omega
  simp [Hid,D7,h1,h2,g,h4]
 have i0:Hid (Ao ⟨z,p,s,am,st,A,cl,bk,l,y,f,C⟩=true):=h1;clear h1 h2 h3 h4;go_wp2_with fail
 clear i6;refine (oU st k _).mono ?_;rintro e w5 ⟨rfl,hw⟩;rw [hw];clear hw
 cases h5:Dx st k
 ·have T:Hid (doV ⟨z,p,s,am,st,A,cl,bk,l,y,f,C⟩ ⟨k,m,r⟩ t zs=1):=by rw [Hid,doV,if_neg (by rw [a9.o];decide),if_pos h5]
  have HC:Hid (doC ⟨z,p,s,am,st,A,cl,bk,l,y,f,C⟩ ⟨k,m,r⟩ t zs=⟨z,p,s,am,st,A,cl,bk,l,y,f,C⟩):=if_neg (by rw [T.o];decide)
  have HE:Hid (doE ⟨z,p,s,am,st,A,cl,bk,l,y,f,C⟩ ⟨k,m,r⟩ t zs=[]):=if_neg (by rw [T.o];decide)
  clear h5;go_wp2
  refine bodyPost_ret (by simp [results,results184,go_sem,g0,g1,g2,g3,g4,g5,g6,g7,g8,g9,L,M];try rfl) rfl ?_
  rw [HC.o,HE.o,T.o]
  exact Ek (c:=⟨z,p,s,am,st,A,cl,bk,l,y,f,C⟩) (es:=[]) (base:=w.heap.size+1+1+1) (by omega) R.o HB.o
 have d3:Hid (Dx st k=true):=h5
 have d9:Hid (0<=k/\k<=9):=by have:=Jt h5;rw [Hid];omega
 clear h5;go_wp2_with fail
 refine (d0.o d9.o _ HB.o).mono ?_;rintro e w4 ⟨rfl,b4⟩;replace a3:Hid (BX w.heap.size ⟨z,p,s,am,st,A,cl,bk,l,y,f,C⟩ ⟨k,m,r⟩ w4):=a3.o.below b4;replace HB:Hid (BW w w4):=next HB.o b4;replace R:Hid (w4.ownsRow (w.heap.size+1+1+1) 269 4 (.slice (some ⟨w.heap.size+1+1+1,0,none⟩) 0 0) 0 []):=Av R.o b4;clear b4 f0 f1 f2 f3 f4 f5 f6 f7 f8 f9 f10 f11 g0 g1 g2 g3 g4 g5 g6 g7 g8 g9 L M z0 z1 z2 z3 z4 z5 z6 z7 z8 z9 z10 z11 k0 k1 k2 d0 d1;obtain ⟨⟨f0,f1,f2,f3,f4,f5,f6,f7,f8,f9,f10,f11⟩,k0,k1,k2,⟨g0,g1,g2,g3,g4,g5,g6,g7,g8,g9,L,M⟩,⟨z0,z1,z2,z3,z4,z5,z6,z7,z8,z9,z10,z11⟩⟩:=a3.o
 simp only [Nat.zero_add,Br] at f0 f1 f2 f3 f4 f5 f6 f7 f8 f9 f10 f11 g0 g1 g2 g3 g4 g5 g6 g7 g8 g9 L M z0 z1 z2 z3 z4 z5 z6 z7 z8 z9 z10 z11 k0 k1 k2
 obtain ⟨cd,d6⟩:∃ cd,B4 ⟨z,p,s,am,st,A,cl,bk,l,y,f,C⟩ ⟨k,m,r⟩ t zs=cd:=⟨_,rfl⟩;have c9:Hid _:=d6;rw [d6] at b7 b8 ⊢;clear d6
 by_cases h0:cd=0
 rotate_left
 ·have T:Hid (doV ⟨z,p,s,am,st,A,cl,bk,l,y,f,C⟩ ⟨k,m,r⟩ t zs=cd):=by rw [Hid,doV,if_neg (by rw [a9.o];decide),if_neg (by rw [d3.o];decide),if_pos (by rw [c9.o];exact h0),c9.o]
  have HC:Hid (doC ⟨z,p,s,am,st,A,cl,bk,l,y,f,C⟩ ⟨k,m,r⟩ t zs=⟨z,p,s,am,st,A,cl,bk,l,y,f,C⟩):=if_neg (by rw [T.o];exact h0)
  have HE:Hid (doE ⟨z,p,s,am,st,A,cl,bk,l,y,f,C⟩ ⟨k,m,r⟩ t zs=[]):=if_neg (by rw [T.o];exact h0)
  have j2:(cd != 0)=true:=by simpa using h0
  clear h0;go_wp2
  refine bodyPost_ret (by simp [results,results184,go_sem,g0,g1,g2,g3,g4,g5,g6,g7,g8,g9,L,M];try rfl) rfl ?_
  rw [HC.o,HE.o,T.o]
  exact Ek (c:=⟨z,p,s,am,st,A,cl,bk,l,y,f,C⟩) (es:=[]) (base:=w.heap.size+1+1+1) (by omega) R.o HB.o
 subst h0;obtain ⟨V,hV⟩:∃ V,V=w4.alloc (.cells #[qzI z,qzI p,qzI s,qzI am,qzI st,qzI A,qzI cl,qzI bk,qzI l,.bool y,qzI f,qzI C] 61):=⟨_,rfl⟩
 have bV:BW w4 V:=by rw [hV];exact bR.alloc nL _
 have i3:=Jb i0.o
 simp only at i3
 obtain ⟨_,_,_,_,i8,_,_,i9,j0,j1,_,_⟩:=i3
 have c8:Hid (0<=bk/\bk<=1000000000000):=⟨by omega,by omega⟩
 have d2:Hid (0<=cl/\cl<=1000000000000):=⟨by omega,by omega⟩
 have d8:Hid (0<=l/\l<=1000000):=⟨by omega,by omega⟩
 replace b7:Hid (k=3->1<=m/\m<=1000000000000):=fun hk=>by have:=b7.o rfl hk;omega
 replace b8:Hid (k=7->0<=m/\m<=1000000000000):=fun hk=>by have:=b8.o rfl hk;omega
 obtain ⟨h,hh⟩:∃ h,h=w4.heap.size:=⟨_,rfl⟩;obtain ⟨g,hg⟩:∃ g,g=w.heap.size+1+1+1:=⟨_,rfl⟩
 have D:Hid (QS w h g ⟨z,p,s,am,st,A,cl,bk,l,y,f,C⟩ ⟨k,m,r⟩ ⟨z,p,s,am,st,A,cl,bk,l,y,f,C⟩ V):=by
  refine ⟨a3.o.below bV,⟨?_,?_⟩,by rw [hg];exact Av R.o bV,by rw [hh];exact a3.o.rb.lt,?_,next HB.o bV⟩
  ·rw [hV,hh];exact CB.new w4 ⟨z,p,s,am,st,A,cl,bk,l,y,f,C⟩ _
  ·rw [hV,hh];exact FZ.new w4 _ _
  ·have h1:w.heap.size+1+1+1<w4.heap.size:=(R.o.lt (w.heap.size+1+1+1) rfl).2
   rw [hg,hh];exact Nat.ne_of_lt h1
 have i2:Hid _:=hV;clear hV bV i8 i9 j0 j1 R a3 HB;go_upto_region 11 with fail
 rw [<- i2.o,<- hh];have i4:Hid (w.heap.size+1+1+1=g):=hg.symm;rw [i4.o];clear i2 hh hg f0 f1 f2 f3 f4 f5 f6 f7 f8 f9 f10 f11 g0 g1 g2 g3 g4 g5 g6 g7 g8 g9 L M z0 z1 z2 z3 z4 z5 z6 z7 z8 z9 z10 z11 k0 k1 k2;obtain ⟨⟨f0,f1,f2,f3,f4,f5,f6,f7,f8,f9,f10,f11⟩,k0,k1,k2,_,_⟩:=D.o.bx
 simp only [Nat.zero_add] at f0 f1 f2 f3 f4 f5 f6 f7 f8 f9 f10 f11 k0 k1 k2
 go_upto_block 0 with fail
 go_cut [14] (fun v wc=>SW w h g ⟨z,p,s,am,st,A,cl,bk,l,y,f,C⟩ ⟨k,m,r⟩ (Bx ⟨z,p,s,am,st,A,cl,bk,l,y,f,C⟩ ⟨k,m,r⟩ t zs) (Bw ⟨z,p,s,am,st,A,cl,bk,l,y,f,C⟩ ⟨k,m,r⟩) v wc)
 case first =>
  have i7:=d9.o
  rcases (show k=0\/k=1\/k=2\/k=3\/k=4\/k=5\/k=6\/k=7\/k=8\/k=9 by omega) with rfl | rfl | rfl | rfl | rfl | rfl | rfl | rfl | rfl | rfl
  all_goals clear i7
  ·have HN:Hid (Bx ⟨z,p,s,am,st,A,cl,bk,l,y,f,C⟩ ⟨0,m,r⟩ t zs=⟨z,p,s,am,1,A,cl,bk,l,y,f,C6 t 20 zs⟩):=by simp [Hid,Bx]
   have N:Hid (Bw ⟨z,p,s,am,st,A,cl,bk,l,y,f,C⟩ ⟨0,m,r⟩=[]):=by simp [Hid,Bw]
   obtain ⟨Z,p1,p2,p3,p4,p5,p6,p7,p8,p9,H,I⟩:=D.o.nb.cb;obtain ⟨y0,y1,y2,y3,y4,y5,y6,y7,y8,y9,J,F⟩:=D.o.nb.fz
   simp only [Nat.zero_add] at Z p1 p2 p3 p4 p5 p6 p7 p8 p9 H I y0 y1 y2 y3 y4 y5 y6 y7 y8 y9 J F
   go_wp2_with fail
   refine (I1 4 _).mono ?_;rintro e u1 ⟨rfl,b1⟩
   rw [show Ki 4=20 from rfl]
   have Y:Hid _:=((D.o.at 4 (qzI 1) (D.o.nb.set4 1))).below b1;clear b1;go_wp2_with fail
   refine (Ir t 20 ao cp zs _ (HI.o.below Y.o.bel) hn).mono ?_;rintro e u2 ⟨rfl,b2⟩;have G:Hid _:=Y.o.below b2;have F:=G.o.nb.fz.z11;have a6:=G.o.nb.cb.f11
   simp only [Nat.zero_add] at a6 F
   clear b2;go_wp2;go_meet;rw [HN.o,N.o];exact ⟨some (qzA g 0),0,rfl,(G.o.at 11 (qzI (C6 t 20 zs)) (G.o.nb.set11 (C6 t 20 zs))),((G.o.at 11 (qzI (C6 t 20 zs)) (G.o.nb.set11 (C6 t 20 zs)))).no⟩
  ·have HN:Hid (Bx ⟨z,p,s,am,st,A,cl,bk,l,y,f,C⟩ ⟨1,m,r⟩ t zs=J9 ⟨z,p,s,am,st,A,cl,bk,l,y,f,C⟩):=by simp [Hid,Bx]
   have N:Hid (Bw ⟨z,p,s,am,st,A,cl,bk,l,y,f,C⟩ ⟨1,m,r⟩=[]):=by simp [Hid,Bw]
   obtain ⟨Z,p1,p2,p3,p4,p5,p6,p7,p8,p9,H,I⟩:=D.o.nb.cb;obtain ⟨y0,y1,y2,y3,y4,y5,y6,y7,y8,y9,J,F⟩:=D.o.nb.fz
   simp only [Nat.zero_add] at Z p1 p2 p3 p4 p5 p6 p7 p8 p9 H I y0 y1 y2 y3 y4 y5 y6 y7 y8 y9 J F
   go_wp2;go_meet;rw [HN.o,N.o];exact ⟨some (qzA g 0),0,rfl,(((D.o.at 4 (qzI 2) (D.o.nb.set4 2)).at 9 (.bool true) ((D.o.at 4 (qzI 2) (D.o.nb.set4 2)).nb.set9 true)).at 11 (qzI (-1)) (((D.o.at 4 (qzI 2) (D.o.nb.set4 2)).at 9 (.bool true) ((D.o.at 4 (qzI 2) (D.o.nb.set4 2)).nb.set9 true)).nb.set11 (-1))),((((D.o.at 4 (qzI 2) (D.o.nb.set4 2)).at 9 (.bool true) ((D.o.at 4 (qzI 2) (D.o.nb.set4 2)).nb.set9 true)).at 11 (qzI (-1)) (((D.o.at 4 (qzI 2) (D.o.nb.set4 2)).at 9 (.bool true) ((D.o.at 4 (qzI 2) (D.o.nb.set4 2)).nb.set9 true)).nb.set11 (-1)))).no⟩
  ·have HN:Hid (Bx ⟨z,p,s,am,st,A,cl,bk,l,y,f,C⟩ ⟨2,m,r⟩ t zs=⟨z,p,s,am,3,r,m,m,l,y,f,C6 t 30 zs⟩):=by simp [Hid,Bx]
   have N:Hid (Bw ⟨z,p,s,am,st,A,cl,bk,l,y,f,C⟩ ⟨2,m,r⟩=Bg ⟨z,p,s,am,st,A,cl,bk,l,y,f,C⟩ m):=by simp [Hid,Bw]
   obtain ⟨Z,p1,p2,p3,p4,p5,p6,p7,p8,p9,H,I⟩:=D.o.nb.cb;obtain ⟨y0,y1,y2,y3,y4,y5,y6,y7,y8,y9,J,F⟩:=D.o.nb.fz
   simp only [Nat.zero_add] at Z p1 p2 p3 p4 p5 p6 p7 p8 p9 H I y0 y1 y2 y3 y4 y5 y6 y7 y8 y9 J F
   go_wp2_with fail
   refine (I1 0 _).mono ?_;rintro e u1 ⟨rfl,b1⟩
   rw [show Ki 0=30 from rfl]
   have Y:Hid _:=((((D.o.at 4 (qzI 3) (D.o.nb.set4 3)).at 5 (qzI r) ((D.o.at 4 (qzI 3) (D.o.nb.set4 3)).nb.set5 r)).at 6 (qzI m) (((D.o.at 4 (qzI 3) (D.o.nb.set4 3)).at 5 (qzI r) ((D.o.at 4 (qzI 3) (D.o.nb.set4 3)).nb.set5 r)).nb.set6 m)).at 7 (qzI m) ((((D.o.at 4 (qzI 3) (D.o.nb.set4 3)).at 5 (qzI r) ((D.o.at 4 (qzI 3) (D.o.nb.set4 3)).nb.set5 r)).at 6 (qzI m) (((D.o.at 4 (qzI 3) (D.o.nb.set4 3)).at 5 (qzI r) ((D.o.at 4 (qzI 3) (D.o.nb.set4 3)).nb.set5 r)).nb.set6 m)).nb.set7 m)).below b1;clear b1;go_wp2_with fail
   refine (Ir t 30 ao cp zs _ (HI.o.below Y.o.bel) hn).mono ?_;rintro e u2 ⟨rfl,b2⟩;have G:Hid _:=Y.o.below b2;have F:=G.o.nb.fz.z11;have a6:=G.o.nb.cb.f11
   simp only [Nat.zero_add] at a6 F
   clear b2;have a8:Hid _:=G.o.at 11 (qzI (C6 t 30 zs)) (G.o.nb.set11 (C6 t 30 zs));obtain ⟨⟨e0,e1,e2,e3,e4,e5,e6,e7,e8,e9,d4,d5⟩,l0,l1,l2,_,_⟩:=a8.o.bx
   simp only [Nat.zero_add] at e0 e1 e2 e3 e4 e5 e6 e7 e8 e9 d4 d5 l0 l1 l2
   go_wp2_with fail
   refine (dA ⟨z,p,s,am,st,A,cl,bk,l,y,f,C⟩ m _).mono ?_;rintro e u3 ⟨ae,ke,rfl,oe,b3⟩;have S:Hid _:=a8.o.below b3
   have a5:Hid _:=Bi oe (show w.heap.size+1+1+1<=_ from a8.o.bx.rb.lt)
   clear oe b3;go_wp2;go_meet;rw [HN.o,N.o];exact ⟨ae,ke,rfl,S.o,a5.o⟩
  ·have HN:Hid (Bx ⟨z,p,s,am,st,A,cl,bk,l,y,f,C⟩ ⟨3,m,r⟩ t zs=⟨z,p,s,am,4,A,m,bk - m,l,y,f,C6 t 30 zs⟩):=by simp [Hid,Bx]
   have N:Hid (Bw ⟨z,p,s,am,st,A,cl,bk,l,y,f,C⟩ ⟨3,m,r⟩=Dw ⟨z,p,s,am,st,A,cl,bk,l,y,f,C⟩ m):=by simp [Hid,Bw]
   have j4:=b7.o rfl;have j3:=c8.o;obtain ⟨Z,p1,p2,p3,p4,p5,p6,p7,p8,p9,H,I⟩:=D.o.nb.cb;obtain ⟨y0,y1,y2,y3,y4,y5,y6,y7,y8,y9,J,F⟩:=D.o.nb.fz
   simp only [Nat.zero_add] at Z p1 p2 p3 p4 p5 p6 p7 p8 p9 H I y0 y1 y2 y3 y4 y5 y6 y7 y8 y9 J F
   go_wp2_with fail
   refine (I1 1 _).mono ?_;rintro e u1 ⟨rfl,b1⟩
   rw [show Ki 1=30 from rfl]
   have Y:Hid _:=(((D.o.at 4 (qzI 4) (D.o.nb.set4 4)).at 6 (qzI m) ((D.o.at 4 (qzI 4) (D.o.nb.set4 4)).nb.set6 m)).at 7 (qzI (bk - m)) (((D.o.at 4 (qzI 4) (D.o.nb.set4 4)).at 6 (qzI m) ((D.o.at 4 (qzI 4) (D.o.nb.set4 4)).nb.set6 m)).nb.set7 (bk - m))).below b1;clear b1;go_wp2_with fail
   refine (Ir t 30 ao cp zs _ (HI.o.below Y.o.bel) hn).mono ?_;rintro e u2 ⟨rfl,b2⟩;have G:Hid _:=Y.o.below b2;have F:=G.o.nb.fz.z11;have a6:=G.o.nb.cb.f11
   simp only [Nat.zero_add] at a6 F
   clear b2;have a8:Hid _:=G.o.at 11 (qzI (C6 t 30 zs)) (G.o.nb.set11 (C6 t 30 zs));obtain ⟨⟨e0,e1,e2,e3,e4,e5,e6,e7,e8,e9,d4,d5⟩,l0,l1,l2,_,_⟩:=a8.o.bx
   simp only [Nat.zero_add] at e0 e1 e2 e3 e4 e5 e6 e7 e8 e9 d4 d5 l0 l1 l2
   go_wp2_with fail
   refine (jZ ⟨z,p,s,am,st,A,cl,bk,l,y,f,C⟩ m _).mono ?_;rintro e u3 ⟨ae,ke,rfl,oe,b3⟩;have S:Hid _:=a8.o.below b3
   have a5:Hid _:=Bi oe (show w.heap.size+1+1+1<=_ from a8.o.bx.rb.lt)
   clear oe b3;go_wp2;go_meet;rw [HN.o,N.o];exact ⟨ae,ke,rfl,S.o,a5.o⟩
  ·have HN:Hid (Bx ⟨z,p,s,am,st,A,cl,bk,l,y,f,C⟩ ⟨4,m,r⟩ t zs=⟨z,p,s,am,5,A,m,bk,l,y,f,C6 t 15 zs⟩):=by simp [Hid,Bx]
   have N:Hid (Bw ⟨z,p,s,am,st,A,cl,bk,l,y,f,C⟩ ⟨4,m,r⟩=[]):=by simp [Hid,Bw]
   obtain ⟨Z,p1,p2,p3,p4,p5,p6,p7,p8,p9,H,I⟩:=D.o.nb.cb;obtain ⟨y0,y1,y2,y3,y4,y5,y6,y7,y8,y9,J,F⟩:=D.o.nb.fz
   simp only [Nat.zero_add] at Z p1 p2 p3 p4 p5 p6 p7 p8 p9 H I y0 y1 y2 y3 y4 y5 y6 y7 y8 y9 J F
   go_wp2_with fail
   refine (I1 2 _).mono ?_;rintro e u1 ⟨rfl,b1⟩
   rw [show Ki 2=15 from rfl]
   have Y:Hid _:=((D.o.at 4 (qzI 5) (D.o.nb.set4 5)).at 6 (qzI m) ((D.o.at 4 (qzI 5) (D.o.nb.set4 5)).nb.set6 m)).below b1;clear b1;go_wp2_with fail
   refine (Ir t 15 ao cp zs _ (HI.o.below Y.o.bel) hn).mono ?_;rintro e u2 ⟨rfl,b2⟩;have G:Hid _:=Y.o.below b2;have F:=G.o.nb.fz.z11;have a6:=G.o.nb.cb.f11
   simp only [Nat.zero_add] at a6 F
   clear b2;go_wp2;go_meet;rw [HN.o,N.o];exact ⟨some (qzA g 0),0,rfl,(G.o.at 11 (qzI (C6 t 15 zs)) (G.o.nb.set11 (C6 t 15 zs))),((G.o.at 11 (qzI (C6 t 15 zs)) (G.o.nb.set11 (C6 t 15 zs)))).no⟩
  ·have HN:Hid (Bx ⟨z,p,s,am,st,A,cl,bk,l,y,f,C⟩ ⟨5,m,r⟩ t zs=I5 ⟨z,p,s,am,st,A,cl,bk,l,y,f,C⟩ cl):=by simp [Hid,Bx]
   have N:Hid (Bw ⟨z,p,s,am,st,A,cl,bk,l,y,f,C⟩ ⟨5,m,r⟩=Bg ⟨z,p,s,am,st,A,cl,bk,l,y,f,C⟩ cl):=by simp [Hid,Bw]
   have O:Hid (∀ u,Calls prog 225 #[cv ⟨z,p,s,am,st,A,cl,bk,l,y,f,C⟩,qzI cl] u (Gr u (I5 ⟨z,p,s,am,st,A,cl,bk,l,y,f,C⟩ cl) (Bg ⟨z,p,s,am,st,A,cl,bk,l,y,f,C⟩ cl))):=fun u=>M8 ⟨z,p,s,am,st,A,cl,bk,l,y,f,C⟩ cl u c8.o d2.o
   unfold Gr at O;obtain ⟨n,X⟩:∃ n,Bx ⟨z,p,s,am,st,A,cl,bk,l,y,f,C⟩ ⟨5,m,r⟩ t zs=n:=⟨_,rfl⟩;obtain ⟨E,U⟩:∃ E,Bw ⟨z,p,s,am,st,A,cl,bk,l,y,f,C⟩ ⟨5,m,r⟩=E:=⟨_,rfl⟩;have a4:Hid _:=X;have a7:Hid _:=U;rw [<- HN.o,<- N.o,X,U] at O;clear X U;obtain ⟨n0,n1,n2,n3,n4,n5,n6,n7,n8,n9,n10,n11⟩:=n;unfold cv at O
   simp only at O
   obtain ⟨Z,p1,p2,p3,p4,p5,p6,p7,p8,p9,H,I⟩:=D.o.nb.cb;obtain ⟨y0,y1,y2,y3,y4,y5,y6,y7,y8,y9,J,F⟩:=D.o.nb.fz
   simp only [Nat.zero_add] at Z p1 p2 p3 p4 p5 p6 p7 p8 p9 H I y0 y1 y2 y3 y4 y5 y6 y7 y8 y9 J F
   go_wp2_with fail
   refine (O.o _).mono ?_;rintro e u3 ⟨ae,ke,rfl,oe,b3⟩;have S:Hid _:=D.o.below b3
   have a5:Hid _:=Bi oe (show w.heap.size+1+1+1<=_ from D.o.bx.rb.lt)
   have b5:Hid (∀ j,(Value.slice ae E.length ke).ownBlock=some j->j≠h):=fun j hj=>by have:=(oe.lt j hj).1;have:=D.o.nb.cb.lt;omega
   clear oe b3 Z p1 p2 p3 p4 p5 p6 p7 p8 p9 H I y0 y1 y2 y3 y4 y5 y6 y7 y8 y9 J F;obtain ⟨Z,p1,p2,p3,p4,p5,p6,p7,p8,p9,H,I⟩:=S.o.nb.cb;obtain ⟨y0,y1,y2,y3,y4,y5,y6,y7,y8,y9,J,F⟩:=S.o.nb.fz
   simp only [Nat.zero_add] at Z p1 p2 p3 p4 p5 p6 p7 p8 p9 H I y0 y1 y2 y3 y4 y5 y6 y7 y8 y9 J F
   go_wp2;go_meet;rw [a4.o,a7.o];exact ⟨ae,ke,rfl,S.o.put (m:=⟨n0,n1,n2,n3,n4,n5,n6,n7,n8,n9,n10,n11⟩),F3 ⟨n0,n1,n2,n3,n4,n5,n6,n7,n8,n9,n10,n11⟩ a5.o b5.o⟩
  ·have HN:Hid (Bx ⟨z,p,s,am,st,A,cl,bk,l,y,f,C⟩ ⟨6,m,r⟩ t zs=⟨z,p,s,am,6,A,cl,bk,l,y,f,C6 t 60 zs⟩):=by simp [Hid,Bx]
   have N:Hid (Bw ⟨z,p,s,am,st,A,cl,bk,l,y,f,C⟩ ⟨6,m,r⟩=[]):=by simp [Hid,Bw]
   obtain ⟨Z,p1,p2,p3,p4,p5,p6,p7,p8,p9,H,I⟩:=D.o.nb.cb;obtain ⟨y0,y1,y2,y3,y4,y5,y6,y7,y8,y9,J,F⟩:=D.o.nb.fz
   simp only [Nat.zero_add] at Z p1 p2 p3 p4 p5 p6 p7 p8 p9 H I y0 y1 y2 y3 y4 y5 y6 y7 y8 y9 J F
   go_wp2_with fail
   refine (I1 3 _).mono ?_;rintro e u1 ⟨rfl,b1⟩
   rw [show Ki 3=60 from rfl]
   have Y:Hid _:=(D.o.at 4 (qzI 6) (D.o.nb.set4 6)).below b1;clear b1;go_wp2_with fail
   refine (Ir t 60 ao cp zs _ (HI.o.below Y.o.bel) hn).mono ?_;rintro e u2 ⟨rfl,b2⟩;have G:Hid _:=Y.o.below b2;have F:=G.o.nb.fz.z11;have a6:=G.o.nb.cb.f11
   simp only [Nat.zero_add] at a6 F
   clear b2;go_wp2;go_meet;rw [HN.o,N.o];exact ⟨some (qzA g 0),0,rfl,(G.o.at 11 (qzI (C6 t 60 zs)) (G.o.nb.set11 (C6 t 60 zs))),((G.o.at 11 (qzI (C6 t 60 zs)) (G.o.nb.set11 (C6 t 60 zs)))).no⟩
  ·have HN:Hid (Bx ⟨z,p,s,am,st,A,cl,bk,l,y,f,C⟩ ⟨7,m,r⟩ t zs=Es ⟨z,p,s,am,st,A,cl,bk,l,y,f,C⟩ m):=by simp [Hid,Bx]
   have N:Hid (Bw ⟨z,p,s,am,st,A,cl,bk,l,y,f,C⟩ ⟨7,m,r⟩=Dg ⟨z,p,s,am,st,A,cl,bk,l,y,f,C⟩ m):=by simp [Hid,Bw]
   have O:Hid (∀ u,Calls prog 226 #[cv ⟨z,p,s,am,st,A,cl,bk,l,y,f,C⟩,qzI m] u (Gr u (Es ⟨z,p,s,am,st,A,cl,bk,l,y,f,C⟩ m) (Dg ⟨z,p,s,am,st,A,cl,bk,l,y,f,C⟩ m))):=fun u=>Tr ⟨z,p,s,am,st,A,cl,bk,l,y,f,C⟩ m u c8.o (b8.o rfl) d8.o
   unfold Gr at O;obtain ⟨n,X⟩:∃ n,Bx ⟨z,p,s,am,st,A,cl,bk,l,y,f,C⟩ ⟨7,m,r⟩ t zs=n:=⟨_,rfl⟩;obtain ⟨E,U⟩:∃ E,Bw ⟨z,p,s,am,st,A,cl,bk,l,y,f,C⟩ ⟨7,m,r⟩=E:=⟨_,rfl⟩;have a4:Hid _:=X;have a7:Hid _:=U;rw [<- HN.o,<- N.o,X,U] at O;clear X U;obtain ⟨n0,n1,n2,n3,n4,n5,n6,n7,n8,n9,n10,n11⟩:=n;unfold cv at O
   simp only at O
   obtain ⟨Z,p1,p2,p3,p4,p5,p6,p7,p8,p9,H,I⟩:=D.o.nb.cb;obtain ⟨y0,y1,y2,y3,y4,y5,y6,y7,y8,y9,J,F⟩:=D.o.nb.fz
   simp only [Nat.zero_add] at Z p1 p2 p3 p4 p5 p6 p7 p8 p9 H I y0 y1 y2 y3 y4 y5 y6 y7 y8 y9 J F
   go_wp2_with fail
   refine (O.o _).mono ?_;rintro e u3 ⟨ae,ke,rfl,oe,b3⟩;have S:Hid _:=D.o.below b3
   have a5:Hid _:=Bi oe (show w.heap.size+1+1+1<=_ from D.o.bx.rb.lt)
   have b5:Hid (∀ j,(Value.slice ae E.length ke).ownBlock=some j->j≠h):=fun j hj=>by have:=(oe.lt j hj).1;have:=D.o.nb.cb.lt;omega
   clear oe b3 Z p1 p2 p3 p4 p5 p6 p7 p8 p9 H I y0 y1 y2 y3 y4 y5 y6 y7 y8 y9 J F;obtain ⟨Z,p1,p2,p3,p4,p5,p6,p7,p8,p9,H,I⟩:=S.o.nb.cb;obtain ⟨y0,y1,y2,y3,y4,y5,y6,y7,y8,y9,J,F⟩:=S.o.nb.fz
   simp only [Nat.zero_add] at Z p1 p2 p3 p4 p5 p6 p7 p8 p9 H I y0 y1 y2 y3 y4 y5 y6 y7 y8 y9 J F
   go_wp2;go_meet;rw [a4.o,a7.o];exact ⟨ae,ke,rfl,S.o.put (m:=⟨n0,n1,n2,n3,n4,n5,n6,n7,n8,n9,n10,n11⟩),F3 ⟨n0,n1,n2,n3,n4,n5,n6,n7,n8,n9,n10,n11⟩ a5.o b5.o⟩
  ·have HN:Hid (Bx ⟨z,p,s,am,st,A,cl,bk,l,y,f,C⟩ ⟨8,m,r⟩ t zs=Cx ⟨z,p,s,am,st,A,cl,bk,l,y,f,C⟩):=by simp [Hid,Bx]
   have N:Hid (Bw ⟨z,p,s,am,st,A,cl,bk,l,y,f,C⟩ ⟨8,m,r⟩=Ck ⟨z,p,s,am,st,A,cl,bk,l,y,f,C⟩):=by simp [Hid,Bw]
   have O:Hid (∀ u,Calls prog 227 #[cv ⟨z,p,s,am,st,A,cl,bk,l,y,f,C⟩] u (Gr u (Cx ⟨z,p,s,am,st,A,cl,bk,l,y,f,C⟩) (Ck ⟨z,p,s,am,st,A,cl,bk,l,y,f,C⟩))):=fun u=>J4 ⟨z,p,s,am,st,A,cl,bk,l,y,f,C⟩ u c8.o d2.o d8.o
   unfold Gr at O;obtain ⟨n,X⟩:∃ n,Bx ⟨z,p,s,am,st,A,cl,bk,l,y,f,C⟩ ⟨8,m,r⟩ t zs=n:=⟨_,rfl⟩;obtain ⟨E,U⟩:∃ E,Bw ⟨z,p,s,am,st,A,cl,bk,l,y,f,C⟩ ⟨8,m,r⟩=E:=⟨_,rfl⟩;have a4:Hid _:=X;have a7:Hid _:=U;rw [<- HN.o,<- N.o,X,U] at O;clear X U;obtain ⟨n0,n1,n2,n3,n4,n5,n6,n7,n8,n9,n10,n11⟩:=n;unfold cv at O
   simp only at O
   obtain ⟨Z,p1,p2,p3,p4,p5,p6,p7,p8,p9,H,I⟩:=D.o.nb.cb;obtain ⟨y0,y1,y2,y3,y4,y5,y6,y7,y8,y9,J,F⟩:=D.o.nb.fz
   simp only [Nat.zero_add] at Z p1 p2 p3 p4 p5 p6 p7 p8 p9 H I y0 y1 y2 y3 y4 y5 y6 y7 y8 y9 J F
   go_wp2_with fail
   refine (O.o _).mono ?_;rintro e u3 ⟨ae,ke,rfl,oe,b3⟩;have S:Hid _:=D.o.below b3
   have a5:Hid _:=Bi oe (show w.heap.size+1+1+1<=_ from D.o.bx.rb.lt)
   have b5:Hid (∀ j,(Value.slice ae E.length ke).ownBlock=some j->j≠h):=fun j hj=>by have:=(oe.lt j hj).1;have:=D.o.nb.cb.lt;omega
   clear oe b3 Z p1 p2 p3 p4 p5 p6 p7 p8 p9 H I y0 y1 y2 y3 y4 y5 y6 y7 y8 y9 J F;obtain ⟨Z,p1,p2,p3,p4,p5,p6,p7,p8,p9,H,I⟩:=S.o.nb.cb;obtain ⟨y0,y1,y2,y3,y4,y5,y6,y7,y8,y9,J,F⟩:=S.o.nb.fz
   simp only [Nat.zero_add] at Z p1 p2 p3 p4 p5 p6 p7 p8 p9 H I y0 y1 y2 y3 y4 y5 y6 y7 y8 y9 J F
   go_wp2;go_meet;rw [a4.o,a7.o];exact ⟨ae,ke,rfl,S.o.put (m:=⟨n0,n1,n2,n3,n4,n5,n6,n7,n8,n9,n10,n11⟩),F3 ⟨n0,n1,n2,n3,n4,n5,n6,n7,n8,n9,n10,n11⟩ a5.o b5.o⟩
  ·have HN:Hid (Bx ⟨z,p,s,am,st,A,cl,bk,l,y,f,C⟩ ⟨9,m,r⟩ t zs=⟨z,p,s,am,7,A,cl,bk,l,y,f,-1⟩):=by simp [Hid,Bx]
   have N:Hid (Bw ⟨z,p,s,am,st,A,cl,bk,l,y,f,C⟩ ⟨9,m,r⟩=[]):=by simp [Hid,Bw]
   obtain ⟨Z,p1,p2,p3,p4,p5,p6,p7,p8,p9,H,I⟩:=D.o.nb.cb;obtain ⟨y0,y1,y2,y3,y4,y5,y6,y7,y8,y9,J,F⟩:=D.o.nb.fz
   simp only [Nat.zero_add] at Z p1 p2 p3 p4 p5 p6 p7 p8 p9 H I y0 y1 y2 y3 y4 y5 y6 y7 y8 y9 J F
   go_wp2;go_meet;rw [HN.o,N.o];exact ⟨some (qzA g 0),0,rfl,((D.o.at 4 (qzI 7) (D.o.nb.set4 7)).at 11 (qzI (-1)) ((D.o.at 4 (qzI 7) (D.o.nb.set4 7)).nb.set11 (-1))),(((D.o.at 4 (qzI 7) (D.o.nb.set4 7)).at 11 (qzI (-1)) ((D.o.at 4 (qzI 7) (D.o.nb.set4 7)).nb.set11 (-1)))).no⟩
 case rest =>
  obtain ⟨ae,ke,rfl,Q5,o5⟩:=hcut;clear f0 f1 f2 f3 f4 f5 f6 f7 f8 f9 f10 f11 k0 k1 k2;obtain ⟨n,X⟩:∃ n,Bx ⟨z,p,s,am,st,A,cl,bk,l,y,f,C⟩ ⟨k,m,r⟩ t zs=n:=⟨_,rfl⟩;obtain ⟨E,U⟩:∃ E,Bw ⟨z,p,s,am,st,A,cl,bk,l,y,f,C⟩ ⟨k,m,r⟩=E:=⟨_,rfl⟩;rw [X] at Q5;rw [U] at o5 ⊢;have a4:Hid _:=X;have a7:Hid _:=U
  have b0:Hid (∀ u,Calls prog 219 #[cv n] u fun e w'=>e=.returned (.bool (Ao n))/\BW u w'):=fun u=>J6 n u
  obtain ⟨n0,n1,n2,n3,n4,n5,n6,n7,n8,n9,n10,n11⟩:=n;unfold cv at b0
  simp only at b0
  have i1:Hid (QS w h g ⟨z,p,s,am,st,A,cl,bk,l,y,f,C⟩ ⟨k,m,r⟩ ⟨n0,n1,n2,n3,n4,n5,n6,n7,n8,n9,n10,n11⟩ wc):=Q5;have h9:Hid (wc.ownsRow (w.heap.size+1+1+1) 269 4 (.slice ae E.length ke) E.length (Ba E)):=o5;obtain ⟨f0,f1,f2,f3,f4,f5,f6,f7,f8,f9,f10,f11⟩:=Q5.nb.cb
  simp only [Nat.zero_add] at f0 f1 f2 f3 f4 f5 f6 f7 f8 f9 f10 f11
  clear X U Q5 o5 D;go_wp2_with fail
  refine (b0.o _).mono ?_;rintro e w6 ⟨rfl,b6⟩;have b9:Hid (QS w h g ⟨z,p,s,am,st,A,cl,bk,l,y,f,C⟩ ⟨k,m,r⟩ ⟨n0,n1,n2,n3,n4,n5,n6,n7,n8,n9,n10,n11⟩ w6):=i1.o.below b6;have i5:Hid (w6.ownsRow (w.heap.size+1+1+1) 269 4 (.slice ae E.length ke) E.length (Ba E)):=Av h9.o b6;have HB:Hid (BW w w6):=b9.o.bel;have R:Hid (w6.ownsRow (w.heap.size+1+1+1) 269 4 (.slice (some (qzA g 0)) 0 0) 0 []):=b9.o.no;clear b6 f0 f1 f2 f3 f4 f5 f6 f7 f8 f9 f10 f11 i1 h9 b0
  cases h6:Ao ⟨n0,n1,n2,n3,n4,n5,n6,n7,n8,n9,n10,n11⟩
  ·have T:Hid (doV ⟨z,p,s,am,st,A,cl,bk,l,y,f,C⟩ ⟨k,m,r⟩ t zs=1):=by rw [Hid,doV,if_neg (by rw [a9.o];decide),if_neg (by rw [d3.o];decide),if_neg (by rw [c9.o];decide),a4.o,if_neg (by rw [h6];decide)]
   have HC:Hid (doC ⟨z,p,s,am,st,A,cl,bk,l,y,f,C⟩ ⟨k,m,r⟩ t zs=⟨z,p,s,am,st,A,cl,bk,l,y,f,C⟩):=if_neg (by rw [T.o];decide)
   have HE:Hid (doE ⟨z,p,s,am,st,A,cl,bk,l,y,f,C⟩ ⟨k,m,r⟩ t zs=[]):=if_neg (by rw [T.o];decide)
   clear h6;obtain ⟨⟨f0,f1,f2,f3,f4,f5,f6,f7,f8,f9,f10,f11⟩,k0,k1,k2,⟨g0,g1,g2,g3,g4,g5,g6,g7,g8,g9,L,M⟩,⟨z0,z1,z2,z3,z4,z5,z6,z7,z8,z9,z10,z11⟩⟩:=b9.o.bx
   simp only [Nat.zero_add,Br] at f0 f1 f2 f3 f4 f5 f6 f7 f8 f9 f10 f11 g0 g1 g2 g3 g4 g5 g6 g7 g8 g9 L M z0 z1 z2 z3 z4 z5 z6 z7 z8 z9 z10 z11 k0 k1 k2
   clear k0 k1 k2;go_wp2
   refine bodyPost_ret (by simp [results,results184,go_sem,g0,g1,g2,g3,g4,g5,g6,g7,g8,g9,L,M];try rfl) rfl ?_
   rw [HC.o,HE.o,T.o]
   exact Ek (c:=⟨z,p,s,am,st,A,cl,bk,l,y,f,C⟩) (es:=[]) (base:=w.heap.size+1+1+1) (by omega) R.o HB.o
  ·have T:Hid (doV ⟨z,p,s,am,st,A,cl,bk,l,y,f,C⟩ ⟨k,m,r⟩ t zs=0):=by rw [Hid,doV,if_neg (by rw [a9.o];decide),if_neg (by rw [d3.o];decide),if_neg (by rw [c9.o];decide),a4.o,if_pos h6]
   have HC:Hid (doC ⟨z,p,s,am,st,A,cl,bk,l,y,f,C⟩ ⟨k,m,r⟩ t zs=⟨n0,n1,n2,n3,n4,n5,n6,n7,n8,n9,n10,n11⟩):=by rw [Hid,doC,if_pos T.o,a4.o]
   have HE:Hid (doE ⟨z,p,s,am,st,A,cl,bk,l,y,f,C⟩ ⟨k,m,r⟩ t zs=E):=by rw [Hid,doE,if_pos T.o,a7.o]
   clear h6;obtain ⟨⟨f0,f1,f2,f3,f4,f5,f6,f7,f8,f9,f10,f11⟩,k0,k1,k2,⟨g0,g1,g2,g3,g4,g5,g6,g7,g8,g9,L,M⟩,⟨z0,z1,z2,z3,z4,z5,z6,z7,z8,z9,z10,z11⟩⟩:=b9.o.bx
   simp only [Nat.zero_add,Br] at f0 f1 f2 f3 f4 f5 f6 f7 f8 f9 f10 f11 g0 g1 g2 g3 g4 g5 g6 g7 g8 g9 L M z0 z1 z2 z3 z4 z5 z6 z7 z8 z9 z10 z11 k0 k1 k2
   clear k0 k1 k2 f0 f1 f2 f3 f4 f5 f6 f7 f8 f9 f10 f11;obtain ⟨f0,f1,f2,f3,f4,f5,f6,f7,f8,f9,f10,f11⟩:=b9.o.nb.cb
   simp only [Nat.zero_add] at f0 f1 f2 f3 f4 f5 f6 f7 f8 f9 f10 f11
   go_wp2
   refine bodyPost_ret (by simp [results,results184,go_sem,g0,g1,g2,g3,g4,g5,g6,g7,g8,g9,L,M];try rfl) rfl ?_
   rw [HC.o,HE.o,T.o]
   exact Ek (c:=⟨n0,n1,n2,n3,n4,n5,n6,n7,n8,n9,n10,n11⟩) (es:=E) (base:=w.heap.size+1+1+1) (by omega) i5.o HB.o
end Go.Proofs.YtomiclakhjncbaaGreatDoor
