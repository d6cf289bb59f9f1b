import Derived.Test.YtfpafnefpmmofaaGreatDoorJW5a
namespace Go.Proofs.YtfpafnefpmmofaaGreatDoor
open Go.RowKit Go.Proofs.Tryz
set_option maxRecDepth 100000
set_option maxHeartbeats 12800000
structure NB (h:Nat) (n:Cs) (u:ql):Prop where
 cb:CB h 0 n u
 fz:FZ h 0 u
theorem NB.below {h:Nat} {n:Cs} {u u':ql} (x:NB h n u) (b:BW u u'):NB h n u':=⟨x.cb.below b,x.fz.below x.cb.lt b⟩
theorem NB.set4 {h:Nat} {c:Cs} {u:ql} (q:NB h c u) (x:Int):NB h ⟨c.iss,c.acq,c.cur,c.am,x,c.rsn,c.cl,c.bk,c.fee,c.cop,c.sta,c.due⟩ (u.setCell (qzA h 4) (qzI x)):=by
 obtain ⟨⟨f0,f1,f2,f3,f4,f5,f6,f7,f8,f9,f10,f11⟩,⟨z0,z1,z2,z3,z4,z5,z6,z7,z8,z9,z10,z11⟩⟩:=q
 simp only [qu] at f0 f1 f2 f3 f4 f5 f6 f7 f8 f9 f10 f11 z0 z1 z2 z3 z4 z5 z6 z7 z8 z9 z10 z11
 exact ⟨(by constructor<;>simp [go_sem, *]),(by constructor<;>simp [go_sem, *])⟩
theorem NB.set5 {h:Nat} {c:Cs} {u:ql} (q:NB h c u) (x:Int):NB h ⟨c.iss,c.acq,c.cur,c.am,c.st,x,c.cl,c.bk,c.fee,c.cop,c.sta,c.due⟩ (u.setCell (qzA h 5) (qzI x)):=by
 obtain ⟨⟨f0,f1,f2,f3,f4,f5,f6,f7,f8,f9,f10,f11⟩,⟨z0,z1,z2,z3,z4,z5,z6,z7,z8,z9,z10,z11⟩⟩:=q
 simp only [qu] at f0 f1 f2 f3 f4 f5 f6 f7 f8 f9 f10 f11 z0 z1 z2 z3 z4 z5 z6 z7 z8 z9 z10 z11
 exact ⟨(by constructor<;>simp [go_sem, *]),(by constructor<;>simp [go_sem, *])⟩
theorem NB.set6 {h:Nat} {c:Cs} {u:ql} (q:NB h c u) (x:Int):NB h ⟨c.iss,c.acq,c.cur,c.am,c.st,c.rsn,x,c.bk,c.fee,c.cop,c.sta,c.due⟩ (u.setCell (qzA h 6) (qzI x)):=by
 obtain ⟨⟨f0,f1,f2,f3,f4,f5,f6,f7,f8,f9,f10,f11⟩,⟨z0,z1,z2,z3,z4,z5,z6,z7,z8,z9,z10,z11⟩⟩:=q
 simp only [qu] at f0 f1 f2 f3 f4 f5 f6 f7 f8 f9 f10 f11 z0 z1 z2 z3 z4 z5 z6 z7 z8 z9 z10 z11
 exact ⟨(by constructor<;>simp [go_sem, *]),(by constructor<;>simp [go_sem, *])⟩
theorem NB.set7 {h:Nat} {c:Cs} {u:ql} (q:NB h c u) (x:Int):NB h ⟨c.iss,c.acq,c.cur,c.am,c.st,c.rsn,c.cl,x,c.fee,c.cop,c.sta,c.due⟩ (u.setCell (qzA h 7) (qzI x)):=by
 obtain ⟨⟨f0,f1,f2,f3,f4,f5,f6,f7,f8,f9,f10,f11⟩,⟨z0,z1,z2,z3,z4,z5,z6,z7,z8,z9,z10,z11⟩⟩:=q
 simp only [qu] at f0 f1 f2 f3 f4 f5 f6 f7 f8 f9 f10 f11 z0 z1 z2 z3 z4 z5 z6 z7 z8 z9 z10 z11
 exact ⟨(by constructor<;>simp [go_sem, *]),(by constructor<;>simp [go_sem, *])⟩
theorem NB.set9 {h:Nat} {c:Cs} {u:ql} (q:NB h c u) (x:Bool):NB h ⟨c.iss,c.acq,c.cur,c.am,c.st,c.rsn,c.cl,c.bk,c.fee,x,c.sta,c.due⟩ (u.setCell (qzA h 9) (.bool x)):=by
 obtain ⟨⟨f0,f1,f2,f3,f4,f5,f6,f7,f8,f9,f10,f11⟩,⟨z0,z1,z2,z3,z4,z5,z6,z7,z8,z9,z10,z11⟩⟩:=q
 simp only [qu] at f0 f1 f2 f3 f4 f5 f6 f7 f8 f9 f10 f11 z0 z1 z2 z3 z4 z5 z6 z7 z8 z9 z10 z11
 exact ⟨(by constructor<;>simp [go_sem, *]),(by constructor<;>simp [go_sem, *])⟩
theorem NB.set11 {h:Nat} {c:Cs} {u:ql} (q:NB h c u) (x:Int):NB h ⟨c.iss,c.acq,c.cur,c.am,c.st,c.rsn,c.cl,c.bk,c.fee,c.cop,c.sta,x⟩ (u.setCell (qzA h 11) (qzI x)):=by
 obtain ⟨⟨f0,f1,f2,f3,f4,f5,f6,f7,f8,f9,f10,f11⟩,⟨z0,z1,z2,z3,z4,z5,z6,z7,z8,z9,z10,z11⟩⟩:=q
 simp only [qu] at f0 f1 f2 f3 f4 f5 f6 f7 f8 f9 f10 f11 z0 z1 z2 z3 z4 z5 z6 z7 z8 z9 z10 z11
 exact ⟨(by constructor<;>simp [go_sem, *]),(by constructor<;>simp [go_sem, *])⟩
theorem NB.put {h:Nat} {c d:Cs} {u:ql} (q:NB h d u):NB h c (Dl u h c):=by
 refine ⟨Sd q.cb,?_⟩;obtain ⟨⟨f0,f1,f2,f3,f4,f5,f6,f7,f8,f9,f10,f11⟩,⟨z0,z1,z2,z3,z4,z5,z6,z7,z8,z9,z10,z11⟩⟩:=q
 simp only [qu] at f0 f1 f2 f3 f4 f5 f6 f7 f8 f9 f10 f11 z0 z1 z2 z3 z4 z5 z6 z7 z8 z9 z10 z11
 exact ⟨by simp [Dl,go_sem,z0],by simp [Dl,go_sem,z1],by simp [Dl,go_sem,z2],by simp [Dl,go_sem,z3],by simp [Dl,go_sem,z4],by simp [Dl,go_sem,z5],by simp [Dl,go_sem,z6],by simp [Dl,go_sem,z7],by simp [Dl,go_sem,z8],by simp [Dl,go_sem,z9],by simp [Dl,go_sem,z10],by simp [Dl,go_sem,z11]⟩
structure QS (w:ql) (h g:Nat) (c:Cs) (a:Ac) (n:Cs) (u:ql):Prop where
 bx:BX w.heap.size c a u
 nb:NB h n u
 no:u.ownsRow (w.heap.size+1+1+1) 217 4 (qf (some (qzA g 0)) 0 0) 0 []
 lt:w.heap.size+1+1<h
 ne:g≠h
 bel:BW w u
theorem QS.below {w:ql} {h g:Nat} {c:Cs} {a:Ac} {n:Cs} {u u':ql} (q:QS w h g c a n u) (b:BW u u'):QS w h g c a n u':=⟨q.bx.below b,q.nb.below b,A5 q.no b,q.lt,q.ne,next q.bel b⟩
theorem QS.at {w:ql} {h g:Nat} {c:Cs} {a:Ac} {n m:Cs} {u:ql} (q:QS w h g c a n u) (i:Nat) (x:Value) (e:NB h m (u.setCell (qzA h i) x)):QS w h g c a m (u.setCell (qzA h i) x) :=
 ⟨q.bx.under (B:=h) (Bv u h i x) q.lt,e,Bf q.no (qzA h i) x (λk hk=>by injection hk with hk;subst hk;exact q.ne),q.lt,q.ne,q.bel.t ((Bv u h i x).m (by have:=q.lt;omega))⟩
theorem QS.put {w:ql} {h g:Nat} {c:Cs} {a:Ac} {n m:Cs} {u:ql} (q:QS w h g c a n u):QS w h g c a m (Dl u h m) :=
 ⟨q.bx.under (B:=h) (Dc m (Below.refl h u) (Nat.le_refl h)) q.lt,q.nb.put,Hy m q.no (λk hk=>by injection hk with hk;subst hk;exact q.ne),q.lt,q.ne,Dc m q.bel (by have:=q.lt;omega)⟩
def SW (w:ql) (h g:Nat) (c:Cs) (a:Ac) (n:Cs) (E:List En) (v:Value) (u:ql):Prop :=
 ∃ ae ke,v=qf ae E.length ke/\QS w h g c a n u/\u.ownsRow (w.heap.size+1+1+1) 217 4 (qf ae E.length ke) E.length (B9 E)
theorem Ait {c:Cs} {a:Ac} {t:Int} {zs:List Int} (h:Cj c a t zs=0) (hk:a.kind=3):1<=a.am/\a.am<=c.cl:=by
 have:Cj c a t zs=Ep c a t:=by simp [Cj,hk,Ep]
 rw [this] at h;exact Zu h
theorem Aih {c:Cs} {a:Ac} {t:Int} {zs:List Int} (h:Cj c a t zs=0) (hk:a.kind=7):0<=a.am/\a.am<=c.cl:=by
 have:Cj c a t zs=if 0<=a.am/\a.am<=c.cl then 0 else 2:=by simp [Cj,hk]
 rw [this] at h
 split at h
 ·assumption
 ·cases h
theorem Aer (c:Cs) (a:Ac) (t:Int) (ao:qm) (cp:Nat) (zs:List Int) (w:ql) (hx:Bg w ao zs) (hn:zs.length<=1099511627776) :
  qi 125 #[cv c,av a,qzI t,qf ao zs.length cp] w (DoR w (doC c a t zs) (doE c a t zs) (doV c a t zs)):=by
 obtain ⟨W,hW⟩:=A0 ((((w.alloc (.cells #[qzI c.iss,qzI c.acq,qzI c.cur,qzI c.am,qzI c.st,qzI c.rsn,qzI c.cl,qzI c.bk,qzI c.fee,.bool c.cop,qzI c.sta,qzI c.due] 111)).alloc (.cells #[qzI a.kind,qzI a.am,qzI a.rsn] 149)).alloc (.cells #[qzI 0,qzI 0,qzI 0,qzI 0,qzI 0,qzI 0,qzI 0,qzI 0,qzI 0,.bool false,qzI 0,qzI 0] 111)).alloc (.cells #[] 217))
 have e0:(((w.alloc (.cells #[qzI c.iss,qzI c.acq,qzI c.cur,qzI c.am,qzI c.st,qzI c.rsn,qzI c.cl,qzI c.bk,qzI c.fee,.bool c.cop,qzI c.sta,qzI c.due] 111)).alloc (.cells #[qzI a.kind,qzI a.am,qzI a.rsn] 149)).alloc (.cells #[qzI 0,qzI 0,qzI 0,qzI 0,qzI 0,qzI 0,qzI 0,qzI 0,qzI 0,.bool false,qzI 0,qzI 0] 111)).heap.size=w.heap.size+1+1+1:=by simp
 have HX:qj (BX w.heap.size c a W):=by rw [qj,hW];exact (BX.new w c a _ _ _).below (bR.alloc nL _)
 have h7:qj (W.ownsRow (w.heap.size+1+1+1) 217 4 (qf (some ⟨w.heap.size+1+1+1,0,none⟩) 0 0) 0 []):=by rw [qj,hW];exact Pm _ _ _ e0.s (by rw [e0];omega)
 have d7:qj (BW w W):=by rw [qj,hW];go_grown
 have HI:=Aa hx
 have d1:qj (∀ u,qi 148 #[cv c] u λe w'=>e=.returned (.bool (Aq c))/\BW u w'):=λu=>N9 c u
 have d0:qj (0<=a.kind/\a.kind<=9->∀ u,BW w u->qi 152 #[cv c,av a,qzI t,qf ao zs.length cp] u λe w'=>e=.returned (qzI (Cj c a t zs))/\BW u w'):=λhk u hu=>wL c a t ao cp zs u (hx.below hu) hn hk
 have b7:qj (Cj c a t zs=0->a.kind=3->1<=a.am/\a.am<=c.cl):=Ait;have b8:qj (Cj c a t zs=0->a.kind=7->0<=a.am/\a.am<=c.cl):=Aih;obtain ⟨k,m,r⟩:=a;obtain ⟨A,p,y,am,st,C,cl,bk,l,z,f,D⟩:=c;unfold cv av;unfold cv at d1;unfold cv av at d0
 simp only at hW d1 d0 b7 b8 ⊢
 have HW:qj _:=hW;clear hx hW e0
 go_enter func125,ntmps125
 go_upto_region 2 with fail
 rw [<- HW.o];clear HW;obtain ⟨⟨f0,f1,f2,f3,f4,f5,f6,f7,f8,f9,f10,f11⟩,k0,k1,k2,⟨g0,g1,g2,g3,g4,g5,g6,g7,g8,g9,M,N⟩,⟨z0,z1,z2,z3,z4,z5,z6,z7,z8,z9,z10,z11⟩⟩:=HX.o
 simp only [qu,Ct] at f0 f1 f2 f3 f4 f5 f6 f7 f8 f9 f10 f11 g0 g1 g2 g3 g4 g5 g6 g7 g8 g9 M N z0 z1 z2 z3 z4 z5 z6 z7 z8 z9 z10 z11 k0 k1 k2
 go_wp2_with fail
 refine (d1.o _).m ?_;rintro e w1 ⟨rfl,b1⟩;have a3:=Aa (HX.o.below b1);have HB:=Aa (next d7.o b1);have S:=Aa (A5 h7.o b1);clear b1 f0 f1 f2 f3 f4 f5 f6 f7 f8 f9 f10 f11 g0 g1 g2 g3 g4 g5 g6 g7 g8 g9 M N z0 z1 z2 z3 z4 z5 z6 z7 z8 z9 z10 z11 k0 k1 k2 HX d7 h7;obtain ⟨⟨f0,f1,f2,f3,f4,f5,f6,f7,f8,f9,f10,f11⟩,k0,k1,k2,⟨g0,g1,g2,g3,g4,g5,g6,g7,g8,g9,M,N⟩,⟨z0,z1,z2,z3,z4,z5,z6,z7,z8,z9,z10,z11⟩⟩:=a3.o
 simp only [qu,Ct] at f0 f1 f2 f3 f4 f5 f6 f7 f8 f9 f10 f11 g0 g1 g2 g3 g4 g5 g6 g7 g8 g9 M N z0 z1 z2 z3 z4 z5 z6 z7 z8 z9 z10 z11 k0 k1 k2
 cases h1:Aq ⟨A,p,y,am,st,C,cl,bk,l,z,f,D⟩
 ·have U:qj (doV ⟨A,p,y,am,st,C,cl,bk,l,z,f,D⟩ ⟨k,m,r⟩ t zs=5):=if_pos (by simp [Fm,h1])
  have HC:qj (doC ⟨A,p,y,am,st,C,cl,bk,l,z,f,D⟩ ⟨k,m,r⟩ t zs=⟨A,p,y,am,st,C,cl,bk,l,z,f,D⟩):=if_neg (by rw [U.o];decide)
  have HE:qj (doE ⟨A,p,y,am,st,C,cl,bk,l,z,f,D⟩ ⟨k,m,r⟩ t zs=[]):=if_neg (by rw [U.o];decide)
  clear h1;go_wp2
  refine bodyPost_ret (by simp [results,results125,go_sem,g0,g1,g2,g3,g4,g5,g6,g7,g8,g9,M,N];try rfl) rfl ?_
  rw [HC.o,HE.o,U.o]
  exact Fy (c:=⟨A,p,y,am,st,C,cl,bk,l,z,f,D⟩) (es:=[]) (base:=w.heap.size+1+1+1) (by omega) S.o HB.o
 go_wp2_with fail
 refine (Br t _).m ?_;rintro e w2 ⟨rfl,hw⟩;rw [hw];clear hw
 cases h2:Fh t
 ·have U:qj (doV ⟨A,p,y,am,st,C,cl,bk,l,z,f,D⟩ ⟨k,m,r⟩ t zs=5):=if_pos (by simp [Fm,h2])
  have HC:qj (doC ⟨A,p,y,am,st,C,cl,bk,l,z,f,D⟩ ⟨k,m,r⟩ t zs=⟨A,p,y,am,st,C,cl,bk,l,z,f,D⟩):=if_neg (by rw [U.o];decide)
  have HE:qj (doE ⟨A,p,y,am,st,C,cl,bk,l,z,f,D⟩ ⟨k,m,r⟩ t zs=[]):=if_neg (by rw [U.o];decide)
  clear h1 h2;go_wp2
  refine bodyPost_ret (by simp [results,results125,go_sem,g0,g1,g2,g3,g4,g5,g6,g7,g8,g9,M,N];try rfl) rfl ?_
  rw [HC.o,HE.o,U.o]
  exact Fy (c:=⟨A,p,y,am,st,C,cl,bk,l,z,f,D⟩) (es:=[]) (base:=w.heap.size+1+1+1) (by omega) S.o HB.o
 by_cases h3:t<f
 ·have U:qj (doV ⟨A,p,y,am,st,C,cl,bk,l,z,f,D⟩ ⟨k,m,r⟩ t zs=5):=if_pos (by have g:¬ f<=t:=(by omega);simp [Fm,g])
  have HC:qj (doC ⟨A,p,y,am,st,C,cl,bk,l,z,f,D⟩ ⟨k,m,r⟩ t zs=⟨A,p,y,am,st,C,cl,bk,l,z,f,D⟩):=if_neg (by rw [U.o];decide)
  have HE:qj (doE ⟨A,p,y,am,st,C,cl,bk,l,z,f,D⟩ ⟨k,m,r⟩ t zs=[]):=if_neg (by rw [U.o];decide)
  clear h1 h2;go_wp2
  refine bodyPost_ret (by simp [results,results125,go_sem,g0,g1,g2,g3,g4,g5,g6,g7,g8,g9,M,N];try rfl) rfl ?_
  rw [HC.o,HE.o,U.o]
  exact Fy (c:=⟨A,p,y,am,st,C,cl,bk,l,z,f,D⟩) (es:=[]) (base:=w.heap.size+1+1+1) (by omega) S.o HB.o
 have i5:¬ t<f:=h3;go_wp2_with fail
 refine (Yb ao cp zs _ (HI.o.below HB.o) hn).m ?_;rintro e w3 ⟨rfl,b3⟩;replace a3:qj (BX w.heap.size ⟨A,p,y,am,st,C,cl,bk,l,z,f,D⟩ ⟨k,m,r⟩ w3):=a3.o.below b3;replace HB:qj (BW w w3):=next HB.o b3;replace S:qj (w3.ownsRow (w.heap.size+1+1+1) 217 4 (qf (some ⟨w.heap.size+1+1+1,0,none⟩) 0 0) 0 []):=A5 S.o b3;clear b3 f0 f1 f2 f3 f4 f5 f6 f7 f8 f9 f10 f11 g0 g1 g2 g3 g4 g5 g6 g7 g8 g9 M N z0 z1 z2 z3 z4 z5 z6 z7 z8 z9 z10 z11 k0 k1 k2;obtain ⟨⟨f0,f1,f2,f3,f4,f5,f6,f7,f8,f9,f10,f11⟩,k0,k1,k2,⟨g0,g1,g2,g3,g4,g5,g6,g7,g8,g9,M,N⟩,⟨z0,z1,z2,z3,z4,z5,z6,z7,z8,z9,z10,z11⟩⟩:=a3.o
 simp only [qu,Ct] at f0 f1 f2 f3 f4 f5 f6 f7 f8 f9 f10 f11 g0 g1 g2 g3 g4 g5 g6 g7 g8 g9 M N z0 z1 z2 z3 z4 z5 z6 z7 z8 z9 z10 z11 k0 k1 k2
 cases h4:Dy zs
 ·have U:qj (doV ⟨A,p,y,am,st,C,cl,bk,l,z,f,D⟩ ⟨k,m,r⟩ t zs=5):=if_pos (by simp [Fm,h4])
  have HC:qj (doC ⟨A,p,y,am,st,C,cl,bk,l,z,f,D⟩ ⟨k,m,r⟩ t zs=⟨A,p,y,am,st,C,cl,bk,l,z,f,D⟩):=if_neg (by rw [U.o];decide)
  have HE:qj (doE ⟨A,p,y,am,st,C,cl,bk,l,z,f,D⟩ ⟨k,m,r⟩ t zs=[]):=if_neg (by rw [U.o];decide)
  clear h1 h2 h3 h4;go_wp2
  refine bodyPost_ret (by simp [results,results125,go_sem,g0,g1,g2,g3,g4,g5,g6,g7,g8,g9,M,N];try rfl) rfl ?_
  rw [HC.o,HE.o,U.o]
  exact Fy (c:=⟨A,p,y,am,st,C,cl,bk,l,z,f,D⟩) (es:=[]) (base:=w.heap.size+1+1+1) (by omega) S.o HB.o
 have a9:qj (Fm ⟨A,p,y,am,st,C,cl,bk,l,z,f,D⟩ t zs=true):=by
  have g:f<=t:=by omega
  simp [qj,Fm,h1,h2,g,h4]
 have h9:=Aa h1;clear h1 h2 h3 h4;go_wp2_with fail
 clear i5;refine (Ady st k _).m ?_;rintro e w5 ⟨rfl,hw⟩;rw [hw];clear hw
 cases h5:Fi st k
 ·have U:qj (doV ⟨A,p,y,am,st,C,cl,bk,l,z,f,D⟩ ⟨k,m,r⟩ t zs=1):=by rw [qj,doV,if_neg (by rw [a9.o];decide),if_pos h5]
  have HC:qj (doC ⟨A,p,y,am,st,C,cl,bk,l,z,f,D⟩ ⟨k,m,r⟩ t zs=⟨A,p,y,am,st,C,cl,bk,l,z,f,D⟩):=if_neg (by rw [U.o];decide)
  have HE:qj (doE ⟨A,p,y,am,st,C,cl,bk,l,z,f,D⟩ ⟨k,m,r⟩ t zs=[]):=if_neg (by rw [U.o];decide)
  clear h5;go_wp2
  refine bodyPost_ret (by simp [results,results125,go_sem,g0,g1,g2,g3,g4,g5,g6,g7,g8,g9,M,N];try rfl) rfl ?_
  rw [HC.o,HE.o,U.o]
  exact Fy (c:=⟨A,p,y,am,st,C,cl,bk,l,z,f,D⟩) (es:=[]) (base:=w.heap.size+1+1+1) (by omega) S.o HB.o
 have d3:=Aa h5
 have d9:qj (0<=k/\k<=9):=by have:=Ol h5;rw [qj];omega
 clear h5;go_wp2_with fail
 refine (d0.o d9.o _ HB.o).m ?_;rintro e w4 ⟨rfl,b4⟩;replace a3:qj (BX w.heap.size ⟨A,p,y,am,st,C,cl,bk,l,z,f,D⟩ ⟨k,m,r⟩ w4):=a3.o.below b4;replace HB:qj (BW w w4):=next HB.o b4;replace S:qj (w4.ownsRow (w.heap.size+1+1+1) 217 4 (qf (some ⟨w.heap.size+1+1+1,0,none⟩) 0 0) 0 []):=A5 S.o b4;clear b4 f0 f1 f2 f3 f4 f5 f6 f7 f8 f9 f10 f11 g0 g1 g2 g3 g4 g5 g6 g7 g8 g9 M N z0 z1 z2 z3 z4 z5 z6 z7 z8 z9 z10 z11 k0 k1 k2 d0 d1;obtain ⟨⟨f0,f1,f2,f3,f4,f5,f6,f7,f8,f9,f10,f11⟩,k0,k1,k2,⟨g0,g1,g2,g3,g4,g5,g6,g7,g8,g9,M,N⟩,⟨z0,z1,z2,z3,z4,z5,z6,z7,z8,z9,z10,z11⟩⟩:=a3.o
 simp only [qu,Ct] at f0 f1 f2 f3 f4 f5 f6 f7 f8 f9 f10 f11 g0 g1 g2 g3 g4 g5 g6 g7 g8 g9 M N z0 z1 z2 z3 z4 z5 z6 z7 z8 z9 z10 z11 k0 k1 k2
 obtain ⟨cd,d6⟩:=Ae (Cj ⟨A,p,y,am,st,C,cl,bk,l,z,f,D⟩ ⟨k,m,r⟩ t zs);have c9:qj _:=d6;rw [d6] at b7 b8 ⊢;clear d6
 by_cases h0:cd=0
 rotate_left
 ·have U:qj (doV ⟨A,p,y,am,st,C,cl,bk,l,z,f,D⟩ ⟨k,m,r⟩ t zs=cd):=by rw [qj,doV,if_neg (by rw [a9.o];decide),if_neg (by rw [d3.o];decide),if_pos (by rw [c9.o];exact h0),c9.o]
  have HC:qj (doC ⟨A,p,y,am,st,C,cl,bk,l,z,f,D⟩ ⟨k,m,r⟩ t zs=⟨A,p,y,am,st,C,cl,bk,l,z,f,D⟩):=if_neg (by rw [U.o];exact h0)
  have HE:qj (doE ⟨A,p,y,am,st,C,cl,bk,l,z,f,D⟩ ⟨k,m,r⟩ t zs=[]):=if_neg (by rw [U.o];exact h0)
  have j1:(cd != 0)=true:=by simpa using h0
  clear h0;go_wp2
  refine bodyPost_ret (by simp [results,results125,go_sem,g0,g1,g2,g3,g4,g5,g6,g7,g8,g9,M,N];try rfl) rfl ?_
  rw [HC.o,HE.o,U.o]
  exact Fy (c:=⟨A,p,y,am,st,C,cl,bk,l,z,f,D⟩) (es:=[]) (base:=w.heap.size+1+1+1) (by omega) S.o HB.o
 subst h0;obtain ⟨V,hV⟩:=A0 (w4.alloc (.cells #[qzI A,qzI p,qzI y,qzI am,qzI st,qzI C,qzI cl,qzI bk,qzI l,.bool z,qzI f,qzI D] 111))
 have bV:BW w4 V:=by rw [hV];exact bR.alloc nL _
 have i2:=Mz h9.o
 simp only at i2
 obtain ⟨_,_,_,_,i7,_,_,i8,i9,j0,_,_⟩:=i2
 have c8:qj (0<=bk/\bk<=1000000000000):=⟨by omega,by omega⟩
 have d2:qj (0<=cl/\cl<=1000000000000):=⟨by omega,by omega⟩
 have d8:qj (0<=l/\l<=1000000):=⟨by omega,by omega⟩
 replace b7:qj (k=3->1<=m/\m<=1000000000000):=λhk=>by have:=b7.o rfl hk;omega
 replace b8:qj (k=7->0<=m/\m<=1000000000000):=λhk=>by have:=b8.o rfl hk;omega
 obtain ⟨h,hh⟩:=A0 w4.heap.size;obtain ⟨g,hg⟩:=A0 (w.heap.size+1+1+1)
 have F:qj (QS w h g ⟨A,p,y,am,st,C,cl,bk,l,z,f,D⟩ ⟨k,m,r⟩ ⟨A,p,y,am,st,C,cl,bk,l,z,f,D⟩ V):=by
  refine ⟨a3.o.below bV,⟨?_,?_⟩,by rw [hg];exact A5 S.o bV,by rw [hh];exact a3.o.rb.lt,?_,next HB.o bV⟩
  ·rw [hV,hh];exact CB.new w4 ⟨A,p,y,am,st,C,cl,bk,l,z,f,D⟩ _
  ·rw [hV,hh];exact FZ.new w4 _ _
  ·have h1:w.heap.size+1+1+1<w4.heap.size:=(S.o.lt (w.heap.size+1+1+1) rfl).2
   rw [hg,hh];exact Nat.ne_of_lt h1
 have i1:qj _:=hV;clear hV bV i7 i8 i9 j0 S a3 HB;go_upto_region 11 with fail
 rw [<- i1.o,<- hh];have i3:=Aa hg.s;rw [i3.o];clear i1 hh hg f0 f1 f2 f3 f4 f5 f6 f7 f8 f9 f10 f11 g0 g1 g2 g3 g4 g5 g6 g7 g8 g9 M N z0 z1 z2 z3 z4 z5 z6 z7 z8 z9 z10 z11 k0 k1 k2;obtain ⟨⟨f0,f1,f2,f3,f4,f5,f6,f7,f8,f9,f10,f11⟩,k0,k1,k2,_,_⟩:=F.o.bx
 simp only [qu] at f0 f1 f2 f3 f4 f5 f6 f7 f8 f9 f10 f11 k0 k1 k2
 go_upto_block 0 with fail
 go_cut [14] (λv wc=>SW w h g ⟨A,p,y,am,st,C,cl,bk,l,z,f,D⟩ ⟨k,m,r⟩ (Ca ⟨A,p,y,am,st,C,cl,bk,l,z,f,D⟩ ⟨k,m,r⟩ t zs) (Cc ⟨A,p,y,am,st,C,cl,bk,l,z,f,D⟩ ⟨k,m,r⟩) v wc)
 case first =>
  have i6:=d9.o
  rcases (show k=0\/k=1\/k=2\/k=3\/k=4\/k=5\/k=6\/k=7\/k=8\/k=9 by omega) with rfl|rfl|rfl|rfl|rfl|rfl|rfl|rfl|rfl|rfl
  all_goals clear i6
  ·have HN:qj (Ca ⟨A,p,y,am,st,C,cl,bk,l,z,f,D⟩ ⟨0,m,r⟩ t zs=⟨A,p,y,am,1,C,cl,bk,l,z,f,Dt t 20 zs⟩):=by simp [qj,Ca]
   have O:qj (Cc ⟨A,p,y,am,st,C,cl,bk,l,z,f,D⟩ ⟨0,m,r⟩=[]):=by simp [qj,Cc]
   obtain ⟨p0,p1,p2,p3,p4,p5,p6,p7,p8,p9,I,J⟩:=F.o.nb.cb;obtain ⟨y0,y1,y2,y3,y4,y5,y6,y7,y8,y9,L,G⟩:=F.o.nb.fz
   simp only [qu] at p0 p1 p2 p3 p4 p5 p6 p7 p8 p9 I J y0 y1 y2 y3 y4 y5 y6 y7 y8 y9 L G
   go_wp2_with fail
   refine (Ly 4 _).m ?_;rintro e u1 ⟨rfl,b1⟩
   rw [show N4 4=20 from rfl]
   have Z:qj _:=((F.o.at 4 (qzI 1) (F.o.nb.set4 1))).below b1;clear b1;go_wp2_with fail
   refine (Mb t 20 ao cp zs _ (HI.o.below Z.o.bel) hn).m ?_;rintro e u2 ⟨rfl,b2⟩;have H:qj _:=Z.o.below b2;have G:=H.o.nb.fz.z11;have a6:=H.o.nb.cb.f11
   simp only [qu] at a6 G
   clear b2;go_wp2;go_meet;rw [HN.o,O.o];exact ⟨some (qzA g 0),0,rfl,(H.o.at 11 (qzI (Dt t 20 zs)) (H.o.nb.set11 (Dt t 20 zs))),((H.o.at 11 (qzI (Dt t 20 zs)) (H.o.nb.set11 (Dt t 20 zs)))).no⟩
  ·have HN:qj (Ca ⟨A,p,y,am,st,C,cl,bk,l,z,f,D⟩ ⟨1,m,r⟩ t zs=Oe ⟨A,p,y,am,st,C,cl,bk,l,z,f,D⟩):=by simp [qj,Ca]
   have O:qj (Cc ⟨A,p,y,am,st,C,cl,bk,l,z,f,D⟩ ⟨1,m,r⟩=[]):=by simp [qj,Cc]
   obtain ⟨p0,p1,p2,p3,p4,p5,p6,p7,p8,p9,I,J⟩:=F.o.nb.cb;obtain ⟨y0,y1,y2,y3,y4,y5,y6,y7,y8,y9,L,G⟩:=F.o.nb.fz
   simp only [qu] at p0 p1 p2 p3 p4 p5 p6 p7 p8 p9 I J y0 y1 y2 y3 y4 y5 y6 y7 y8 y9 L G
   go_wp2;go_meet;rw [HN.o,O.o];exact ⟨some (qzA g 0),0,rfl,(((F.o.at 4 (qzI 2) (F.o.nb.set4 2)).at 9 (.bool true) ((F.o.at 4 (qzI 2) (F.o.nb.set4 2)).nb.set9 true)).at 11 (qzI (-1)) (((F.o.at 4 (qzI 2) (F.o.nb.set4 2)).at 9 (.bool true) ((F.o.at 4 (qzI 2) (F.o.nb.set4 2)).nb.set9 true)).nb.set11 (-1))),((((F.o.at 4 (qzI 2) (F.o.nb.set4 2)).at 9 (.bool true) ((F.o.at 4 (qzI 2) (F.o.nb.set4 2)).nb.set9 true)).at 11 (qzI (-1)) (((F.o.at 4 (qzI 2) (F.o.nb.set4 2)).at 9 (.bool true) ((F.o.at 4 (qzI 2) (F.o.nb.set4 2)).nb.set9 true)).nb.set11 (-1)))).no⟩
  ·have HN:qj (Ca ⟨A,p,y,am,st,C,cl,bk,l,z,f,D⟩ ⟨2,m,r⟩ t zs=⟨A,p,y,am,3,r,m,m,l,z,f,Dt t 30 zs⟩):=by simp [qj,Ca]
   have O:qj (Cc ⟨A,p,y,am,st,C,cl,bk,l,z,f,D⟩ ⟨2,m,r⟩=Ck ⟨A,p,y,am,st,C,cl,bk,l,z,f,D⟩ m):=by simp [qj,Cc]
   obtain ⟨p0,p1,p2,p3,p4,p5,p6,p7,p8,p9,I,J⟩:=F.o.nb.cb;obtain ⟨y0,y1,y2,y3,y4,y5,y6,y7,y8,y9,L,G⟩:=F.o.nb.fz
   simp only [qu] at p0 p1 p2 p3 p4 p5 p6 p7 p8 p9 I J y0 y1 y2 y3 y4 y5 y6 y7 y8 y9 L G
   go_wp2_with fail
   refine (Ly 0 _).m ?_;rintro e u1 ⟨rfl,b1⟩
   rw [show N4 0=30 from rfl]
   have Z:qj _:=((((F.o.at 4 (qzI 3) (F.o.nb.set4 3)).at 5 (qzI r) ((F.o.at 4 (qzI 3) (F.o.nb.set4 3)).nb.set5 r)).at 6 (qzI m) (((F.o.at 4 (qzI 3) (F.o.nb.set4 3)).at 5 (qzI r) ((F.o.at 4 (qzI 3) (F.o.nb.set4 3)).nb.set5 r)).nb.set6 m)).at 7 (qzI m) ((((F.o.at 4 (qzI 3) (F.o.nb.set4 3)).at 5 (qzI r) ((F.o.at 4 (qzI 3) (F.o.nb.set4 3)).nb.set5 r)).at 6 (qzI m) (((F.o.at 4 (qzI 3) (F.o.nb.set4 3)).at 5 (qzI r) ((F.o.at 4 (qzI 3) (F.o.nb.set4 3)).nb.set5 r)).nb.set6 m)).nb.set7 m)).below b1;clear b1;go_wp2_with fail
   refine (Mb t 30 ao cp zs _ (HI.o.below Z.o.bel) hn).m ?_;rintro e u2 ⟨rfl,b2⟩;have H:qj _:=Z.o.below b2;have G:=H.o.nb.fz.z11;have a6:=H.o.nb.cb.f11
   simp only [qu] at a6 G
   clear b2;have a8:qj _:=H.o.at 11 (qzI (Dt t 30 zs)) (H.o.nb.set11 (Dt t 30 zs));obtain ⟨⟨e0,e1,e2,e3,e4,e5,e6,e7,e8,e9,d4,d5⟩,l0,l1,l2,_,_⟩:=a8.o.bx
   simp only [qu] at e0 e1 e2 e3 e4 e5 e6 e7 e8 e9 d4 d5 l0 l1 l2
   go_wp2_with fail
   refine (qS ⟨A,p,y,am,st,C,cl,bk,l,z,f,D⟩ m _).m ?_;rintro e u3 ⟨ae,ke,rfl,oe,b3⟩;have T:qj _:=a8.o.below b3
   have a5:qj _:=Bz oe (show w.heap.size+1+1+1<=_ from a8.o.bx.rb.lt)
   clear oe b3;go_wp2;go_meet;rw [HN.o,O.o];exact ⟨ae,ke,rfl,T.o,a5.o⟩
  ·have HN:qj (Ca ⟨A,p,y,am,st,C,cl,bk,l,z,f,D⟩ ⟨3,m,r⟩ t zs=⟨A,p,y,am,4,C,m,bk - m,l,z,f,Dt t 30 zs⟩):=by simp [qj,Ca]
   have O:qj (Cc ⟨A,p,y,am,st,C,cl,bk,l,z,f,D⟩ ⟨3,m,r⟩=Ez ⟨A,p,y,am,st,C,cl,bk,l,z,f,D⟩ m):=by simp [qj,Cc]
   have j3:=b7.o rfl;have j2:=c8.o;obtain ⟨p0,p1,p2,p3,p4,p5,p6,p7,p8,p9,I,J⟩:=F.o.nb.cb;obtain ⟨y0,y1,y2,y3,y4,y5,y6,y7,y8,y9,L,G⟩:=F.o.nb.fz
   simp only [qu] at p0 p1 p2 p3 p4 p5 p6 p7 p8 p9 I J y0 y1 y2 y3 y4 y5 y6 y7 y8 y9 L G
   go_wp2_with fail
   refine (Ly 1 _).m ?_;rintro e u1 ⟨rfl,b1⟩
   rw [show N4 1=30 from rfl]
   have Z:qj _:=(((F.o.at 4 (qzI 4) (F.o.nb.set4 4)).at 6 (qzI m) ((F.o.at 4 (qzI 4) (F.o.nb.set4 4)).nb.set6 m)).at 7 (qzI (bk - m)) (((F.o.at 4 (qzI 4) (F.o.nb.set4 4)).at 6 (qzI m) ((F.o.at 4 (qzI 4) (F.o.nb.set4 4)).nb.set6 m)).nb.set7 (bk - m))).below b1;clear b1;go_wp2_with fail
   refine (Mb t 30 ao cp zs _ (HI.o.below Z.o.bel) hn).m ?_;rintro e u2 ⟨rfl,b2⟩;have H:qj _:=Z.o.below b2;have G:=H.o.nb.fz.z11;have a6:=H.o.nb.cb.f11
   simp only [qu] at a6 G
   clear b2;have a8:qj _:=H.o.at 11 (qzI (Dt t 30 zs)) (H.o.nb.set11 (Dt t 30 zs));obtain ⟨⟨e0,e1,e2,e3,e4,e5,e6,e7,e8,e9,d4,d5⟩,l0,l1,l2,_,_⟩:=a8.o.bx
   simp only [qu] at e0 e1 e2 e3 e4 e5 e6 e7 e8 e9 d4 d5 l0 l1 l2
   go_wp2_with fail
   refine (zV ⟨A,p,y,am,st,C,cl,bk,l,z,f,D⟩ m _).m ?_;rintro e u3 ⟨ae,ke,rfl,oe,b3⟩;have T:qj _:=a8.o.below b3
   have a5:qj _:=Bz oe (show w.heap.size+1+1+1<=_ from a8.o.bx.rb.lt)
   clear oe b3;go_wp2;go_meet;rw [HN.o,O.o];exact ⟨ae,ke,rfl,T.o,a5.o⟩
  ·have HN:qj (Ca ⟨A,p,y,am,st,C,cl,bk,l,z,f,D⟩ ⟨4,m,r⟩ t zs=⟨A,p,y,am,5,C,m,bk,l,z,f,Dt t 15 zs⟩):=by simp [qj,Ca]
   have O:qj (Cc ⟨A,p,y,am,st,C,cl,bk,l,z,f,D⟩ ⟨4,m,r⟩=[]):=by simp [qj,Cc]
   obtain ⟨p0,p1,p2,p3,p4,p5,p6,p7,p8,p9,I,J⟩:=F.o.nb.cb;obtain ⟨y0,y1,y2,y3,y4,y5,y6,y7,y8,y9,L,G⟩:=F.o.nb.fz
   simp only [qu] at p0 p1 p2 p3 p4 p5 p6 p7 p8 p9 I J y0 y1 y2 y3 y4 y5 y6 y7 y8 y9 L G
   go_wp2_with fail
   refine (Ly 2 _).m ?_;rintro e u1 ⟨rfl,b1⟩
   rw [show N4 2=15 from rfl]
   have Z:qj _:=((F.o.at 4 (qzI 5) (F.o.nb.set4 5)).at 6 (qzI m) ((F.o.at 4 (qzI 5) (F.o.nb.set4 5)).nb.set6 m)).below b1;clear b1;go_wp2_with fail
   refine (Mb t 15 ao cp zs _ (HI.o.below Z.o.bel) hn).m ?_;rintro e u2 ⟨rfl,b2⟩;have H:qj _:=Z.o.below b2;have G:=H.o.nb.fz.z11;have a6:=H.o.nb.cb.f11
   simp only [qu] at a6 G
   clear b2;go_wp2;go_meet;rw [HN.o,O.o];exact ⟨some (qzA g 0),0,rfl,(H.o.at 11 (qzI (Dt t 15 zs)) (H.o.nb.set11 (Dt t 15 zs))),((H.o.at 11 (qzI (Dt t 15 zs)) (H.o.nb.set11 (Dt t 15 zs)))).no⟩
  ·have HN:qj (Ca ⟨A,p,y,am,st,C,cl,bk,l,z,f,D⟩ ⟨5,m,r⟩ t zs=Mr ⟨A,p,y,am,st,C,cl,bk,l,z,f,D⟩ cl):=by simp [qj,Ca]
   have O:qj (Cc ⟨A,p,y,am,st,C,cl,bk,l,z,f,D⟩ ⟨5,m,r⟩=Ck ⟨A,p,y,am,st,C,cl,bk,l,z,f,D⟩ cl):=by simp [qj,Cc]
   have R:qj (∀ u,qi 156 #[cv ⟨A,p,y,am,st,C,cl,bk,l,z,f,D⟩,qzI cl] u (Ix u (Mr ⟨A,p,y,am,st,C,cl,bk,l,z,f,D⟩ cl) (Ck ⟨A,p,y,am,st,C,cl,bk,l,z,f,D⟩ cl))):=λu=>Ri ⟨A,p,y,am,st,C,cl,bk,l,z,f,D⟩ cl u c8.o d2.o
   unfold Ix at R;obtain ⟨n,Y⟩:=Ae (Ca ⟨A,p,y,am,st,C,cl,bk,l,z,f,D⟩ ⟨5,m,r⟩ t zs);obtain ⟨E,X⟩:=Ae (Cc ⟨A,p,y,am,st,C,cl,bk,l,z,f,D⟩ ⟨5,m,r⟩);have a4:qj _:=Y;have a7:qj _:=X;rw [<- HN.o,<- O.o,Y,X] at R;clear Y X;obtain ⟨n0,n1,n2,n3,n4,n5,n6,n7,n8,n9,n10,n11⟩:=n;unfold cv at R
   simp only at R
   obtain ⟨p0,p1,p2,p3,p4,p5,p6,p7,p8,p9,I,J⟩:=F.o.nb.cb;obtain ⟨y0,y1,y2,y3,y4,y5,y6,y7,y8,y9,L,G⟩:=F.o.nb.fz
   simp only [qu] at p0 p1 p2 p3 p4 p5 p6 p7 p8 p9 I J y0 y1 y2 y3 y4 y5 y6 y7 y8 y9 L G
   go_wp2_with fail
   refine (R.o _).m ?_;rintro e u3 ⟨ae,ke,rfl,oe,b3⟩;have T:qj _:=F.o.below b3
   have a5:qj _:=Bz oe (show w.heap.size+1+1+1<=_ from F.o.bx.rb.lt)
   have b5:qj (∀ j,(Value.slice ae E.length ke).ownBlock=some j->j≠h):=λj hj=>by have:=(oe.lt j hj).1;have:=F.o.nb.cb.lt;omega
   clear oe b3 p0 p1 p2 p3 p4 p5 p6 p7 p8 p9 I J y0 y1 y2 y3 y4 y5 y6 y7 y8 y9 L G;obtain ⟨p0,p1,p2,p3,p4,p5,p6,p7,p8,p9,I,J⟩:=T.o.nb.cb;obtain ⟨y0,y1,y2,y3,y4,y5,y6,y7,y8,y9,L,G⟩:=T.o.nb.fz
   simp only [qu] at p0 p1 p2 p3 p4 p5 p6 p7 p8 p9 I J y0 y1 y2 y3 y4 y5 y6 y7 y8 y9 L G
   go_wp2;go_meet;rw [a4.o,a7.o];exact ⟨ae,ke,rfl,T.o.put (m:=⟨n0,n1,n2,n3,n4,n5,n6,n7,n8,n9,n10,n11⟩),Hy ⟨n0,n1,n2,n3,n4,n5,n6,n7,n8,n9,n10,n11⟩ a5.o b5.o⟩
  ·have HN:qj (Ca ⟨A,p,y,am,st,C,cl,bk,l,z,f,D⟩ ⟨6,m,r⟩ t zs=⟨A,p,y,am,6,C,cl,bk,l,z,f,Dt t 60 zs⟩):=by simp [qj,Ca]
   have O:qj (Cc ⟨A,p,y,am,st,C,cl,bk,l,z,f,D⟩ ⟨6,m,r⟩=[]):=by simp [qj,Cc]
   obtain ⟨p0,p1,p2,p3,p4,p5,p6,p7,p8,p9,I,J⟩:=F.o.nb.cb;obtain ⟨y0,y1,y2,y3,y4,y5,y6,y7,y8,y9,L,G⟩:=F.o.nb.fz
   simp only [qu] at p0 p1 p2 p3 p4 p5 p6 p7 p8 p9 I J y0 y1 y2 y3 y4 y5 y6 y7 y8 y9 L G
   go_wp2_with fail
   refine (Ly 3 _).m ?_;rintro e u1 ⟨rfl,b1⟩
   rw [show N4 3=60 from rfl]
   have Z:qj _:=(F.o.at 4 (qzI 6) (F.o.nb.set4 6)).below b1;clear b1;go_wp2_with fail
   refine (Mb t 60 ao cp zs _ (HI.o.below Z.o.bel) hn).m ?_;rintro e u2 ⟨rfl,b2⟩;have H:qj _:=Z.o.below b2;have G:=H.o.nb.fz.z11;have a6:=H.o.nb.cb.f11
   simp only [qu] at a6 G
   clear b2;go_wp2;go_meet;rw [HN.o,O.o];exact ⟨some (qzA g 0),0,rfl,(H.o.at 11 (qzI (Dt t 60 zs)) (H.o.nb.set11 (Dt t 60 zs))),((H.o.at 11 (qzI (Dt t 60 zs)) (H.o.nb.set11 (Dt t 60 zs)))).no⟩
  ·have HN:qj (Ca ⟨A,p,y,am,st,C,cl,bk,l,z,f,D⟩ ⟨7,m,r⟩ t zs=Gp ⟨A,p,y,am,st,C,cl,bk,l,z,f,D⟩ m):=by simp [qj,Ca]
   have O:qj (Cc ⟨A,p,y,am,st,C,cl,bk,l,z,f,D⟩ ⟨7,m,r⟩=Fc ⟨A,p,y,am,st,C,cl,bk,l,z,f,D⟩ m):=by simp [qj,Cc]
   have R:qj (∀ u,qi 157 #[cv ⟨A,p,y,am,st,C,cl,bk,l,z,f,D⟩,qzI m] u (Ix u (Gp ⟨A,p,y,am,st,C,cl,bk,l,z,f,D⟩ m) (Fc ⟨A,p,y,am,st,C,cl,bk,l,z,f,D⟩ m))):=λu=>Z5 ⟨A,p,y,am,st,C,cl,bk,l,z,f,D⟩ m u c8.o (b8.o rfl) d8.o
   unfold Ix at R;obtain ⟨n,Y⟩:=Ae (Ca ⟨A,p,y,am,st,C,cl,bk,l,z,f,D⟩ ⟨7,m,r⟩ t zs);obtain ⟨E,X⟩:=Ae (Cc ⟨A,p,y,am,st,C,cl,bk,l,z,f,D⟩ ⟨7,m,r⟩);have a4:qj _:=Y;have a7:qj _:=X;rw [<- HN.o,<- O.o,Y,X] at R;clear Y X;obtain ⟨n0,n1,n2,n3,n4,n5,n6,n7,n8,n9,n10,n11⟩:=n;unfold cv at R
   simp only at R
   obtain ⟨p0,p1,p2,p3,p4,p5,p6,p7,p8,p9,I,J⟩:=F.o.nb.cb;obtain ⟨y0,y1,y2,y3,y4,y5,y6,y7,y8,y9,L,G⟩:=F.o.nb.fz
   simp only [qu] at p0 p1 p2 p3 p4 p5 p6 p7 p8 p9 I J y0 y1 y2 y3 y4 y5 y6 y7 y8 y9 L G
   go_wp2_with fail
   refine (R.o _).m ?_;rintro e u3 ⟨ae,ke,rfl,oe,b3⟩;have T:qj _:=F.o.below b3
   have a5:qj _:=Bz oe (show w.heap.size+1+1+1<=_ from F.o.bx.rb.lt)
   have b5:qj (∀ j,(Value.slice ae E.length ke).ownBlock=some j->j≠h):=λj hj=>by have:=(oe.lt j hj).1;have:=F.o.nb.cb.lt;omega
   clear oe b3 p0 p1 p2 p3 p4 p5 p6 p7 p8 p9 I J y0 y1 y2 y3 y4 y5 y6 y7 y8 y9 L G;obtain ⟨p0,p1,p2,p3,p4,p5,p6,p7,p8,p9,I,J⟩:=T.o.nb.cb;obtain ⟨y0,y1,y2,y3,y4,y5,y6,y7,y8,y9,L,G⟩:=T.o.nb.fz
   simp only [qu] at p0 p1 p2 p3 p4 p5 p6 p7 p8 p9 I J y0 y1 y2 y3 y4 y5 y6 y7 y8 y9 L G
   go_wp2;go_meet;rw [a4.o,a7.o];exact ⟨ae,ke,rfl,T.o.put (m:=⟨n0,n1,n2,n3,n4,n5,n6,n7,n8,n9,n10,n11⟩),Hy ⟨n0,n1,n2,n3,n4,n5,n6,n7,n8,n9,n10,n11⟩ a5.o b5.o⟩
  ·have HN:qj (Ca ⟨A,p,y,am,st,C,cl,bk,l,z,f,D⟩ ⟨8,m,r⟩ t zs=De ⟨A,p,y,am,st,C,cl,bk,l,z,f,D⟩):=by simp [qj,Ca]
   have O:qj (Cc ⟨A,p,y,am,st,C,cl,bk,l,z,f,D⟩ ⟨8,m,r⟩=C6 ⟨A,p,y,am,st,C,cl,bk,l,z,f,D⟩):=by simp [qj,Cc]
   have R:qj (∀ u,qi 158 #[cv ⟨A,p,y,am,st,C,cl,bk,l,z,f,D⟩] u (Ix u (De ⟨A,p,y,am,st,C,cl,bk,l,z,f,D⟩) (C6 ⟨A,p,y,am,st,C,cl,bk,l,z,f,D⟩))):=λu=>jS ⟨A,p,y,am,st,C,cl,bk,l,z,f,D⟩ u c8.o d2.o d8.o
   unfold Ix at R;obtain ⟨n,Y⟩:=Ae (Ca ⟨A,p,y,am,st,C,cl,bk,l,z,f,D⟩ ⟨8,m,r⟩ t zs);obtain ⟨E,X⟩:=Ae (Cc ⟨A,p,y,am,st,C,cl,bk,l,z,f,D⟩ ⟨8,m,r⟩);have a4:qj _:=Y;have a7:qj _:=X;rw [<- HN.o,<- O.o,Y,X] at R;clear Y X;obtain ⟨n0,n1,n2,n3,n4,n5,n6,n7,n8,n9,n10,n11⟩:=n;unfold cv at R
   simp only at R
   obtain ⟨p0,p1,p2,p3,p4,p5,p6,p7,p8,p9,I,J⟩:=F.o.nb.cb;obtain ⟨y0,y1,y2,y3,y4,y5,y6,y7,y8,y9,L,G⟩:=F.o.nb.fz
   simp only [qu] at p0 p1 p2 p3 p4 p5 p6 p7 p8 p9 I J y0 y1 y2 y3 y4 y5 y6 y7 y8 y9 L G
   go_wp2_with fail
   refine (R.o _).m ?_;rintro e u3 ⟨ae,ke,rfl,oe,b3⟩;have T:qj _:=F.o.below b3
   have a5:qj _:=Bz oe (show w.heap.size+1+1+1<=_ from F.o.bx.rb.lt)
   have b5:qj (∀ j,(Value.slice ae E.length ke).ownBlock=some j->j≠h):=λj hj=>by have:=(oe.lt j hj).1;have:=F.o.nb.cb.lt;omega
   clear oe b3 p0 p1 p2 p3 p4 p5 p6 p7 p8 p9 I J y0 y1 y2 y3 y4 y5 y6 y7 y8 y9 L G;obtain ⟨p0,p1,p2,p3,p4,p5,p6,p7,p8,p9,I,J⟩:=T.o.nb.cb;obtain ⟨y0,y1,y2,y3,y4,y5,y6,y7,y8,y9,L,G⟩:=T.o.nb.fz
   simp only [qu] at p0 p1 p2 p3 p4 p5 p6 p7 p8 p9 I J y0 y1 y2 y3 y4 y5 y6 y7 y8 y9 L G
   go_wp2;go_meet;rw [a4.o,a7.o];exact ⟨ae,ke,rfl,T.o.put (m:=⟨n0,n1,n2,n3,n4,n5,n6,n7,n8,n9,n10,n11⟩),Hy ⟨n0,n1,n2,n3,n4,n5,n6,n7,n8,n9,n10,n11⟩ a5.o b5.o⟩
  ·have HN:qj (Ca ⟨A,p,y,am,st,C,cl,bk,l,z,f,D⟩ ⟨9,m,r⟩ t zs=⟨A,p,y,am,7,C,cl,bk,l,z,f,-1⟩):=by simp [qj,Ca]
   have O:qj (Cc ⟨A,p,y,am,st,C,cl,bk,l,z,f,D⟩ ⟨9,m,r⟩=[]):=by simp [qj,Cc]
   obtain ⟨p0,p1,p2,p3,p4,p5,p6,p7,p8,p9,I,J⟩:=F.o.nb.cb;obtain ⟨y0,y1,y2,y3,y4,y5,y6,y7,y8,y9,L,G⟩:=F.o.nb.fz
   simp only [qu] at p0 p1 p2 p3 p4 p5 p6 p7 p8 p9 I J y0 y1 y2 y3 y4 y5 y6 y7 y8 y9 L G
   go_wp2;go_meet;rw [HN.o,O.o];exact ⟨some (qzA g 0),0,rfl,((F.o.at 4 (qzI 7) (F.o.nb.set4 7)).at 11 (qzI (-1)) ((F.o.at 4 (qzI 7) (F.o.nb.set4 7)).nb.set11 (-1))),(((F.o.at 4 (qzI 7) (F.o.nb.set4 7)).at 11 (qzI (-1)) ((F.o.at 4 (qzI 7) (F.o.nb.set4 7)).nb.set11 (-1)))).no⟩
 case rest =>
  obtain ⟨ae,ke,rfl,Q5,o5⟩:=hcut;clear f0 f1 f2 f3 f4 f5 f6 f7 f8 f9 f10 f11 k0 k1 k2;obtain ⟨n,Y⟩:=Ae (Ca ⟨A,p,y,am,st,C,cl,bk,l,z,f,D⟩ ⟨k,m,r⟩ t zs);obtain ⟨E,X⟩:=Ae (Cc ⟨A,p,y,am,st,C,cl,bk,l,z,f,D⟩ ⟨k,m,r⟩);rw [Y] at Q5;rw [X] at o5 ⊢;have a4:qj _:=Y;have a7:qj _:=X
  have b0:qj (∀ u,qi 148 #[cv n] u λe w'=>e=.returned (.bool (Aq n))/\BW u w'):=λu=>N9 n u
  obtain ⟨n0,n1,n2,n3,n4,n5,n6,n7,n8,n9,n10,n11⟩:=n;unfold cv at b0
  simp only at b0
  have i0:=Aa Q5;have h8:=Aa o5;obtain ⟨f0,f1,f2,f3,f4,f5,f6,f7,f8,f9,f10,f11⟩:=Q5.nb.cb
  simp only [qu] at f0 f1 f2 f3 f4 f5 f6 f7 f8 f9 f10 f11
  clear Y X Q5 o5 F;go_wp2_with fail
  refine (b0.o _).m ?_;rintro e w6 ⟨rfl,b6⟩;have b9:=Aa (i0.o.below b6);have i4:=Aa (A5 h8.o b6);have HB:=Aa b9.o.bel;have S:=Aa b9.o.no;clear b6 f0 f1 f2 f3 f4 f5 f6 f7 f8 f9 f10 f11 i0 h8 b0
  cases h6:Aq ⟨n0,n1,n2,n3,n4,n5,n6,n7,n8,n9,n10,n11⟩
  ·have U:qj (doV ⟨A,p,y,am,st,C,cl,bk,l,z,f,D⟩ ⟨k,m,r⟩ t zs=1):=by rw [qj,doV,if_neg (by rw [a9.o];decide),if_neg (by rw [d3.o];decide),if_neg (by rw [c9.o];decide),a4.o,if_neg (by rw [h6];decide)]
   have HC:qj (doC ⟨A,p,y,am,st,C,cl,bk,l,z,f,D⟩ ⟨k,m,r⟩ t zs=⟨A,p,y,am,st,C,cl,bk,l,z,f,D⟩):=if_neg (by rw [U.o];decide)
   have HE:qj (doE ⟨A,p,y,am,st,C,cl,bk,l,z,f,D⟩ ⟨k,m,r⟩ t zs=[]):=if_neg (by rw [U.o];decide)
   clear h6;obtain ⟨⟨f0,f1,f2,f3,f4,f5,f6,f7,f8,f9,f10,f11⟩,k0,k1,k2,⟨g0,g1,g2,g3,g4,g5,g6,g7,g8,g9,M,N⟩,⟨z0,z1,z2,z3,z4,z5,z6,z7,z8,z9,z10,z11⟩⟩:=b9.o.bx
   simp only [qu,Ct] at f0 f1 f2 f3 f4 f5 f6 f7 f8 f9 f10 f11 g0 g1 g2 g3 g4 g5 g6 g7 g8 g9 M N z0 z1 z2 z3 z4 z5 z6 z7 z8 z9 z10 z11 k0 k1 k2
   clear k0 k1 k2;go_wp2
   refine bodyPost_ret (by simp [results,results125,go_sem,g0,g1,g2,g3,g4,g5,g6,g7,g8,g9,M,N];try rfl) rfl ?_
   rw [HC.o,HE.o,U.o]
   exact Fy (c:=⟨A,p,y,am,st,C,cl,bk,l,z,f,D⟩) (es:=[]) (base:=w.heap.size+1+1+1) (by omega) S.o HB.o
  ·have U:qj (doV ⟨A,p,y,am,st,C,cl,bk,l,z,f,D⟩ ⟨k,m,r⟩ t zs=0):=by rw [qj,doV,if_neg (by rw [a9.o];decide),if_neg (by rw [d3.o];decide),if_neg (by rw [c9.o];decide),a4.o,if_pos h6]
   have HC:qj (doC ⟨A,p,y,am,st,C,cl,bk,l,z,f,D⟩ ⟨k,m,r⟩ t zs=⟨n0,n1,n2,n3,n4,n5,n6,n7,n8,n9,n10,n11⟩):=by rw [qj,doC,if_pos U.o,a4.o]
   have HE:qj (doE ⟨A,p,y,am,st,C,cl,bk,l,z,f,D⟩ ⟨k,m,r⟩ t zs=E):=by rw [qj,doE,if_pos U.o,a7.o]
   clear h6;obtain ⟨⟨f0,f1,f2,f3,f4,f5,f6,f7,f8,f9,f10,f11⟩,k0,k1,k2,⟨g0,g1,g2,g3,g4,g5,g6,g7,g8,g9,M,N⟩,⟨z0,z1,z2,z3,z4,z5,z6,z7,z8,z9,z10,z11⟩⟩:=b9.o.bx
   simp only [qu,Ct] at f0 f1 f2 f3 f4 f5 f6 f7 f8 f9 f10 f11 g0 g1 g2 g3 g4 g5 g6 g7 g8 g9 M N z0 z1 z2 z3 z4 z5 z6 z7 z8 z9 z10 z11 k0 k1 k2
   clear k0 k1 k2 f0 f1 f2 f3 f4 f5 f6 f7 f8 f9 f10 f11;obtain ⟨f0,f1,f2,f3,f4,f5,f6,f7,f8,f9,f10,f11⟩:=b9.o.nb.cb
   simp only [qu] at f0 f1 f2 f3 f4 f5 f6 f7 f8 f9 f10 f11
   go_wp2
   refine bodyPost_ret (by simp [results,results125,go_sem,g0,g1,g2,g3,g4,g5,g6,g7,g8,g9,M,N];try rfl) rfl ?_
   rw [HC.o,HE.o,U.o]
   exact Fy (c:=⟨n0,n1,n2,n3,n4,n5,n6,n7,n8,n9,n10,n11⟩) (es:=E) (base:=w.heap.size+1+1+1) (by omega) i4.o HB.o
end Go.Proofs.YtfpafnefpmmofaaGreatDoor
