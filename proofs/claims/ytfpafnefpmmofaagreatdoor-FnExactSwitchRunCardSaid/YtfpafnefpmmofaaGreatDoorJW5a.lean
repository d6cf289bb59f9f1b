import Derived.Test.YtfpafnefpmmofaaGreatDoorKWKbAct
import Derived.Test.YtfpafnefpmmofaaGreatDoorKWKbHand
import Derived.Test.YtfpafnefpmmofaaGreatDoorKWSDo2
import Derived.Test.YtfpafnefpmmofaaGreatDoorKWFDis5
set_option maxRecDepth 100000
set_option maxHeartbeats 12800000
namespace Go.Proofs.YtfpafnefpmmofaaGreatDoor
namespace Kb
open Go.RowKit Go.Proofs.Tryz
theorem eM {F:Ii} {b:Bk} {ws:Bn} {r:Bk×Int} (h:Hq F b ws r) (a:r.2≠0):r.1=b:=by
 unfold Hq at h
 split at h
 ·rw [h] at a ⊢;unfold eF Xu at a ⊢;split at a
  ·split at a
   ·exact absurd rfl a
   ·rw [if_pos ‹_›,if_neg ‹_›]
  ·rw [if_neg ‹_›]
 split at h
 ·rw [h] at a ⊢;unfold Ko Gy at a ⊢;split at a
  ·split at a
   ·exact absurd rfl a
   ·rw [if_pos ‹_›,if_neg ‹_›]
  ·rw [if_neg ‹_›]
 split at h
 ·unfold Km at h
  split at h
  ·obtain ⟨x,-,rfl⟩:=h
   unfold Lx at a ⊢
   split at a
   ·rw [if_pos ‹_›]
   rw [if_neg ‹_›]
   split at a
   ·rw [if_pos ‹_›]
   rw [if_neg ‹_›]
   split at a
   ·rw [if_pos ‹_›]
   rw [if_neg ‹_›]
   split at a
   ·rw [if_pos ‹_›]
   ·exact absurd rfl a
  ·rw [h]
 split at h
 ·rw [h] at a ⊢;unfold Pt at a ⊢;split at a
  ·rw [if_pos ‹_›]
   unfold Mc at a ⊢
   split at a
   ·rw [if_pos ‹_›]
   rw [if_neg ‹_›]
   split at a
   ·rw [if_pos ‹_›]
   rw [if_neg ‹_›]
   split at a
   ·rw [if_pos ‹_›]
   ·exact absurd rfl a
  ·rw [if_neg ‹_›]
 ·rw [h]
theorem Aig {F:Ii} {b:Bk} {l:qn} {r:Bk×Int} (h:Ip F b l r) (a:r.2≠0):r.1=b:=by
 unfold Ip at h
 split at h
 ·rw [h]
 ·obtain ⟨r0,c,rfl⟩:=h
  split at a
  ·exact absurd rfl a
  ·rw [if_neg ‹_›];exact eM c a
end Kb
end Go.Proofs.YtfpafnefpmmofaaGreatDoor
namespace Go.Proofs.YtfpafnefpmmofaaGreatDoor
open Go.RowKit Go.Proofs.Tryz
theorem jS (c:Cs) (w:ql) (hb:0<=c.bk/\c.bk<=1000000000000) (hc:0<=c.cl/\c.cl<=1000000000000) (hf:0<=c.fee/\c.fee<=1000000):qi 158 #[cv c] w (Ix w (De c) (C6 c)):=by
 have V:=Aa λu=>Ri c c.cl u hb hc
 have d:=Aa λu=>Ri c 0 u hb (by omega)
 have X:=Aa λu=>Z5 c (c.cl / 2) u hb (by omega) hf
 have HT:qj (c.cl.tdiv 2=c.cl / 2):=Int.tdiv_eq_ediv_of_nonneg hc.1;obtain ⟨W,Z⟩:=A0 ((w.alloc (.cells #[qzI c.iss,qzI c.acq,qzI c.cur,qzI c.am,qzI c.st,qzI c.rsn,qzI c.cl,qzI c.bk,qzI c.fee,.bool c.cop,qzI c.sta,qzI c.due] 111)).alloc (.cells #[qzI 0,qzI 0,qzI 0,qzI 0,qzI 0,qzI 0,qzI 0,qzI 0,qzI 0,.bool false,qzI 0,qzI 0] 111))
 have b1:Below (w.alloc (.cells #[qzI c.iss,qzI c.acq,qzI c.cur,qzI c.am,qzI c.st,qzI c.rsn,qzI c.cl,qzI c.bk,qzI c.fee,.bool c.cop,qzI c.sta,qzI c.due] 111)).heap.size (w.alloc (.cells #[qzI c.iss,qzI c.acq,qzI c.cur,qzI c.am,qzI c.st,qzI c.rsn,qzI c.cl,qzI c.bk,qzI c.fee,.bool c.cop,qzI c.sta,qzI c.due] 111)) W:=by rw [Z];exact bR.alloc nL _
 have e1:(w.alloc (.cells #[qzI c.iss,qzI c.acq,qzI c.cur,qzI c.am,qzI c.st,qzI c.rsn,qzI c.cl,qzI c.bk,qzI c.fee,.bool c.cop,qzI c.sta,qzI c.due] 111)).heap.size=w.heap.size+1:=by simp
 have B:=Aa ((CB.new w c _).below b1)
 have j:qj (CB (w.heap.size+1) 0 Ct W):=by
  have h:=CB.new (w.alloc (.cells #[qzI c.iss,qzI c.acq,qzI c.cur,qzI c.am,qzI c.st,qzI c.rsn,qzI c.cl,qzI c.bk,qzI c.fee,.bool c.cop,qzI c.sta,qzI c.due] 111)) Ct 111;rw [e1] at h
  rw [qj,Z];exact h
 have C:qj (FZ (w.heap.size+1) 0 W):=by
  have h:=FZ.new (w.alloc (.cells #[qzI c.iss,qzI c.acq,qzI c.cur,qzI c.am,qzI c.st,qzI c.rsn,qzI c.cl,qzI c.bk,qzI c.fee,.bool c.cop,qzI c.sta,qzI c.due] 111)) #[qzI 0,qzI 0,qzI 0,qzI 0,qzI 0,qzI 0,qzI 0,qzI 0,qzI 0,.bool false,qzI 0,qzI 0] 111;rw [e1] at h
  rw [qj,Z];exact h
 have A:qj (BW w W):=by rw [qj,Z];go_grown
 have D:=Aa Z
 have HS:qj (W.heap.size=w.heap.size+1+1):=by rw [qj,Z];simp
 clear b1 e1 Z hb hf;obtain ⟨ex,hex⟩:=Ae (De c);obtain ⟨ee,a3⟩:=Ae (C6 c);have f:=Aa hex;have a:=Aa a3;rw [hex,a3];clear hex a3;obtain ⟨q,k,l,am,st,r,cl,bk,p,n,s,y⟩:=c;unfold Ix cv at V d X;unfold cv;unfold Mr at V d;unfold Gp at X
 simp only at V d X HT D hc ⊢
 by_cases h1:st=1
 ·have Y:qj (ex=Oe ⟨q,k,l,am,st,r,cl,bk,p,n,s,y⟩):=by rw [qj,<- f.o];simp [De,h1]
  have U:qj (ee=[]):=by rw [qj,<- a.o];simp [C6,h1]
  subst h1;clear V d X HT f a B j C A HS D W
  go_enter func158,ntmps158
  go_wp2
  go_returns
  rw [Y.o,U.o]
  exact ⟨_,_,rfl,Pm _ _ _ (by simp) (by simp <;> omega),by go_grown⟩
 have a4:=A8 h1
 by_cases h5:st=5
 ·have Y:qj (ex=Mr ⟨q,k,l,am,st,r,cl,bk,p,n,s,y⟩ cl):=by rw [qj,<- f.o];simp [De,h5]
  have U:qj (ee=Ck ⟨q,k,l,am,st,r,cl,bk,p,n,s,y⟩ cl):=by rw [qj,<- a.o];simp [C6,h5]
  subst h5;clear d X HT f a h1
  go_enter func158,ntmps158
  go_upto_region 1 with fail
  rw [<- D.o];clear D;obtain ⟨f0,f1,f2,f3,f4,f5,f6,f7,f8,f9,f10,f11⟩:=B.o
  simp only [qu] at f0 f1 f2 f3 f4 f5 f6 f7 f8 f9 f10 f11
  go_wp2_with fail
  refine (V.o _).m ?_;rintro e u ⟨ae,ke,rfl,T,b⟩;have HO:=Aa T;have HB:=Aa (next A.o b);have v:=Aa (j.o.below b);have x:=Aa (C.o.below j.o.lt b);clear b T f0 f1 f2 f3 f4 f5 f6 f7 f8 f9 f10 f11;obtain ⟨F,G,H,I,J,L,M,O,R,S,g,i⟩:=v.o;obtain ⟨z0,z1,z2,z3,z4,z5,z6,z7,z8,z9,z10,z11⟩:=x.o
  simp only [qu,Ct] at F G H I J L M O R S g i z0 z1 z2 z3 z4 z5 z6 z7 z8 z9 z10 z11
  obtain ⟨N,z⟩:=Ae ((Ck ⟨q,k,l,am,5,r,cl,bk,p,n,s,y⟩ cl).length);have t:=Aa z;rw [z];clear z;go_wp2
  refine bodyPost_ret (by simp [results,results158,go_sem,F,G,H,I,J,L,M,O,R,S,g,i];try rfl) rfl ?_
  rw [Y.o,U.o,<- t.o]
  exact Ll (c:=Mr ⟨q,k,l,am,5,r,cl,bk,p,n,s,y⟩ cl) (h:=w.heap.size+1) (base:=W.heap.size) (by omega) (by have:=HS.o;omega) HO.o HB.o
 have a5:=A8 h5
 by_cases h6:st=6
 ·have Y:qj (ex=Gp ⟨q,k,l,am,st,r,cl,bk,p,n,s,y⟩ (cl / 2)):=by rw [qj,<- f.o];simp [De,h6]
  have U:qj (ee=Fc ⟨q,k,l,am,st,r,cl,bk,p,n,s,y⟩ (cl / 2)):=by rw [qj,<- a.o];simp [C6,h6]
  subst h6;clear V d f a h1 h5
  go_enter func158,ntmps158
  go_upto_region 1 with fail
  rw [<- D.o];clear D;obtain ⟨f0,f1,f2,f3,f4,f5,f6,f7,f8,f9,f10,f11⟩:=B.o
  simp only [qu] at f0 f1 f2 f3 f4 f5 f6 f7 f8 f9 f10 f11
  go_wp2_with fail
  try rw [HT.o]
  refine (X.o _).m ?_;rintro e u ⟨ae,ke,rfl,T,b⟩;have HO:=Aa T;have HB:=Aa (next A.o b);have v:=Aa (j.o.below b);have x:=Aa (C.o.below j.o.lt b);clear b T f0 f1 f2 f3 f4 f5 f6 f7 f8 f9 f10 f11;obtain ⟨F,G,H,I,J,L,M,O,R,S,g,i⟩:=v.o;obtain ⟨z0,z1,z2,z3,z4,z5,z6,z7,z8,z9,z10,z11⟩:=x.o
  simp only [qu,Ct] at F G H I J L M O R S g i z0 z1 z2 z3 z4 z5 z6 z7 z8 z9 z10 z11
  obtain ⟨N,z⟩:=Ae ((Fc ⟨q,k,l,am,6,r,cl,bk,p,n,s,y⟩ (cl / 2)).length);have t:=Aa z;rw [z];clear z;go_wp2
  refine bodyPost_ret (by simp [results,results158,go_sem,F,G,H,I,J,L,M,O,R,S,g,i];try rfl) rfl ?_
  rw [Y.o,U.o,<- t.o]
  exact Ll (c:=Gp ⟨q,k,l,am,6,r,cl,bk,p,n,s,y⟩ (cl / 2)) (h:=w.heap.size+1) (base:=W.heap.size) (by omega) (by have:=HS.o;omega) HO.o HB.o
 have a6:=A8 h6
 ·have Y:qj (ex=⟨q,k,l,am,7,r,0,bk,p,n,s,-1⟩):=by rw [qj,<- f.o];simp [De,h1,h5,h6,Mr]
  rw [Int.add_zero] at d
  have U:qj (ee=Ck ⟨q,k,l,am,st,r,cl,bk,p,n,s,y⟩ 0):=by rw [qj,<- a.o];simp [C6,h1,h5,h6,Ck]
  clear V X HT f a h1 h5 h6
  go_enter func158,ntmps158
  go_upto_region 1 with fail
  rw [<- D.o];clear D;obtain ⟨f0,f1,f2,f3,f4,f5,f6,f7,f8,f9,f10,f11⟩:=B.o
  simp only [qu] at f0 f1 f2 f3 f4 f5 f6 f7 f8 f9 f10 f11
  go_wp2_with fail
  refine (d.o _).m ?_;rintro e u ⟨ae,ke,rfl,T,b⟩;have HO:=Aa T;have HB:=Aa (next A.o b);have v:=Aa (j.o.below b);have x:=Aa (C.o.below j.o.lt b);clear b T f0 f1 f2 f3 f4 f5 f6 f7 f8 f9 f10 f11;obtain ⟨F,G,H,I,J,L,M,O,R,S,g,i⟩:=v.o;obtain ⟨z0,z1,z2,z3,z4,z5,z6,z7,z8,z9,z10,z11⟩:=x.o
  simp only [qu,Ct] at F G H I J L M O R S g i z0 z1 z2 z3 z4 z5 z6 z7 z8 z9 z10 z11
  obtain ⟨N,z⟩:=Ae ((Ck ⟨q,k,l,am,st,r,cl,bk,p,n,s,y⟩ 0).length);have t:=Aa z;rw [z];clear z;go_wp2
  refine bodyPost_ret (by simp [results,results158,go_sem,F,G,H,I,J,L,M,O,R,S,g,i];try rfl) rfl ?_
  rw [Y.o,U.o,<- t.o]
  exact Ll (c:=⟨q,k,l,am,7,r,0,bk,p,n,s,-1⟩) (h:=w.heap.size+1) (base:=W.heap.size) (by omega) (by have:=HS.o;omega) HO.o HB.o
theorem dU {b:Nat} {ao:qm} {G:Nat} {zs:List Int} {a:Ac} {t:Int} {c:Cs} {v:Value} {w:ql} (h:DS b ao G zs a t c [] v w) :
  qi 348 #[qh b] w (qp (.bool (Gk c t)) w):=by
 have c9:=h.db.cb.f9;have c4:=h.db.cb.f4
 simp only [qu] at c9 c4
 have HQ:=Aa (Jv h);obtain ⟨p,hp⟩:=Ae c.cop;obtain ⟨s,hs⟩:=Ae c.st;obtain ⟨l,D⟩:=Ae (Cr t c.due)
 have B:qj (Gk c t=(p || (decide (s=1) && l))):=by rw [qj,Gk,hp,hs,D]
 rw [hp] at c9;rw [hs] at c4;rw [D] at HQ;clear h hp hs D
 cases p
 ·by_cases h1:s=1
  ·have d:qj (Gk c t=l):=by rw [qj,B.o,decide_eq_true h1,Bool.false_or,ja]
   have a6:(s == 1)=true:=by simpa using h1
   clear h1
   go_enter func348,ntmps348
   go_wp2_with fail
   refine Calls.m HQ.o ?_;rintro e w1 ⟨rfl,V⟩;go_wp2;go_ret;exact ⟨Ab d.o.s,V⟩
  ·have d:qj (Gk c t=false):=by rw [qj,B.o,decide_eq_false h1,Bool.false_or,Bool.false_and]
   have a6:=A8 h1;clear h1
   go_enter func348,ntmps348
   go_wp2;go_ret;exact ⟨Ab d.o.s,bR⟩
 ·have d:qj (Gk c t=true):=by rw [qj,B.o,Bool.true_or]
  go_enter func348,ntmps348
  go_wp2;go_ret;exact ⟨Ab d.o.s,bR⟩
theorem Zc {b:Nat} {ao:qm} {G:Nat} {zs:List Int} {a:Ac} {t:Int} {c:Cs} {v:Value} {w:ql} (h:DS b ao G zs a t c [] v w) (hn:zs.length<=1099511627776) :
  qi 322 #[qh b] w (qp (qzI (Ce c a t zs)) w):=by
 have a4:=h.db.a1;have a5:=h.db.a2;have HH:=Aa h
 obtain ⟨p,hp⟩:=Ae ((!Ty a.rsn || (Gf a.rsn && !Gk c t)))
 obtain ⟨q,hq⟩:=Ae ((decide (a.am<1) || (decide (c.am<a.am) || (decide (a.am<c.am) && !Iw a.rsn))))
 obtain ⟨l,D⟩:=Ae (Cr t (Dt c.sta (Im a.rsn) zs));have B:=Aa (Wa hp hq D);have A:=Aa hp;have Z:=Aa hq;have z:=Aa D
 have X:=Aa λu (hu:BW w u)=>dU (h.below hu)
 have y:=Aa λu (hu:BW w u)=>gF c.sta (Im a.rsn) ao G zs u (h.below hu).offs hn
 clear h hp hq D
 go_enter func322,ntmps322
 go_upto_region 1 with fail
 go_cut [3,4] (λv3 v4 wc=>v3=qzI a.am/\v4=qzI a.rsn/\BW w wc)
 case first =>
  go_wp2
  go_quiet (fail)
  all_goals
   go_wp2_with fail
   go_meet;exact ⟨rfl,rfl,below_drewN bR _⟩
 case rest =>
  obtain ⟨rfl,rfl,b0⟩:=hcut;obtain ⟨u0,a7⟩:=A0 wc;subst a7;clear a4 a5;have H:=Aa b0;clear b0;go_upto_region 2 with fail
  go_cut [15] (λv wc=>v=.bool p/\BW w wc)
  case first =>
   go_wp2_with fail
   refine (X5 a.rsn _).m ?_;rintro e u1 ⟨rfl,V⟩;have I:=Aa (next H.o V);clear V
   cases h1:Ty a.rsn
   ·have d:qj (p=true):=by rw [qj,<- A.o,h1];rfl
    clear h1;go_wp2;go_meet
    exact ⟨by rw [d.o],I.o⟩
   go_wp2_with fail
   refine (eH a.rsn _).m ?_;rintro e u2 ⟨rfl,b2⟩;have x:=Aa (next I.o b2);clear b2
   cases h2:Gf a.rsn
   ·have d:qj (p=false):=by rw [qj,<- A.o,h1,h2];rfl
    clear h1 h2;go_wp2;go_meet
    exact ⟨by rw [d.o],x.o⟩
   go_wp2_with fail
   refine (X.o _ x.o).m ?_;rintro e u3 ⟨rfl,b3⟩;have W:=Aa (next x.o b3);clear b3
   have d:qj (p = !Gk c t):=by rw [qj,<- A.o,h1,h2];rfl
   clear h1 h2;go_wp2;go_meet
   exact ⟨by rw [d.o],W.o⟩
  case rest =>
   obtain ⟨rfl,b4⟩:=hcut;obtain ⟨u4,a8⟩:=A0 wc;subst a8;have f:=Aa b4;clear b4 H
   cases p
   rotate_left
   ·have d:qj (Ce c a t zs=3):=by rw [qj,B.o,if_pos rfl]
    go_wp2;go_ret;exact ⟨Af d.o.s,f.o⟩
   have C:qj (Ce c a t zs=if q=true then 2 else if l=true then 4 else 0):=by rw [qj,B.o,if_neg (by decide)]
   have h4:=HH.o.below f.o;have c3:=h4.db.cb.f3
   simp only [qu] at c3
   clear B h4;go_upto_region 4 with fail
   go_cut [28] (λv wc=>v=.bool q/\BW w wc)
   case first =>
    have r:=Aa Z.o
    by_cases h1:a.am<1
    ·have d:qj (q=true):=by rw [qj,<- r.o,decide_eq_true h1];rfl
     go_wp2;go_meet
     exact ⟨by rw [d.o],f.o⟩
    by_cases h2:c.am<a.am
    ·have d:qj (q=true):=by rw [qj,<- r.o,decide_eq_true h2];simp
     go_wp2;go_meet
     exact ⟨by rw [d.o],f.o⟩
    by_cases h3:a.am<c.am
    ·have d:qj (q = !Iw a.rsn):=by rw [qj,<- r.o,decide_eq_false h1,decide_eq_false h2,decide_eq_true h3];rfl
     go_wp2_with fail
     refine (lZ a.rsn _).m ?_;rintro e u5 ⟨rfl,M⟩;have i:=Aa (next f.o M);clear M;go_wp2;go_meet
     exact ⟨by rw [d.o],i.o⟩
    ·have d:qj (q=false):=by rw [qj,<- r.o,decide_eq_false h1,decide_eq_false h2,decide_eq_false h3];rfl
     go_wp2;go_meet
     exact ⟨by rw [d.o],f.o⟩
   case rest =>
    obtain ⟨rfl,M⟩:=hcut;obtain ⟨u5,a9⟩:=A0 wc;subst a9;have i:=Aa M;clear M c3 f
    cases q
    rotate_left
    ·have d:qj (Ce c a t zs=2):=by rw [qj,C.o,if_pos rfl]
     go_wp2;go_ret;exact ⟨Af d.o.s,i.o⟩
    have L:qj (Ce c a t zs=if l=true then 4 else 0):=by rw [qj,C.o,if_neg (by decide)]
    clear C
    have j:qj (∀ u,BW w u->u.cell? (qzA b 15)=some (qzI t)/\u.cell? (qzA b 10)=some (qzI c.sta)/\u.cell? (qzA b 16)=some (qf ao zs.length G)):=λu hu=>by
     have g:=HH.o.below hu;have N:=g.db.cb.f10
     simp only [qu] at N
     exact ⟨g.db.td,N,g.db.ho⟩
    obtain ⟨T,S,U⟩:=j.o u5 i.o;obtain ⟨n,F⟩:=Ae (Im a.rsn)
    have a3:qj (∀ u,qi 350 #[qzI a.rsn] u (qp (qzI n) u)):=λu=>by rw [<- F];exact oY a.rsn u
    rw [F] at y z;obtain ⟨dd,O⟩:=Ae (Dt c.sta n zs);rw [O] at y z
    have Y:qj (∀ u,qi 346 #[qzI t,qzI dd] u (qr (.bool l) u)):=λu=>by rw [<- z.o];exact Zr t dd u
    clear F O;have d5:=i.o.drew;go_upto_region 6 with fail
    go_cut [54] (λv wc=>v=.bool l/\BW w wc)
    case first =>
     go_region_held3 (λu=>u.cell? (qzA b 15)=some (qzI t)/\u.cell? (qzA b 10)=some (qzI c.sta)/\u.cell? (qzA b 16)=some (qf ao zs.length G)) (first|exact ⟨T,S,U⟩|exact j.o _ i.o|exact j.o _ d5|exact j.o _ k.o|exact j.o _ J.o) ((first
      | (go_at_call 350;refine (a3.o _).m ?_;rintro e u6 ⟨rfl,b6⟩;(first|(have k:=Aa (next d5 b6))|(have k:=Aa (next i.o b6)));clear b6)
      | (go_at_call 344;refine (y.o _ k.o).m ?_;rintro e u7 ⟨rfl,b7⟩;(have J:=Aa (next k.o b7));clear b7)
      | (go_at_call 346;refine (Y.o _).m ?_;rintro e u8 ⟨rfl,R⟩;rw [R];clear R)))
     all_goals
      go_wp2_with fail
      go_meet;exact ⟨rfl,J.o⟩
    case rest =>
     obtain ⟨rfl,b8⟩:=hcut;clear T S U
     cases l
     ·have d:qj (Ce c a t zs=0):=by rw [qj,L.o,if_neg (by decide)]
      go_wp2;go_ret;exact ⟨Af d.o.s,b8⟩
     ·have d:qj (Ce c a t zs=4):=by rw [qj,L.o,if_pos rfl]
      go_wp2;go_ret;exact ⟨Af d.o.s,b8⟩
end Go.Proofs.YtfpafnefpmmofaaGreatDoor
