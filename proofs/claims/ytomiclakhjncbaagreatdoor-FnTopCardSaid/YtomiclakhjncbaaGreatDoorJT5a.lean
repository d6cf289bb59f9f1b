import Derived.Test.YtomiclakhjncbaaGreatDoorKTSDo2
import Derived.Test.YtomiclakhjncbaaGreatDoorKTFDis5
import Derived.Test.YtomiclakhjncbaaGreatDoorKTDrawAt
set_option maxRecDepth 100000
set_option maxHeartbeats 12800000
namespace Go.Proofs.YtomiclakhjncbaaGreatDoor
open Go.RowKit Go.Proofs.Tryz
theorem J4 (c:Cs) (w:World) (hb:0<=c.bk/\c.bk<=1000000000000) (hc:0<=c.cl/\c.cl<=1000000000000) (hf:0<=c.fee/\c.fee<=1000000):Calls prog 227 #[cv c] w (Gr w (Cx c) (Ck c)):=by
 have V:Hid (∀ u,Calls prog 225 #[cv c,qzI c.cl] u (Gr u (I5 c c.cl) (Bg c c.cl))):=fun u=>M8 c c.cl u hb hc
 have n:Hid (∀ u,Calls prog 225 #[cv c,qzI 0] u (Gr u (I5 c 0) (Bg c 0))):=fun u=>M8 c 0 u hb (by omega)
 have X:Hid (∀ u,Calls prog 226 #[cv c,qzI (c.cl / 2)] u (Gr u (Es c (c.cl / 2)) (Dg c (c.cl / 2)))):=fun u=>Tr c (c.cl / 2) u hb (by omega) hf
 have HT:Hid (c.cl.tdiv 2=c.cl / 2):=Int.tdiv_eq_ediv_of_nonneg hc.1;obtain ⟨W,Z⟩:∃ W,W=(w.alloc (.cells #[qzI c.iss,qzI c.acq,qzI c.cur,qzI c.am,qzI c.st,qzI c.rsn,qzI c.cl,qzI c.bk,qzI c.fee,.bool c.cop,qzI c.sta,qzI c.due] 61)).alloc (.cells #[qzI 0,qzI 0,qzI 0,qzI 0,qzI 0,qzI 0,qzI 0,qzI 0,qzI 0,.bool false,qzI 0,qzI 0] 61):=⟨_,rfl⟩
 have b1:Below (w.alloc (.cells #[qzI c.iss,qzI c.acq,qzI c.cur,qzI c.am,qzI c.st,qzI c.rsn,qzI c.cl,qzI c.bk,qzI c.fee,.bool c.cop,qzI c.sta,qzI c.due] 61)).heap.size (w.alloc (.cells #[qzI c.iss,qzI c.acq,qzI c.cur,qzI c.am,qzI c.st,qzI c.rsn,qzI c.cl,qzI c.bk,qzI c.fee,.bool c.cop,qzI c.sta,qzI c.due] 61)) W:=by rw [Z];exact bR.alloc nL _
 have e1:(w.alloc (.cells #[qzI c.iss,qzI c.acq,qzI c.cur,qzI c.am,qzI c.st,qzI c.rsn,qzI c.cl,qzI c.bk,qzI c.fee,.bool c.cop,qzI c.sta,qzI c.due] 61)).heap.size=w.heap.size+1:=by simp
 have B:Hid (CB w.heap.size 0 c W):=(CB.new w c _).below b1
 have s:Hid (CB (w.heap.size+1) 0 Br W):=by
  have h:=CB.new (w.alloc (.cells #[qzI c.iss,qzI c.acq,qzI c.cur,qzI c.am,qzI c.st,qzI c.rsn,qzI c.cl,qzI c.bk,qzI c.fee,.bool c.cop,qzI c.sta,qzI c.due] 61)) Br 61;rw [e1] at h
  rw [Hid,Z];exact h
 have C:Hid (FZ (w.heap.size+1) 0 W):=by
  have h:=FZ.new (w.alloc (.cells #[qzI c.iss,qzI c.acq,qzI c.cur,qzI c.am,qzI c.st,qzI c.rsn,qzI c.cl,qzI c.bk,qzI c.fee,.bool c.cop,qzI c.sta,qzI c.due] 61)) #[qzI 0,qzI 0,qzI 0,qzI 0,qzI 0,qzI 0,qzI 0,qzI 0,qzI 0,.bool false,qzI 0,qzI 0] 61;rw [e1] at h
  rw [Hid,Z];exact h
 have A:Hid (BW w W):=by rw [Hid,Z];go_grown
 have D:Hid _:=Z
 have HS:Hid (W.heap.size=w.heap.size+1+1):=by rw [Hid,Z];simp
 clear b1 e1 Z hb hf;obtain ⟨ex,hex⟩:∃ x,Cx c=x:=⟨_,rfl⟩;obtain ⟨ee,a3⟩:∃ x,Ck c=x:=⟨_,rfl⟩;have p:Hid _:=hex;have m:Hid _:=a3;rw [hex,a3];clear hex a3;obtain ⟨i,a,d,am,st,j,cl,bk,g,f,k,l⟩:=c;unfold Gr cv at V n X;unfold cv;unfold I5 at V n;unfold Es at X
 simp only at V n X HT D hc ⊢
 by_cases h1:st=1
 ·have Y:Hid (ex=J9 ⟨i,a,d,am,st,j,cl,bk,g,f,k,l⟩):=by rw [Hid,<- p.o];simp [Cx,h1]
  have U:Hid (ee=[]):=by rw [Hid,<- m.o];simp [Ck,h1]
  subst h1;clear V n X HT p m B s C A HS D W
  go_enter func227,ntmps227
  go_wp2
  go_returns
  rw [Y.o,U.o]
  exact ⟨_,_,rfl,Lf _ _ _ (by simp) (by simp <;> omega),by go_grown⟩
 have a4:=Ay h1
 by_cases h5:st=5
 ·have Y:Hid (ex=I5 ⟨i,a,d,am,st,j,cl,bk,g,f,k,l⟩ cl):=by rw [Hid,<- p.o];simp [Cx,h5]
  have U:Hid (ee=Bg ⟨i,a,d,am,st,j,cl,bk,g,f,k,l⟩ cl):=by rw [Hid,<- m.o];simp [Ck,h5]
  subst h5;clear n X HT p m h1
  go_enter func227,ntmps227
  go_upto_region 1 with fail
  rw [<- D.o];clear D;obtain ⟨f0,f1,f2,f3,f4,f5,f6,f7,f8,f9,f10,f11⟩:=B.o
  simp only [Nat.zero_add] at f0 f1 f2 f3 f4 f5 f6 f7 f8 f9 f10 f11
  go_wp2_with fail
  refine (V.o _).mono ?_;rintro e u ⟨ae,ke,rfl,T,b⟩;have HO:Hid (u.ownsRow W.heap.size 269 4 (.slice ae (Bg ⟨i,a,d,am,5,j,cl,bk,g,f,k,l⟩ cl).length ke) (Bg ⟨i,a,d,am,5,j,cl,bk,g,f,k,l⟩ cl).length (Ba (Bg ⟨i,a,d,am,5,j,cl,bk,g,f,k,l⟩ cl))):=T;have HB:Hid (BW w u):=next A.o b;have v:Hid (CB (w.heap.size+1) 0 Br u):=s.o.below b;have y:Hid (FZ (w.heap.size+1) 0 u):=C.o.below s.o.lt b;clear b T f0 f1 f2 f3 f4 f5 f6 f7 f8 f9 f10 f11;obtain ⟨F,G,H,I,J,L,M,O,R,S,q,r⟩:=v.o;obtain ⟨z0,z1,z2,z3,z4,z5,z6,z7,z8,z9,z10,z11⟩:=y.o
  simp only [Nat.zero_add,Br] at F G H I J L M O R S q r z0 z1 z2 z3 z4 z5 z6 z7 z8 z9 z10 z11
  obtain ⟨N,z⟩:∃ N,(Bg ⟨i,a,d,am,5,j,cl,bk,g,f,k,l⟩ cl).length=N:=⟨_,rfl⟩;have t:Hid _:=z;rw [z];clear z;go_wp2
  refine bodyPost_ret (by simp [results,results227,go_sem,F,G,H,I,J,L,M,O,R,S,q,r];try rfl) rfl ?_
  rw [Y.o,U.o,<- t.o]
  exact Iq (c:=I5 ⟨i,a,d,am,5,j,cl,bk,g,f,k,l⟩ cl) (h:=w.heap.size+1) (base:=W.heap.size) (by omega) (by have:=HS.o;omega) HO.o HB.o
 have a5:=Ay h5
 by_cases h6:st=6
 ·have Y:Hid (ex=Es ⟨i,a,d,am,st,j,cl,bk,g,f,k,l⟩ (cl / 2)):=by rw [Hid,<- p.o];simp [Cx,h6]
  have U:Hid (ee=Dg ⟨i,a,d,am,st,j,cl,bk,g,f,k,l⟩ (cl / 2)):=by rw [Hid,<- m.o];simp [Ck,h6]
  subst h6;clear V n p m h1 h5
  go_enter func227,ntmps227
  go_upto_region 1 with fail
  rw [<- D.o];clear D;obtain ⟨f0,f1,f2,f3,f4,f5,f6,f7,f8,f9,f10,f11⟩:=B.o
  simp only [Nat.zero_add] at f0 f1 f2 f3 f4 f5 f6 f7 f8 f9 f10 f11
  go_wp2_with fail
  try rw [HT.o]
  refine (X.o _).mono ?_;rintro e u ⟨ae,ke,rfl,T,b⟩;have HO:Hid (u.ownsRow W.heap.size 269 4 (.slice ae (Dg ⟨i,a,d,am,6,j,cl,bk,g,f,k,l⟩ (cl / 2)).length ke) (Dg ⟨i,a,d,am,6,j,cl,bk,g,f,k,l⟩ (cl / 2)).length (Ba (Dg ⟨i,a,d,am,6,j,cl,bk,g,f,k,l⟩ (cl / 2)))):=T;have HB:Hid (BW w u):=next A.o b;have v:Hid (CB (w.heap.size+1) 0 Br u):=s.o.below b;have y:Hid (FZ (w.heap.size+1) 0 u):=C.o.below s.o.lt b;clear b T f0 f1 f2 f3 f4 f5 f6 f7 f8 f9 f10 f11;obtain ⟨F,G,H,I,J,L,M,O,R,S,q,r⟩:=v.o;obtain ⟨z0,z1,z2,z3,z4,z5,z6,z7,z8,z9,z10,z11⟩:=y.o
  simp only [Nat.zero_add,Br] at F G H I J L M O R S q r z0 z1 z2 z3 z4 z5 z6 z7 z8 z9 z10 z11
  obtain ⟨N,z⟩:∃ N,(Dg ⟨i,a,d,am,6,j,cl,bk,g,f,k,l⟩ (cl / 2)).length=N:=⟨_,rfl⟩;have t:Hid _:=z;rw [z];clear z;go_wp2
  refine bodyPost_ret (by simp [results,results227,go_sem,F,G,H,I,J,L,M,O,R,S,q,r];try rfl) rfl ?_
  rw [Y.o,U.o,<- t.o]
  exact Iq (c:=Es ⟨i,a,d,am,6,j,cl,bk,g,f,k,l⟩ (cl / 2)) (h:=w.heap.size+1) (base:=W.heap.size) (by omega) (by have:=HS.o;omega) HO.o HB.o
 have a6:=Ay h6
 ·have Y:Hid (ex=⟨i,a,d,am,7,j,0,bk,g,f,k,-1⟩):=by rw [Hid,<- p.o];simp [Cx,h1,h5,h6,I5]
  rw [Int.add_zero] at n
  have U:Hid (ee=Bg ⟨i,a,d,am,st,j,cl,bk,g,f,k,l⟩ 0):=by rw [Hid,<- m.o];simp [Ck,h1,h5,h6,Bg]
  clear V X HT p m h1 h5 h6
  go_enter func227,ntmps227
  go_upto_region 1 with fail
  rw [<- D.o];clear D;obtain ⟨f0,f1,f2,f3,f4,f5,f6,f7,f8,f9,f10,f11⟩:=B.o
  simp only [Nat.zero_add] at f0 f1 f2 f3 f4 f5 f6 f7 f8 f9 f10 f11
  go_wp2_with fail
  refine (n.o _).mono ?_;rintro e u ⟨ae,ke,rfl,T,b⟩;have HO:Hid (u.ownsRow W.heap.size 269 4 (.slice ae (Bg ⟨i,a,d,am,st,j,cl,bk,g,f,k,l⟩ 0).length ke) (Bg ⟨i,a,d,am,st,j,cl,bk,g,f,k,l⟩ 0).length (Ba (Bg ⟨i,a,d,am,st,j,cl,bk,g,f,k,l⟩ 0))):=T;have HB:Hid (BW w u):=next A.o b;have v:Hid (CB (w.heap.size+1) 0 Br u):=s.o.below b;have y:Hid (FZ (w.heap.size+1) 0 u):=C.o.below s.o.lt b;clear b T f0 f1 f2 f3 f4 f5 f6 f7 f8 f9 f10 f11;obtain ⟨F,G,H,I,J,L,M,O,R,S,q,r⟩:=v.o;obtain ⟨z0,z1,z2,z3,z4,z5,z6,z7,z8,z9,z10,z11⟩:=y.o
  simp only [Nat.zero_add,Br] at F G H I J L M O R S q r z0 z1 z2 z3 z4 z5 z6 z7 z8 z9 z10 z11
  obtain ⟨N,z⟩:∃ N,(Bg ⟨i,a,d,am,st,j,cl,bk,g,f,k,l⟩ 0).length=N:=⟨_,rfl⟩;have t:Hid _:=z;rw [z];clear z;go_wp2
  refine bodyPost_ret (by simp [results,results227,go_sem,F,G,H,I,J,L,M,O,R,S,q,r];try rfl) rfl ?_
  rw [Y.o,U.o,<- t.o]
  exact Iq (c:=⟨i,a,d,am,7,j,0,bk,g,f,k,-1⟩) (h:=w.heap.size+1) (base:=W.heap.size) (by omega) (by have:=HS.o;omega) HO.o HB.o
theorem Ub {b:Nat} {r:Option Addr} {y:Nat} {zs:List Int} {a:Ac} {t:Int} {c:Cs} {v:Value} {w:World} (h:DS b r y zs a t c [] v w) :
  Calls prog 333 #[.pointer (some (qzA b 0))] w fun e w'=>e=.returned (.bool (E4 c t))/\BW w w':=by
 have c9:=h.db.cb.f9;have c4:=h.db.cb.f4
 simp only [Nat.zero_add] at c9 c4
 have HQ:Hid (Calls prog 318 #[.pointer (some (qzA b 0))] w fun e w'=>e=.returned (.bool (Bv t c.due))/\BW w w'):=Hn h
 obtain ⟨p,H⟩:∃ p,c.cop=p:=⟨_,rfl⟩;obtain ⟨s,hs⟩:∃ s,c.st=s:=⟨_,rfl⟩;obtain ⟨l,hl⟩:∃ l,Bv t c.due=l:=⟨_,rfl⟩
 have D:Hid (E4 c t=(p || (decide (s=1) && l))):=by rw [Hid,E4,H,hs,hl]
 rw [H] at c9;rw [hs] at c4;rw [hl] at HQ;clear h H hs hl
 cases p
 ·by_cases h1:s=1
  ·have d:Hid (E4 c t=l):=by rw [Hid,D.o,decide_eq_true h1,Bool.false_or,Bool.true_and]
   have a9:(s == 1)=true:=by simpa using h1
   clear h1
   go_enter func333,ntmps333
   go_wp2_with fail
   refine Calls.mono HQ.o ?_;rintro e w1 ⟨rfl,X⟩;go_wp2;go_ret;exact ⟨Aa d.o.symm,X⟩
  ·have d:Hid (E4 c t=false):=by rw [Hid,D.o,decide_eq_false h1,Bool.false_or,Bool.false_and]
   have a9:=Ay h1;clear h1
   go_enter func333,ntmps333
   go_wp2;go_ret;exact ⟨Aa d.o.symm,bR⟩
 ·have d:Hid (E4 c t=true):=by rw [Hid,D.o,Bool.true_or]
  go_enter func333,ntmps333
  go_wp2;go_ret;exact ⟨Aa d.o.symm,bR⟩
theorem Rw {b:Nat} {r:Option Addr} {y:Nat} {zs:List Int} {a:Ac} {t:Int} {c:Cs} {v:Value} {w:World} (h:DS b r y zs a t c [] v w) (hn:zs.length<=1099511627776) :
  Calls prog 320 #[.pointer (some (qzA b 0))] w fun e w'=>e=.returned (qzI (Bs c a t zs))/\BW w w':=by
 have a7:=h.db.a1;have a8:=h.db.a2;have HH:Hid (DS b r y zs a t c [] v w):=h
 obtain ⟨p,H⟩:∃ p,(!Oy a.rsn || (E8 a.rsn && !E4 c t))=p:=⟨_,rfl⟩
 obtain ⟨q,hq⟩:∃ q,(decide (a.am<1) || (decide (c.am<a.am) || (decide (a.am<c.am) && !Gb a.rsn)))=q:=⟨_,rfl⟩
 obtain ⟨l,hl⟩:∃ l,Bv t (C6 c.sta (Fs a.rsn) zs)=l:=⟨_,rfl⟩;have D:Hid _:=Qy H hq hl;have C:Hid _:=H;have a5:Hid _:=hq;have B:Hid _:=hl
 have a3:Hid (∀ u,BW w u->Calls prog 333 #[.pointer (some (qzA b 0))] u fun e w'=>e=.returned (.bool (E4 c t))/\BW u w'):=fun u hu=>Ub (h.below hu)
 have A:Hid (∀ u,BW w u->Calls prog 330 #[qzI c.sta,qzI (Fs a.rsn),.slice r zs.length y] u fun e w'=>e=.returned (qzI (C6 c.sta (Fs a.rsn) zs))/\BW u w'):=fun u hu=>Wi c.sta (Fs a.rsn) r y zs u (h.below hu).offs hn
 clear h H hq hl
 go_enter func320,ntmps320
 go_upto_region 1 with fail
 go_cut [3,4] (fun v3 v4 wc=>v3=qzI a.am/\v4=qzI a.rsn/\BW w wc)
 case first =>
  go_wp2
  go_quiet (fail)
  all_goals
   go_wp2_with fail
   go_meet;exact ⟨rfl,rfl,below_drewN bR _⟩
 case rest =>
  obtain ⟨rfl,rfl,b0⟩:=hcut;obtain ⟨u0,b9⟩:∃ x,x=wc:=⟨_,rfl⟩;subst b9;clear a7 a8;have I:Hid (BW w u0):=b0;clear b0;go_upto_region 2 with fail
  go_cut [15] (fun v wc=>v=.bool p/\BW w wc)
  case first =>
   go_wp2_with fail
   refine (Rg a.rsn _).mono ?_;rintro e u1 ⟨rfl,X⟩;have J:Hid (BW w u1):=next I.o X;clear X
   cases h1:Oy a.rsn
   ·have d:Hid (p=true):=by rw [Hid,<- C.o,h1];rfl
    clear h1;go_wp2;go_meet
    exact ⟨by rw [d.o],J.o⟩
   go_wp2_with fail
   refine (Xc a.rsn _).mono ?_;rintro e u2 ⟨rfl,b2⟩;have z:Hid (BW w u2):=next J.o b2;clear b2
   cases h2:E8 a.rsn
   ·have d:Hid (p=false):=by rw [Hid,<- C.o,h1,h2];rfl
    clear h1 h2;go_wp2;go_meet
    exact ⟨by rw [d.o],z.o⟩
   go_wp2_with fail
   refine (a3.o _ z.o).mono ?_;rintro e u3 ⟨rfl,b3⟩;have Z:Hid (BW w u3):=next z.o b3;clear b3
   have d:Hid (p = !E4 c t):=by rw [Hid,<- C.o,h1,h2];rfl
   clear h1 h2;go_wp2;go_meet
   exact ⟨by rw [d.o],Z.o⟩
  case rest =>
   obtain ⟨rfl,b4⟩:=hcut;obtain ⟨u4,c8⟩:∃ x,x=wc:=⟨_,rfl⟩;subst c8;have f:Hid (BW w u4):=b4;clear b4 I
   cases p
   rotate_left
   ·have d:Hid (Bs c a t zs=3):=by rw [Hid,D.o,if_pos rfl]
    go_wp2;go_ret;exact ⟨Af d.o.symm,f.o⟩
   have F:Hid (Bs c a t zs=if q=true then 2 else if l=true then 4 else 0):=by rw [Hid,D.o,if_neg (by decide)]
   have h4:=HH.o.below f.o;have c3:=h4.db.cb.f3
   simp only [Nat.zero_add] at c3
   clear D h4;go_upto_region 4 with fail
   go_cut [28] (fun v wc=>v=.bool q/\BW w wc)
   case first =>
    have m:Hid ((decide (a.am<1) || (decide (c.am<a.am) || (decide (a.am<c.am) && !Gb a.rsn)))=q):=a5.o
    by_cases h1:a.am<1
    ·have d:Hid (q=true):=by rw [Hid,<- m.o,decide_eq_true h1];rfl
     go_wp2;go_meet
     exact ⟨by rw [d.o],f.o⟩
    by_cases h2:c.am<a.am
    ·have d:Hid (q=true):=by rw [Hid,<- m.o,decide_eq_true h2];simp
     go_wp2;go_meet
     exact ⟨by rw [d.o],f.o⟩
    by_cases h3:a.am<c.am
    ·have d:Hid (q = !Gb a.rsn):=by rw [Hid,<- m.o,decide_eq_false h1,decide_eq_false h2,decide_eq_true h3];rfl
     go_wp2_with fail
     refine (X0 a.rsn _).mono ?_;rintro e W ⟨rfl,N⟩;have i:Hid (BW w W):=next f.o N;clear N;go_wp2;go_meet
     exact ⟨by rw [d.o],i.o⟩
    ·have d:Hid (q=false):=by rw [Hid,<- m.o,decide_eq_false h1,decide_eq_false h2,decide_eq_false h3];rfl
     go_wp2;go_meet
     exact ⟨by rw [d.o],f.o⟩
   case rest =>
    obtain ⟨rfl,N⟩:=hcut;obtain ⟨W,d0⟩:∃ x,x=wc:=⟨_,rfl⟩;subst d0;have i:Hid (BW w W):=N;clear N c3 f
    cases q
    rotate_left
    ·have d:Hid (Bs c a t zs=2):=by rw [Hid,F.o,if_pos rfl]
     go_wp2;go_ret;exact ⟨Af d.o.symm,i.o⟩
    have M:Hid (Bs c a t zs=if l=true then 4 else 0):=by rw [Hid,F.o,if_neg (by decide)]
    clear F
    have j:Hid (∀ u,BW w u->u.cell? (qzA b 15)=some (qzI t)/\u.cell? (qzA b 10)=some (qzI c.sta)/\u.cell? (qzA b 16)=some (.slice r zs.length y)):=fun u hu=>by
     have g:=HH.o.below hu;have O:=g.db.cb.f10
     simp only [Nat.zero_add] at O
     exact ⟨g.db.td,O,g.db.ho⟩
    obtain ⟨U,T,V⟩:=j.o W i.o;obtain ⟨n,G⟩:∃ n,Fs a.rsn=n:=⟨_,rfl⟩
    have a6:Hid (∀ u,Calls prog 335 #[qzI a.rsn] u fun e w'=>e=.returned (qzI n)/\BW u w'):=fun u=>by rw [<- G];exact X7 a.rsn u
    rw [G] at A B;obtain ⟨Y,R⟩:∃ Y,C6 c.sta n zs=Y:=⟨_,rfl⟩;rw [R] at A B
    have a4:Hid (∀ u,Calls prog 91 #[qzI t,qzI Y] u fun e w'=>e=.returned (.bool l)/\w'=u):=fun u=>by rw [<- B.o];exact N2 t Y u
    clear G R;have d5:BW w W.drew:=i.o.drew;go_upto_region 6 with fail
    go_cut [54] (fun v wc=>v=.bool l/\BW w wc)
    case first =>
     go_region_held3 (fun u=>u.cell? (qzA b 15)=some (qzI t)/\u.cell? (qzA b 10)=some (qzI c.sta)/\u.cell? (qzA b 16)=some (.slice r zs.length y)) (first | exact ⟨U,T,V⟩ | exact j.o _ i.o | exact j.o _ d5 | exact j.o _ k.o | exact j.o _ L.o) ((first
      | (go_at_call 335;refine (a6.o _).mono ?_;rintro e u6 ⟨rfl,b6⟩;(first | (have k:Hid (BW w u6):=next d5 b6) | (have k:Hid (BW w u6):=next i.o b6));clear b6)
      | (go_at_call 330;refine (A.o _ k.o).mono ?_;rintro e u7 ⟨rfl,b7⟩;(have L:Hid (BW w u7):=next k.o b7);clear b7)
      | (go_at_call 91;refine (a4.o _).mono ?_;rintro e u8 ⟨rfl,S⟩;rw [S];clear S)))
     all_goals
      go_wp2_with fail
      go_meet;exact ⟨rfl,L.o⟩
    case rest =>
     obtain ⟨rfl,b8⟩:=hcut;clear U T V
     cases l
     ·have d:Hid (Bs c a t zs=0):=by rw [Hid,M.o,if_neg (by decide)]
      go_wp2;go_ret;exact ⟨Af d.o.symm,b8⟩
     ·have d:Hid (Bs c a t zs=4):=by rw [Hid,M.o,if_pos rfl]
      go_wp2;go_ret;exact ⟨Af d.o.symm,b8⟩
def nW:Be:=[[],[119,104,97,116],[100,97,121],[100,97,121,32,120],[97,117,116,104,32,97],[112,97,121,32,49,32,49,32,56,52,48,32,53],[97,99,116,32,48,32,97,115,107,32,48],[97,99,116,32,48,32,100,97,110,99,101,32,48,32,48],[97,99,116,32,57,57,57,32,97,115,107,32,48,32,48],[112,97,121,32,48,49,32,52,32,56,52,48,32,53],[97,117,116,104,32,48,48,48,48,48,48,48,48,48,48,48,49,32,49,32,56,52,48,32,48]]
def xJ:Array Value:=#[.string ⟨#[]⟩,.string ⟨#[119,104,97,116]⟩,.string ⟨#[100,97,121]⟩,.string ⟨#[100,97,121,32,120]⟩,.string ⟨#[97,117,116,104,32,97]⟩,.string ⟨#[112,97,121,32,49,32,49,32,56,52,48,32,53]⟩,.string ⟨#[97,99,116,32,48,32,97,115,107,32,48]⟩,.string ⟨#[97,99,116,32,48,32,100,97,110,99,101,32,48,32,48]⟩,.string ⟨#[97,99,116,32,57,57,57,32,97,115,107,32,48,32,48]⟩,.string ⟨#[112,97,121,32,48,49,32,52,32,56,52,48,32,53]⟩,.string ⟨#[97,117,116,104,32,48,48,48,48,48,48,48,48,48,48,48,49,32,49,32,56,52,48,32,48]⟩]
theorem Abu (u:World) (t:TypeId) (k:Nat) (h:k<11):(u.alloc (.cells xJ t)).cell? ⟨u.heap.size,k,none⟩=some (.string ⟨(Al nW k).toArray⟩):=by
 rcases (show k=0\/k=1\/k=2\/k=3\/k=4\/k=5\/k=6\/k=7\/k=8\/k=9\/k=10 by omega) with rfl | rfl | rfl | rfl | rfl | rfl | rfl | rfl | rfl | rfl | rfl <;> simp [xJ,nW,Al,go_sem]
theorem Aam (k:Nat):(Al nW k).length<=30:=by
 by_cases h:k<11
 ·rcases (show k=0\/k=1\/k=2\/k=3\/k=4\/k=5\/k=6\/k=7\/k=8\/k=9\/k=10 by omega) with rfl | rfl | rfl | rfl | rfl | rfl | rfl | rfl | rfl | rfl | rfl <;> decide
 ·have:Al nW k=[]:=by simp [Al,nW,List.getD_eq_getElem?_getD];rw [List.getElem?_eq_none (by simp;omega)];rfl
  rw [this];simp
theorem Aev {B g:Nat} {w:World} {b:Bk} {p:Bp} {u:World} (q:LS B g w b p u) (k:Cs) :
  Calls prog 133 #[.pointer (some (qzA g 0)),cv k] u fun e d=>∃ a:Ac,e=.returned (av a)/\LS B g w b p d :=
 (Aco g k u q.cu).mono (by rintro e d ⟨a,f,c,r⟩;exact ⟨a,f,q.call c r⟩)
structure LT (B g:Nat) (w:World) (b:Bk) (p:Bp) (T:Nat) (o j y:Value) (u:World):Prop where
 ls:LS B g w b p u
 s:u.cell? (qzA T 1)=some o/\u.cell? (qzA T 2)=some j/\u.cell? (qzA T 3)=some y
 ne:T≠g
theorem LT.call {B g:Nat} {w:World} {b:Bk} {p:Bp} {T:Nat} {o j y:Value} {u v:World} (q:LT B g w b p T o j y u) (c:A2 B v g) (r:u.grownBy v (some g)):LT B g w b p T o j y v :=
 ⟨q.ls.call c r,⟨r.cell (a:=(qzA T 1)) q.s.1 (by have:=q.ne;simp;omega),r.cell (a:=(qzA T 2)) q.s.2.1 (by have:=q.ne;simp;omega),r.cell (a:=(qzA T 3)) q.s.2.2 (by have:=q.ne;simp;omega)⟩,q.ne⟩
theorem LT.below {B g:Nat} {w:World} {b:Bk} {p:Bp} {T:Nat} {o j y:Value} {u v:World} (q:LT B g w b p T o j y u) (h:BW u v):LT B g w b p T o j y v:=q.call (B9 q.ls.cu h) (mR h _)
theorem LT.drew {B g:Nat} {w:World} {b:Bk} {p:Bp} {T:Nat} {o j y:Value} {u:World} (q:LT B g w b p T o j y u):LT B g w b p T o j y u.drew:=q.below (bR.drew)
theorem Acr {B g:Nat} {w:World} {b:Bk} {p:Bp} {T:Nat} {o j y:Value} {u:World} (q:LT B g w b p T o j y u) (n:Int) (hn:n<=1099511627776) :
  Calls prog 97 #[.pointer (some (qzA g 0)),qzI n] u fun e v=>∃ x:Bool,e=.returned (.bool x)/\LT B g w b p T o j y v :=
 (tW g n u q.ls.cu hn).mono (by rintro e v ⟨x,F,c,r⟩;exact ⟨x,F,q.call c r⟩)
structure LA (B g:Nat) (w:World) (T:Nat) (G o j:Value) (u:World):Prop where
 cu:A2 B u g
 gr:w.grownBy u (some g)
 s:u.cell? (qzA T 0)=some G/\u.cell? (qzA T 1)=some o/\u.cell? (qzA T 2)=some j
 z:u.frozen? (qzA T 0)=false/\u.frozen? (qzA T 1)=false/\u.frozen? (qzA T 2)=false
 hT:B<=T
 hw:w.heap.size<=T
theorem LA.below {B g:Nat} {w:World} {T:Nat} {G o j:Value} {u v:World} (q:LA B g w T G o j u) (h:BW u v):LA B g w T G o j v:=by
 have l:=World.block_lt_of_cell? u _ q.s.1;exact ⟨B9 q.cu h,q.gr.trans (mR h _),⟨(h.cell l).trans q.s.1,(h.cell (p:=(qzA T 1)) l).trans q.s.2.1,(h.cell (p:=(qzA T 2)) l).trans q.s.2.2⟩,⟨(h.frozen (p:=(qzA T 0)) l).trans q.z.1,(h.frozen (p:=(qzA T 1)) l).trans q.z.2.1,(h.frozen (p:=(qzA T 2)) l).trans q.z.2.2⟩,q.hT,q.hw⟩
theorem LA.drew {B g:Nat} {w:World} {T:Nat} {G o j:Value} {u:World} (q:LA B g w T G o j u):LA B g w T G o j u.drew:=q.below (bR.drew)
theorem LA.at {B g:Nat} {w:World} {T:Nat} {G o j y0 y1 y2:Value} {u:World} (q:LA B g w T G o j u) (i:Nat) (x:Value) (e:(u.setCell (qzA T i) x).cell? (qzA T 0)=some y0/\(u.setCell (qzA T i) x).cell? (qzA T 1)=some y1/\(u.setCell (qzA T i) x).cell? (qzA T 2)=some y2):LA B g w T y0 y1 y2 (u.setCell (qzA T i) x):=by
 have hw:=q.hw
 refine ⟨L1 q.cu ((Below.refl B u).setCell q.hT _),⟨q.gr.os,q.gr.tape,q.gr.output,by simpa using q.gr.size,fun k hk J=>(Below.heap_setCell _ _ _ _ (by simp only;omega)).trans (q.gr.block k hk J)⟩,e,⟨?_,?_,?_⟩,q.hT,q.hw⟩
 ·rw [World.frozen?_setCell];exact q.z.1
 ·rw [World.frozen?_setCell];exact q.z.2.1
 ·rw [World.frozen?_setCell];exact q.z.2.2
theorem LA.zero {B g:Nat} {w:World} {T:Nat} {G o j:Value} {u:World} (q:LA B g w T G o j u) (L O x2:Value):LA B g w T L O x2 (((u.setCell (qzA T 0) L).setCell (qzA T 1) O).setCell (qzA T 2) x2):=by
 have q0:=q.at (y0:=L) (y1:=o) (y2:=j) 0 L ⟨World.cell?_setCell_same _ _ _ q.s.1,by rw [World.cell?_setCell_other _ _ _ _ (by simp)];exact q.s.2.1,by rw [World.cell?_setCell_other _ _ _ _ (by simp)];exact q.s.2.2⟩
 have q1:=q0.at (y0:=L) (y1:=O) (y2:=j) 1 O ⟨by rw [World.cell?_setCell_other _ _ _ _ (by simp)];exact q0.s.1,World.cell?_setCell_same _ _ _ q0.s.2.1,by rw [World.cell?_setCell_other _ _ _ _ (by simp)];exact q0.s.2.2⟩
 exact q1.at (y0:=L) (y1:=O) (y2:=x2) 2 x2 ⟨by rw [World.cell?_setCell_other _ _ _ _ (by simp)];exact q1.s.1,by rw [World.cell?_setCell_other _ _ _ _ (by simp)];exact q1.s.2.1,World.cell?_setCell_same _ _ _ q1.s.2.2⟩
theorem Aey (A D:ByteArray) (n:Nat) (hA:A.size<=n) (hn:n<=1000) (hD:D.size<=30):∃ C E:ByteArray,(∀ w,(Op.stringOp .add A D).run prog w=.ok (.string C) w)/\(∀ w,(Op.stringOp .add C ⟨#[32]⟩).run prog w=.ok (.string E) w)/\C.size<=n+30/\E.size<=n+31 :=
 ⟨A++D,(A++D)++⟨#[32]⟩,fun w=>run_string_add_sum w A D (by omega),fun w=>run_string_add_sum w _ _ (by rw [S8];have:(⟨#[32]⟩:ByteArray).size=1:=rfl;omega),by rw [S8];omega,by rw [S8,S8];have:(⟨#[32]⟩:ByteArray).size=1:=rfl;omega⟩
theorem Aap (k:Nat):(Al Dm k).length<=10:=by
 by_cases h:k<10
 ·rcases (show k=0\/k=1\/k=2\/k=3\/k=4\/k=5\/k=6\/k=7\/k=8\/k=9 by omega) with rfl | rfl | rfl | rfl | rfl | rfl | rfl | rfl | rfl | rfl <;> decide
 ·have:Al Dm k=[]:=by simp [Al,Dm,List.getD_eq_getElem?_getD];rw [List.getElem?_eq_none (by simp;omega)];rfl
  rw [this];simp
def GD (D:ByteArray):Prop:=NoB D.data.toList/\Dr D.data.toList<=8
def LnG (B g:Nat) (w:World) (e:Ending) (u:World):Prop :=
 ∃ l:List UInt8,e=.returned (.string ⟨l.toArray⟩)/\l.length<=400/\K3 l/\A2 B u g/\w.grownBy u (some g)
theorem uR {B g:Nat} {w:World} {b:Bk} {p:Bp} {u:World} {s:ByteArray} (q:LS B g w b p u) (h:s.size<=400) (hg:K3 s.data.toList):LnG B g w (.returned (.string s)) u :=
 ⟨s.data.toList,by cases s;simp,by cases s;simpa [ByteArray.size] using h,hg,q.cu,q.gr⟩
theorem wI {B g:Nat} {w:World} {T:Nat} {G o j:Value} {u:World} {s:ByteArray} (q:LA B g w T G o j u) (h:s.size<=400) (hg:K3 s.data.toList):LnG B g w (.returned (.string s)) u :=
 ⟨s.data.toList,by cases s;simp,by cases s;simpa [ByteArray.size] using h,hg,q.cu,q.gr⟩
theorem baL (a b:ByteArray):(a++b).data.toList=a.data.toList++b.data.toList:=by simp
theorem tT (A D:ByteArray) (n:Nat) (hA:A.size<=n) (hn:n<=1000) (hD:D.size<=30):∃ C E:ByteArray,(∀ w,(Op.stringOp .add A D).run prog w=.ok (.string C) w)/\(∀ w,(Op.stringOp .add C ⟨#[32]⟩).run prog w=.ok (.string E) w)/\C.size<=n+30/\E.size<=n+31/\Hid (C=A++D/\E=A++D++⟨#[32]⟩) :=
 ⟨A++D,(A++D)++⟨#[32]⟩,fun w=>run_string_add_sum w A D (by omega),fun w=>run_string_add_sum w _ _ (by rw [S8];have:(⟨#[32]⟩:ByteArray).size=1:=rfl;omega),by rw [S8];omega,by rw [S8,S8];have:(⟨#[32]⟩:ByteArray).size=1:=rfl;omega,⟨rfl,rfl⟩⟩
theorem uU {M N V W C1 C2 C3 S X E2 E3 E4:ByteArray} (F:Hid (C1=⟨#[97,99,116,32]⟩++M/\X=⟨#[97,99,116,32]⟩++M++⟨#[32]⟩)) (H:Hid (C2=X++N/\E2=X++N++⟨#[32]⟩)) (Y:Hid (C3=E2++V/\E3=E2++V++⟨#[32]⟩)) (h4:Hid (S=E3++W/\E4=E3++W++⟨#[32]⟩)):K3 S.data.toList:=by
 have e:S.data.toList=[97,99,116]++32::(M.data.toList++[32]++N.data.toList++[32]++V.data.toList++[32]++W.data.toList):=by
  rw [h4.out.1,Y.out.2,H.out.2,F.out.2]
  simp only [baL]
  simp
 rw [e]
 exact Sx (O9 (by decide)) (by decide) (by decide) _
theorem zZ {M N V W C1 C2 C3 S X E2 E3 E4:ByteArray} (F:Hid (C1=⟨#[112,97,121,32]⟩++M/\X=⟨#[112,97,121,32]⟩++M++⟨#[32]⟩)) (H:Hid (C2=X++N/\E2=X++N++⟨#[32]⟩)) (Y:Hid (C3=E2++V/\E3=E2++V++⟨#[32]⟩)) (h4:Hid (S=E3++W/\E4=E3++W++⟨#[32]⟩)) (Z:Hid (GD M)) (g2:Hid (GD N)):K3 S.data.toList:=by
 have e:S.data.toList=[112,97,121]++32::(M.data.toList++32::(N.data.toList++32::(V.data.toList++[32]++W.data.toList))):=by
  rw [h4.out.1,Y.out.2,H.out.2,F.out.2]
  simp only [baL]
  simp
 rw [e];exact uL Z.out.1 g2.out.1 Z.out.2 g2.out.2 _
theorem Aad (D:ByteArray):K3 ((⟨#[100,97,121,32]⟩:ByteArray)++D).data.toList:=by
 have e:((⟨#[100,97,121,32]⟩:ByteArray)++D).data.toList=[100,97,121]++32::D.data.toList:=by rw [baL];rfl
 rw [e]
 exact Sx (O9 (by decide)) (by decide) (by decide) _
theorem yR {l:List UInt8} {D R:ByteArray} (hl:Hid (NoB l/\l≠[])) (hD:Hid (GD D)):K3 (((((⟨#[97,117,116,104,32]⟩:ByteArray)++⟨l.toArray⟩)++⟨#[32]⟩)++D)++⟨#[32]⟩++R).data.toList:=by
 have e:(((((⟨#[97,117,116,104,32]⟩:ByteArray)++⟨l.toArray⟩)++⟨#[32]⟩)++D)++⟨#[32]⟩++R).data.toList=[97,117,116,104]++32::(l++32::(D.data.toList++32::R.data.toList)):=by
  simp only [baL]
  simp
 rw [e];exact uV hl.out.2 hl.out.1 hD.out.1 hD.out.2 _
theorem yI {l:List UInt8} (hl:Hid (NoB l/\l≠[])):K3 (((⟨#[97,117,116,104,32]⟩:ByteArray)++⟨l.toArray⟩)++⟨#[32,49,32,56,52,48,32,53,48,48]⟩).data.toList:=by
 have e:(((⟨#[97,117,116,104,32]⟩:ByteArray)++⟨l.toArray⟩)++⟨#[32,49,32,56,52,48,32,53,48,48]⟩).data.toList=[97,117,116,104]++32::(l++32::([49]++32::[56,52,48,32,53,48,48])):=by
  simp only [baL]
  simp
 rw [e]
 exact uV hl.out.2 hl.out.1 (O9 (by decide)) (by decide) _
theorem yJ (a b c d e f g h:ByteArray):(((((((a++b)++c)++d)++e)++f)++g)++h)=(((((a++b)++c)++d)++e)++(f++g++h)):=by
 apply ByteArray.ext;apply Array.ext'
 simp only [baL,List.append_assoc]
theorem xG (n:Int) (w:World) :
  Calls prog 72 #[qzI n] w fun e w'=>∃ l:List UInt8,e=.returned (.string ⟨l.toArray⟩)/\l.length<=22/\Hid (0<=n->n<=8->GD ⟨l.toArray⟩)/\w'=w:=by
 by_cases h:0<=n/\n<=8
 ·obtain ⟨m,rfl⟩:=Int.eq_ofNat_of_zero_le h.1
  refine (Tg.dec_up m w (by omega)).mono ?_
  rintro e w' ⟨rfl,rfl⟩
  have hm:m<=8:=by omega
  have hd:Lib.decDigits m=[UInt8.ofNat (48+m)]:=by
   rcases (show m=0\/m=1\/m=2\/m=3\/m=4\/m=5\/m=6\/m=7\/m=8 from by omega) with rfl | rfl | rfl | rfl | rfl | rfl | rfl | rfl | rfl <;> simp [Lib.decDigits]
  rw [hd]
  exact ⟨_,rfl,by simp,fun _ _=>⟨Ad1 (by omega),Aa0 hm⟩,rfl⟩
 ·refine (Xo n w).mono ?_
  rintro e w' ⟨l,F,H,Y⟩
  exact ⟨l,F,H,fun a b=>absurd ⟨a,b⟩ h,Y⟩
theorem Aem {n:Int} {l:List UInt8} (h:Hid (0<=n->n<=8->GD ⟨l.toArray⟩)) (h0:0<=n) (F:n<=8):Hid (GD ⟨l.toArray⟩):=h.out h0 F
theorem Adk {l:List UInt8} (h:A6 48 57 l=true):NoB l:=fun c hc e=>by
 have:=Ym h c hc
 rw [e] at this
 revert this;decide
theorem Ab8 (x n:Int):NoB (vE x n):=by
 rcases vQ x n with h | ⟨a,m,_,_,_,_,_,h⟩
 ·rw [h];exact fun c hc=>by cases hc
 ·rw [h];exact Adk (Ab3 a m)
theorem Acz {x:Int} (h0:0<=x) (F:x<60):vE x 12≠[]:=fun e=>by
 obtain ⟨a,rfl⟩:=Int.eq_ofNat_of_zero_le h0
 have h:a<10 ^ 12:=by omega
 have e2:=wZ (x:=a) (n:=12) (by decide) h
 rw [show vE (a:Int) 12=wW a 12 from vI (by decide) (by decide) h] at e
 rw [e] at e2
 simp at e2
theorem Adx {B g:Nat} {w:World} {b:Bk} {p:Bp} {u:World} (q:LS B g w b p u) (x n:Int) :
  Calls prog 130 #[qzI x,qzI n] u fun e v=>∃ l:List UInt8,e=.returned (.string ⟨l.toArray⟩)/\l.length<=18/\Hid (NoB l/\(0<=x->x<60->n=12->l≠[]))/\LS B g w b p v :=
 (xU x n u).mono (by rintro e v ⟨h,c⟩;exact ⟨_,h,Ac4 x n,⟨Ab8 x n,fun h0 F H=>H ▸ Acz h0 F⟩,q.below c⟩)
theorem wE {B g:Nat} {w:World} {b:Bk} {p:Bp} {T:Nat} {o j y:Value} {u:World} (q:LT B g w b p T o j y u) :
  Calls prog 79 #[.pointer (some (qzA g 0)),qzI 3] u fun e v=>∃ x:Int,e=.returned (qzI x)/\Hid (0<=x/\x<3)/\LT B g w b p T o j y v :=
 (K8 g 3 u q.ls.cu (by omega)).mono (by rintro e v ⟨x,F,H,Y,c,r⟩;exact ⟨x,F,⟨H,Y (by omega)⟩,q.call c r⟩)
theorem yO (k:Nat):K3 (Al nW k):=by
 by_cases h:k<11
 ·rcases (show k=0\/k=1\/k=2\/k=3\/k=4\/k=5\/k=6\/k=7\/k=8\/k=9\/k=10 by omega) with rfl | rfl | rfl | rfl | rfl | rfl | rfl | rfl | rfl | rfl | rfl
  ·exact ⟨fun h=>absurd h (by decide),fun h=>absurd h (by decide)⟩
  ·exact ⟨fun h=>absurd h (by decide),fun h=>absurd h (by decide)⟩
  ·exact ⟨fun h=>absurd h (by decide),fun h=>absurd h (by decide)⟩
  ·exact ⟨fun h=>absurd h (by decide),fun h=>absurd h (by decide)⟩
  ·exact ⟨fun h=>absurd h (by decide),fun h=>absurd h (by decide)⟩
  ·exact uL (A:=[49]) (D:=[49]) (O9 (by decide)) (O9 (by decide)) (by decide) (by decide) [56,52,48,32,53]
  ·exact Sx (x:=[97,99,116]) (O9 (by decide)) (by decide) (by decide) _
  ·exact Sx (x:=[97,99,116]) (O9 (by decide)) (by decide) (by decide) _
  ·exact Sx (x:=[97,99,116]) (O9 (by decide)) (by decide) (by decide) _
  ·exact uL (A:=[48,49]) (D:=[52]) (O9 (by decide)) (O9 (by decide)) (by decide) (by decide) [56,52,48,32,53]
  ·exact uV (by decide) (A:=[48,48,48,48,48,48,48,48,48,48,48,49]) (D:=[49]) (O9 (by decide)) (O9 (by decide)) (by decide) [56,52,48,32,48]
 ·have:Al nW k=[]:=by simp [Al,nW,List.getD_eq_getElem?_getD];rw [List.getElem?_eq_none (by simp;omega)];rfl
  rw [this]
  exact ⟨fun h=>absurd h (by decide),fun h=>absurd h (by decide)⟩
theorem Aeh {B g:Nat} {w:World} {b:Bk} {p:Bp} {u:World} (q:LS B g w b p u) (t:TypeId) :
  Calls prog 132 #[.pointer (some (qzA g 0)),.slice (some ⟨u.heap.size,0,none⟩) 11 11] (u.alloc (.cells xJ t)) fun e v=>∃ l:List UInt8,e=.returned (.string ⟨l.toArray⟩)/\l.length<=30/\Hid (K3 l)/\LS B g w b p v:=by
 have qa:=q.alloc (.cells xJ t);have J:=hF q.cu;have I:=Abu u t;obtain ⟨U,hU⟩:∃ U,u.alloc (.cells xJ t)=U:=⟨_,rfl⟩;rw [hU] at qa I ⊢;obtain ⟨T,hT⟩:∃ T,u.heap.size=T:=⟨_,rfl⟩;rw [hT] at I J ⊢;clear hU hT q
 go_enter func132,ntmps132
 go_wp2_with fail
 refine (K8 g 11 U qa.cu (by omega)).mono ?_
 rintro e u1 ⟨x,rfl,L,O,c1,Z⟩
 have hx:=O (by omega)
 obtain ⟨k,rfl⟩:=Int.eq_ofNat_of_zero_le L
 have hk:k<11:=by omega
 have cb:u1.cell? (qzA T k)=some (.string ⟨(Al nW k).toArray⟩):=Z.cell (a:=(qzA T k)) (I k hk) (by simpa using J)
 have q1:=qa.call c1 Z;have hl:=Aam k;have a3:Hid (K3 (Al nW k)):=yO k;obtain ⟨s,hs⟩:∃ s,Al nW k=s:=⟨_,rfl⟩;rw [hs] at cb hl a3;clear I hs c1 Z O L qa;go_wp2;go_ret;exact ⟨s,rfl,hl,a3,q1⟩
end Go.Proofs.YtomiclakhjncbaaGreatDoor
