import Derived.Test.YtfpafnefpmmofaaGreatDoorJW7a
import Derived.Test.YtfpafnefpmmofaaGreatDoorJW6ar
import Derived.Test.YtfpafnefpmmofaaGreatDoorJW2d
set_option maxRecDepth 100000
set_option maxHeartbeats 12800000
namespace Go.Proofs.YtfpafnefpmmofaaGreatDoor
namespace Kb
open Go.RowKit Go.Proofs.Tryz
structure NB (b:Bk) (p:Bp) (x:Nat):Prop where
 o:b.off=[]\/Ir p.o x
 a:b.az=[]\/Ir p.a x
 c:b.cs=[]\/Ir p.c x
 l:b.ls=[]\/Ir p.l x
 t:b.log=[]\/Ir p.g x
theorem tL {u u':ql} {b:Bk} {p:Bp} {x:Nat} (h:Az u b p) (r:u.grownBy u' (some x)) (n:NB b p x):Az u' b p :=
 ⟨n.o.elim .inl λk=>h.off.far r λB e=>by cases e;exact k,n.a.elim .inl λk=>h.az.far r λB e=>by cases e;exact k,n.c.elim .inl λk=>h.cs.far r λB e=>by cases e;exact k,n.l.elim .inl λk=>h.ls.far r λB e=>by cases e;exact k,n.t.elim .inl λk=>h.log.far r λB e=>by cases e;exact k⟩
theorem S3 {u:ql} {b:Bk} {p:Bp} {x:Nat} (h:Az u b p) (d:u.heap.size<=x):NB b p x:=by
 have k:∀ {a:qm} {c off:Nat},a=some (qzA c off)->c<u.heap.size->Ir a x:=λe hc y hy=>by
  rw [e] at hy;injection hy with hy;subst hy;dsimp only;omega
 exact ⟨h.off.imp id λ⟨_,_,e,hc,_⟩=>k e hc,h.az.imp id λ⟨_,_,e,hc,_⟩=>k e hc,h.cs.imp id λ⟨_,_,e,hc,_⟩=>k e hc,h.ls.imp id λ⟨_,_,e,hc,_⟩=>k e hc,h.log.imp id λ⟨_,_,e,hc,_⟩=>k e hc⟩
theorem Ah0 {b:Bk} {q:Bp} {n x:Nat} (h:FrB q n) (d:x<n):NB b q x:=⟨.inr (Bb h.o d),.inr (Bb h.a d),.inr (Bb h.c d),.inr (Bb h.l d),.inr (Bb h.g d)⟩
def OV (b:Bk) (p:Bp) (v:Value):Prop:=∀ x,v.ownBlock=some x->NB b p x
theorem ES.rj {R X:Nat} {b:Bk} {p:Bp} {w u u':ql} {v:Value} (h:ES R X b p w u) (g:u.grownBy u' v.ownBlock) (hr:∀ x,v.ownBlock=some x->w.heap.size<=x/\X<x/\R<x) (n:OV b p v):ES R X b p w u':=by
 unfold OV at n
 cases hv:v.ownBlock with
 | none =>
  rw [hv] at g
  exact h.below ⟨g.os,g.tape,g.output,g.size,λk hk=>g.block k hk (by simp)⟩
 | some x =>
  rw [hv] at g hr n;obtain ⟨h1,h2,h3⟩:=hr x rfl
  exact ⟨h.z.grown g (by simp;omega),h.r.grown g (by simp;omega),tL h.bk g (n x rfl),h.oR,h.hb.grown g h.hb.size (λk hk=>by cases hk;exact h1),h.hR,h.hX,h.ne⟩
def SsR (b:Bk) (ms:List U2) (w:ql) (e:Ending) (w':ql):Prop :=
 ∃ (b':Bk) (q:Bp) (rj:List (Int×Int)) (v:Value),e=.returned (.tuple #[Fx b' q,v])/\J3 (Yo (Ia Hw)) 0 b ms b' rj/\Hk b'/\Az w' b' q/\w'.ownsRow w.heap.size 70 2 v rj.length (Oa rj)/\BW w w'
theorem Wi (b:Bk) (p:Bp) (A:List MV) (a:qm) (cap:Nat) (w:ql) (d:Az w b p) (hP:Hk b) (k7:Dq w a A) (hm:∀ x ∈ A,MOk x) (hn:A.length<=1048576) :
  qi 6 #[Fx b p,qf a A.length cap] w (SsR b (As A) w):=by
 obtain ⟨i0,hi,k8,k9,l1⟩:=info_parts Afp;obtain ⟨X,hX⟩:=Ae w.heap.size;obtain ⟨R,hR⟩:=Ae (X+1);obtain ⟨U,hU⟩:=A0 ((w.alloc (.cells (qcB b p) 40)).alloc (.cells qzB 40))
 have d3:qj (BW w U):=by rw [qj,hU];go_grown
 have b7:qj (ZQ X b p U):=by rw [qj,hU,<- hX];exact (Z6.new w _ _ _ _ _ _ _).below (bR.alloc nL _)
 have g2:qj (Z0 R U):=by
  have h:=Z6.new (w.alloc (.cells (qcB b p) 40)) (qzI 0) qe qe qe qe qe 40
  rw [qj,hU,<- hR,<- hX];simpa using h
 have i8:=Aa g2.o.lt;have j5:=Aa b7.o.lt;have d4:=Aa (Uu b p U (d.below d3.o) hP.sm)
 have l7:=Aa λu (h:BW w u)=>k7.below h
 have l4:=Aa hm;have l6:=Aa hP;have j6:=Aa hX;have i9:=Aa hR;have j1:=Aa hU;have l5:=Aa (Bh A);have h7:qj (J3 (Yo (Ia Hw)) 0 b ((As A).take 0) b []):=⟨rfl,rfl⟩;unfold Fx at d4 ⊢;clear d hP hX hR hU k7 hm
 go_enter func6,ntmps6
 go_upto_region 1 with fail
 rw [<- j1.o,j6.o,i9.o];clear j1;obtain ⟨x0,x1,x2,x3,x4,x5,s0,s1,s2,s3,s4,s5⟩:=b7.o;go_wp2_with fail
 refine Calls.m d4.o ?_;rintro e w1 ⟨⟨q1,base,rfl,j8,m8,l9,m5,l8,I⟩,p1⟩;have d5:qj (FrB q1 U.heap.size):=⟨I.1,I.2.1,I.2.2.1,I.2.2.2.1,I.2.2.2.2⟩;have h9:=Aa j8;have h6:=Aa (next d3.o p1);have g6:=Aa (b7.o.below p1);have i7:=Aa (g2.o.below p1);clear j8 m8 l9 m5 l8 I p1 d4 x0 x1 x2 x3 x4 x5 s0 s1 s2 s3 s4 s5;obtain ⟨x0,x1,x2,x3,x4,x5,s0,s1,s2,s3,s4,s5⟩:=g6.o;unfold Fx;go_upto_region 2 with fail
 obtain ⟨W2,g7⟩:=A0 (((((((w1.setCell (qzA X 0) (qzI b.today)).setCell (qzA X 1) (qf q1.o b.off.length q1.oc)).setCell (qzA X 2) (qf q1.a b.az.length q1.ac)).setCell (qzA X 3) (qf q1.c b.cs.length q1.cc)).setCell (qzA X 4) (qf q1.l b.ls.length q1.lc)).setCell (qzA X 5) (qf q1.g b.log.length q1.gc)));rw [<- g7]
 have f:qj (ES R X b q1 w W2):=by
  have h1:=j6.o;have h2:=i9.o;rw [qj,g7]
  exact ⟨(((((g6.o.set0 _).set1 _).set2 _).set3 _).set4 _).set5 _,i7.o.far6 (by omega) _ _ _ _ _ _,h9.o.put6 (bG d5.o j5.o) _ _ _ _ _ _,bG d5.o i8.o,Bj (by omega) h6.o _ _ _ _ _ _,by omega,by omega,by omega⟩
 obtain ⟨M,hM⟩:=Ae W2.heap.size
 have i6:qj ((W2.alloc (.cells #[] 70)).ownsRow M 70 2 (qf (some (qzA M 0)) 0 0) 0 (Oa [])):=by
  have h:=World.ownsRow_lit (base:=W2.heap.size) (e:=70) (size:=2) W2 #[] 0 nL (by unfold maxLen;omega) rfl
  rw [qj,<- hM];simpa [Oa] using h
 have a9:qj (X<M/\R<M/\w.heap.size<=M):=by
  have h1:=f.o.z.lt;have h2:=f.o.r.lt;have h3:=f.o.hb.size
  rw [qj,<- hM];exact ⟨h1,h2,h3⟩
 have h5:qj (ES R X b q1 w (W2.alloc (.cells #[] 70))):=f.o.below (bR.alloc nL _)
 have i2:qj (M<=(W2.alloc (.cells #[] 70)).heap.size):=by rw [qj,<- hM];simp
 have j2:qj (OV b q1 (qf (some (qzA M 0)) 0 0)):=λx d=>by
  have e:M=x:=by simpa [Value.ownBlock] using d
  rw [<- e,<- hM];exact S3 f.o.bk nL
 have i3:=Aa hM;clear g7 hM x0 x1 x2 x3 x4 x5 s0 s1 s2 s3 s4 s5 d5 h9 h6 g6 i7 b7 g2 d3 f j5 i8;go_upto_region 3 with fail
 rw [i3.o];clear i3;go_wp2
 go_loopw [6,7] (λs i wr=>∃ (v:Value) (j:Nat) (F:Bk) (p1:Bp) (rj:List (Int×Int)),v=s/\i=qzI (j:Int)/\j<=A.length/\rj.length<=j/\J3 (Yo (Ia Hw)) 0 b ((As A).take j) F rj/\Hk F/\ES R X F p1 w wr/\wr.ownsRow M 70 2 v rj.length (Oa rj)/\OV F p1 v/\M<=wr.heap.size) (λ_ i _=>A.length - (intOf i).toNat)
 case atStart=>exact ⟨_,0,b,q1,[],rfl,rfl,qw _,nL,h7.o,l6.o,h5.o,i6.o,j2.o,i2.o⟩
 case round =>
  obtain ⟨v,j,F,p1,rj,m9,rfl,hj,n5,d2,k6,has,d1,k4,k3⟩:=hrel;subst m9;have a3:=Aa d2;have O:=Aa k6;have H:=Aa has;have g1:=Aa d1;have j3:=Aa k4;have i4:=Aa k3;clear d2 k6 has d1 k4 k3 h5 i6 h7 j2 i2
  by_cases hlt:j<A.length
  ·have m7:(j:Int)<(A.length:Int):=by omega
   obtain ⟨x,c8⟩:=Ae (Gm A j)
   have g0:qj (MOk x):=by rw [<- c8];exact l4.o _ (I8 hlt)
   obtain ⟨gb,off,rfl,n4,k0,k1,g9⟩:=(l7.o wr H.o.hb).at hlt;rw [c8] at k0 k1 g9
   have c9:qj ((As A).take (j+1)=(As A).take j++[x.m]):=by
    rw [qj,Xx _ _ (by rw [Bh];exact hlt),Ht hlt,c8];rfl
   have j0:qj (∀ r,Yo (Ia Hw) F x.m r->J3 (Yo (Ia Hw)) 0 b ((As A).take (j+1)) r.1 (if r.2=0 then rj else rj++[((j:Int),r.2)])):=λr hr=>by
    have h:=Sw a3.o hr;rw [c9.o]
    have e:(0+((As A).take j).length:Nat)=j:=by rw [List.length_take,Bh];omega
    rw [e] at h;exact h
   have g3:qj (qi 25 #[.agg #[qzI x.kd,qf x.ao x.fs.length x.cap]] wr (qp (.tuple #[qd (Dm x.kd x.fs).1,qzI (Dm x.kd x.fs).2]) wr)):=by
    rw [<- Adk];exact Uz x.kd x.ao x.cap x.fs wr g9 g0.o.2.1 g0.o.2.2
   have W:=Aa λr (h:((Dm x.kd x.fs).2≠0/\r=(F,(Dm x.kd x.fs).2))\/((Dm x.kd x.fs).2=0/\∃ s,Ia Hw F (Dm x.kd x.fs).1 s/\r=(s.1,if s.2=0 then 0 else 10+s.2)))=>j0.o r h
   have g8:=Wg x.kd x.fs;have i5:=Aa (aC x.kd x.fs);obtain ⟨L,hL⟩:=Ae ((Dm x.kd x.fs).1);obtain ⟨C,hC⟩:=Ae ((Dm x.kd x.fs).2);rw [hL,hC] at g3 W i5;rw [hL] at g8;have i1:=Aa g8.1;clear g9 c8 a3 g0 c9 j0 hL hC g8;go_wp2_with fail
   refine Calls.m g3.o ?_;rintro e u1 ⟨rfl,b8⟩;have G:=Aa (H.o.below b8);have a5:=Aa (A5 g1.o b8);have b5:=Aa (jk i4.o b8.size);clear b8 g3 k0 k1 H g1 i4
   by_cases hc:C=0
   ·subst hc
    have h8:=Aa (dY Aao F p1 L u1 G.o.bk ⟨O.o.sm,O.o.ref,O.o.day⟩ (by have:=i1.o;omega) (yF (i5.o rfl)))
    obtain ⟨x0,x1,x2,x3,x4,x5,-,-,-,-,-,-⟩:=G.o.z;go_wp2_with fail
    refine Calls.m h8.o ?_;rintro e u2 ⟨⟨b2,code⟩,q2,hrel,rfl,j9,bb,I⟩;unfold Fx
    simp only
    have D:=Aa hrel;have k2:=yK hrel;obtain ⟨W4,b9⟩:=A0 (u2.alloc (.cells (qcB b2 q2) 40))
    have g4:qj (ZQ u2.heap.size b2 q2 W4):=by rw [qj,b9];exact Z6.new u2 _ _ _ _ _ _ _
    have b4:BW u2 W4:=by rw [b9];exact bR.alloc nL _
    have a4:=Aa ((G.o.below bb).below b4);have a8:=Aa (A5 (A5 a5.o bb) b4);have d8:=Aa (jk b5.o (jk bb.size b4.size));have d6:=Aa (j9.below b4);have b3:=Aa I
    have l3:=Aa λx (d:v.ownBlock=some x)=>(a5.o.lt x d).2
    have b6:qj (X<u1.heap.size/\R<u1.heap.size):=⟨G.o.z.lt,G.o.r.lt⟩;obtain ⟨Y,hY⟩:=Ae u2.heap.size;rw [hY] at g4;have j4:=Aa b9;have j7:=Aa hY;clear hrel j9 bb I b9 b4 hY x0 x1 x2 x3 x4 x5 h8 G a5 b5;go_upto_region 10 with fail
    rw [<- j4.o,j7.o];clear j4 j7
    by_cases h0:code=0
    ·subst h0
     have V:=Aa (W.o (b2,0) (.inr ⟨by trivial,(b2,0),D.o,rfl⟩))
     have l2:=Aa (fU (by have:=i1.o;omega) O.o D.o)
     have b0:qj (OV b2 q2 v):=λx d=>Ah0 b3.o (l3.o x d)
     have a6:=Aa (a4.o.put d6.o b3.o b6.o.1 b6.o.2);have S:=Aa (Es a8.o a9.o.1 (qzI b2.today) (qf q2.o b2.off.length q2.oc) (qf q2.a b2.az.length q2.ac) (qf q2.c b2.cs.length q2.cc) (qf q2.l b2.ls.length q2.lc) (qf q2.g b2.log.length q2.gc));obtain ⟨y0,y1,y2,y3,y4,y5,-,-,-,-,-,-⟩:=g4.o;obtain ⟨x0,x1,x2,x3,x4,x5,s0,s1,s2,s3,s4,s5⟩:=a4.o.z;clear D k2 W a4 a8 d6 b3 b6;go_wp2
     go_roundw
     case rel=>exact ⟨v,j+1,b2,q2,rj,rfl,by go_num,by omega,by omega,V.o,l2.o,a6.o,S.o,b0.o,by have:=d8.o;simpa using this⟩
     case measure=>simp [intOf];omega
    ·have n1:(code == 0)=false:=by simpa using h0
     have n0:(code != 0)=true:=by simpa using h0
     have hw:IntKind.i64.wrap (10+code)=10+code:=Afs (by omega) (by omega)
     have d0:b2=F:=by
      rcases D.o with ⟨-,e⟩|⟨-,s,-,⟨-,e⟩|⟨-,e⟩⟩
      ·exact congrArg Prod.fst e
      ·exact congrArg Prod.fst e
      ·exact absurd (congrArg Prod.snd e) h0
     have V:qj (J3 (Yo (Ia Hw)) 0 b ((As A).take (j+1)) F (rj++[((j:Int),10+code)])):=by
      have h:=W.o (F,10+code) (.inr ⟨by trivial,(b2,code),D.o,by rw [if_neg h0,d0]⟩)
      rw [if_neg (show ¬ (10+code=0) by omega)] at h
      exact h
     obtain ⟨uA,hu⟩:=A0 W4;rw [<- hu] at a4 a8 d8 ⊢;have a7:=Aa d8.o;have f:=Aa a4.o;have Z:=Aa j3.o;have T:=Aa a8.o;clear h0 k2 d0 D W a4 a8 d6 b3 b6 g4 hu
     have d7:=Aa λj (hj:v.ownBlock=some j)=>(T.o.lt j hj).1
     go_wp2_with (at_builtin;refine wpList_append_own_at _ rfl (.tmp 45) (.tmp 50) 41 rfl M 70 i0 _ 2 16 underlying41 hi k8 k9 l1 rfl (by decide) v _ _ rfl (T.o.alloc _) ⟨uA.heap.size,0,none⟩ 1 1 [qzI (j:Int),qzI (10+code)] rfl rfl (World.news_of_block (heap_alloc_new uA _)) (kH _ _) (by unfold maxLen;omega) (by omega) (by simp;have:=a7.o;omega) ?_;intro v5 w5 o5 g5 _ k5)
     have bA:Below uA.heap.size uA (uA.alloc (.cells #[qzI (j:Int),qzI (10+code)] 70)):=bR.alloc nL _
     have a6:=Aa ((f.o.below bA).rj g5 (λx d=>by have:=d7.o x d;have:=a9.o;omega) Z.o)
     have d9:=Aa (jk a7.o (jk bA.size g5.size))
     have b0:qj (OV F p1 v5):=by
      rcases k5 with e|e
      ·exact λx d=>Z.o x (by rw [<- e];exact d)
      ·exact λx d=>by rw [e] at d;injection d with d;subst d;exact S3 (f.o.bk.below bA) nL
     have S:qj (w5.ownsRow M 70 2 v5 (rj++[((j:Int),(10+code))]).length (Oa (rj++[((j:Int),(10+code))]))):=by rw [qj,qv,Qt];exact o5
     have J:qj ((rj++[((j:Int),(10+code))]).length<=j+1):=by rw [qj,qv];simp;omega
     obtain ⟨h4,N⟩:=Ae (rj++[((j:Int),(10+code))]);rw [N] at V S J;clear o5 g5 k5 bA N f T Z;go_wp2
     go_roundw
     case rel=>exact ⟨v5,j+1,F,p1,h4,rfl,by go_num,by omega,J.o,V.o,O.o,a6.o,S.o,b0.o,d9.o⟩
     case measure=>simp [intOf];omega
   ·have V:qj (J3 (Yo (Ia Hw)) 0 b ((As A).take (j+1)) F (rj++[((j:Int),C)])):=by
      have h:=W.o (F,C) (.inl ⟨hc,rfl⟩);rw [if_neg hc] at h;exact h
    have n2:(C == 0)=false:=by simpa using hc
    have n3:(C != 0)=true:=by simpa using hc
    obtain ⟨uA,hu⟩:=A0 u1;rw [<- hu] at G a5 b5 ⊢;have a7:=Aa b5.o;have f:=Aa G.o;have Z:=Aa j3.o;have T:=Aa a5.o;clear hc W G a5 hu
    have d7:=Aa λj (hj:v.ownBlock=some j)=>(T.o.lt j hj).1
    go_wp2_with (at_builtin;refine wpList_append_own_at _ rfl (.tmp 31) (.tmp 35) 41 rfl M 70 i0 _ 2 16 underlying41 hi k8 k9 l1 rfl (by decide) v _ _ rfl (T.o.alloc _) ⟨uA.heap.size,0,none⟩ 1 1 [qzI (j:Int),qzI C] rfl rfl (World.news_of_block (heap_alloc_new uA _)) (kH _ _) (by unfold maxLen;omega) (by omega) (by simp;have:=a7.o;omega) ?_;intro v5 w5 o5 g5 _ k5)
    have bA:Below uA.heap.size uA (uA.alloc (.cells #[qzI (j:Int),qzI C] 70)):=bR.alloc nL _
    have a6:=Aa ((f.o.below bA).rj g5 (λx d=>by have:=d7.o x d;have:=a9.o;omega) Z.o)
    have d9:=Aa (jk a7.o (jk bA.size g5.size))
    have b0:qj (OV F p1 v5):=by
     rcases k5 with e|e
     ·exact λx d=>Z.o x (by rw [<- e];exact d)
     ·exact λx d=>by rw [e] at d;injection d with d;subst d;exact S3 (f.o.bk.below bA) nL
    have S:qj (w5.ownsRow M 70 2 v5 (rj++[((j:Int),C)]).length (Oa (rj++[((j:Int),C)]))):=by rw [qj,qv,Qt];exact o5
    have J:qj ((rj++[((j:Int),C)]).length<=j+1):=by rw [qj,qv];simp;omega
    obtain ⟨h4,N⟩:=Ae (rj++[((j:Int),C)]);rw [N] at V S J;clear o5 g5 k5 bA N f T Z;go_wp2
    go_roundw
    case rel=>exact ⟨v5,j+1,F,p1,h4,rfl,by go_num,by omega,J.o,V.o,O.o,a6.o,S.o,b0.o,d9.o⟩
    case measure=>simp [intOf];omega
  ·have m6:j=A.length:=by omega
   subst m6
   have m7:¬ (A.length:Int)<(A.length:Int):=by omega
   have HF:qj (J3 (Yo (Ia Hw)) 0 b (As A) F rj):=by have h:=a3.o;rwa [<- l5.o,List.take_length] at h
   obtain ⟨x0,x1,x2,x3,x4,x5,-,-,-,-,-,-⟩:=H.o.z;obtain ⟨r0,r1,r2,r3,r4,r5,s0,s1,s2,s3,s4,s5⟩:=H.o.r;clear a3;go_wp2
   refine bodyPost_ret (by simp [results,results6,go_sem,r0,r1,r2,r3,r4,r5];try rfl) rfl ?_
   exact ⟨F,p1,rj,v,rfl,HF.o,O.o,H.o.bk.put6 H.o.oR _ _ _ _ _ _,Fj (Es g1.o a9.o.2.1 _ _ _ _ _ _) a9.o.2.2,Bj H.o.hR H.o.hb _ _ _ _ _ _⟩
theorem Acm {base g:Nat} {b:Bk} {q:Bp} {u:ql} (h:Jr base b q u) (hg:q.has g):base<=g/\g<u.heap.size:=by
 rcases hg with e|e|e|e|e
 ·exact h.off.lt g (by rw [e];rfl)
 ·exact h.az.lt g (by rw [e];rfl)
 ·exact h.cs.lt g (by rw [e];rfl)
 ·exact h.ls.lt g (by rw [e];rfl)
 ·exact h.log.lt g (by rw [e];rfl)
theorem Agk {b:Bk} (h:zM b) (hd:Aaf b):Hk b/\∀ l ∈ b.log,l.length<=1048576 :=
 ⟨⟨h.1.1,h.2,λa ha=>(hd.az.2 a ha).2.2.1,λc hc=>hd.cs.2 c hc,λx S=>hd.ls.2 x S,hd.td⟩,λl hl=>by have:=Aaj hl;have:=h.1.2;omega⟩
theorem Ma.at {B:Nat} {b:Bk} {q:Bp} {u:ql} (h:Ma B b q u):Az u b q:=⟨Nq h.off,Hu h.az,Hz h.cs,Eb h.ls,G5 h.log⟩
def TmR (f:List MV) (u:ql) (e:Ending) (w':ql):Prop :=
 ∃ i:List MV,e=.returned (qf (some ⟨u.heap.size,0,none⟩) i.length i.length)/\As i=As f/\Dq w' (some ⟨u.heap.size,0,none⟩) i/\U6 u.heap.size w'.heap.size i w'/\BW u w'
theorem zU (a:qm) (cap:Nat) (f:List MV) (w:ql) (hz:Dq w a f) (hn:f.length<=1048576) (hd:∀ x ∈ f,x.fs.length<=1048576):qi 8 #[qf a f.length cap] w (TmR f w) :=
 (Ux a cap f w hz hn hd).m λe w' ⟨i,U,Y,h3,h4,h5,h6⟩=>by
  have hl:f.length=i.length:=by have:=congrArg List.length Y;rw [Bh,Bh] at this;exact this.s
  rw [hl] at U h5;exact ⟨i,U,Y,h3,U6.of h5.1 h5.2.1 h4 h5.2.2,h6⟩
theorem Ag1 {f i:List MV} (h:As i=As f) (hm:∀ x ∈ f,MOk x):∀ y ∈ i,MOk y:=λy hy=>by
 have U:=Xl hy;rw [h] at U;obtain ⟨x,S,e⟩:=List.mem_map.1 U;have Y:=hm x S;have e1:x.kd=y.kd:=congrArg Prod.fst e;have e2:x.fs=y.fs:=congrArg Prod.snd e;unfold MOk at Y ⊢
 rwa [e1,e2] at Y
structure GA (V:ql) (X B:Nat) (b:Bk) (q:Bp) (v:Value) (rj:List (Int×Int)) (u:ql):Prop where
 lo:BW V u
 z:ZQ X b q u
 o:Ma B b q u
 r:u.ownsRow B 70 2 v rj.length (Oa rj)
theorem GA.below {V:ql} {X B:Nat} {b:Bk} {q:Bp} {v:Value} {rj:List (Int×Int)} {u G:ql} (h:GA V X B b q v rj u) (hb:BW u G):GA V X B b q v rj G:=⟨next h.lo hb,h.z.below hb,h.o.below hb,A5 h.r hb⟩
theorem GA.far {V:ql} {X B r:Nat} {b:Bk} {q:Bp} {v:Value} {rj:List (Int×Int)} {u G:ql} (h:GA V X B b q v rj u) (g:u.grownBy G (some r)) (U:V.heap.size<=r) (Y:r<B) (h3:B<=X):GA V X B b q v rj G :=
 ⟨h.lo.grown g h.lo.size (λx S=>by injection S with S;omega),h.z.grown g (λe=>by injection e with e;omega),h.o.far g Y,h.r.kept g (.inr λe=>by have:=(h.r.lt r e).1;omega)⟩
def LJ (V:ql) (X B:Nat) (b:Bk) (q:Bp) (v:Value) (n:Nat) (cs:List Value) (u:ql):Prop:=LQ V X b q u/\u.ownsRow B 70 2 v n cs
theorem Aea {V:ql} {X B n:Nat} {b:Bk} {q:Bp} {v:Value} {cs:List Value} {u0:ql} (ho:Ma B b q u0) (hr:u0.ownsRow B 70 2 v n cs) (hV:V.heap.size<=B) (hX:u0.heap.size<=X):∀ r,iK b q r->∀ u G:ql,u.grownBy G r->LJ V X B b q v n cs u->LJ V X B b q v n cs G:=λr hi u G g h =>
 ⟨Afc ho hV hX r hi u G g h.1,h.2.kept g (by
  rcases hi with rfl|rfl|rfl|rfl|rfl
  ·exact A7 hr ho.off (by decide)
  ·exact A7 hr ho.az (by decide)
  ·exact A7 hr ho.cs (by decide)
  ·exact A7 hr ho.ls (by decide)
  ·exact A7 hr ho.log (by decide))⟩
structure GM (V:ql) (X B k n:Nat) (b:Bk) (q:Bp) (ao:qm) (c:Nat) (u:ql):Prop where
 lq:LQ V X b q u
 m:Mrk B b q u
 r:Iy u ao (pY k n)
theorem GM.below {V:ql} {X B k n:Nat} {b:Bk} {q:Bp} {ao:qm} {c:Nat} {u G:ql} (h:GM V X B k n b q ao c u) (hb:BW u G):GM V X B k n b q ao c G:=⟨⟨next h.lq.1 hb,h.lq.2.below hb⟩,h.m.below hb,h.r.below hb⟩
theorem Ah7 {V:ql} {X B k n:Nat} {b:Bk} {q:Bp} {ao:qm} {c:Nat} {cs:List Value} {u G:ql} (hl:LJ V X B b q (qf ao n c) n cs u) (hm:Mrk B b q u) (hV:V.heap.size<=B) (hX:∀ j,(Value.slice ao n c).ownBlock=some j->j<X) (ho:G.ownsRow B 70 2 (qf ao n c) n (Oa (pY k n))) (g:u.grownBy G (Value.slice ao n c).ownBlock):GM V X B k n b q ao c G:=by
 have hr:=hl.2
 refine ⟨⟨hl.1.1.grown g hl.1.1.size (λj hj=>by have:=(hr.lt j hj).1;omega),hl.1.2.grown g (λe=>by have:=hX X e.s;omega)⟩,⟨hm.off.kept g (A7 hm.off hr (by decide)),hm.az.kept g (A7 hm.az hr (by decide)),hm.cs.kept g (A7 hm.cs hr (by decide)),hm.ls.kept g (A7 hm.ls hr (by decide)),hm.log.kept g (A7 hm.log hr (by decide))⟩,bH (cap:=c) (by rw [Sa];exact ho)⟩
theorem Agn (b:Bk) (p:Bp) (a:qm) (cap:Nat) (f:List MV) (w:ql) (w0:Az w b p/\Aaf b) (w1:(Dq w a f/\cS f)/\∀ x ∈ f,(Lit.int .i64 x.kd).wf=true) (hE:E0 w) (hT:Hl w) :
  qi 3 #[Fx b p,qf a f.length cap] w (qp (.bool true) w):=by
 obtain ⟨S,hd⟩:=w0;obtain ⟨⟨hm,x9⟩,y1⟩:=w1;obtain ⟨W,hW⟩:=A0 (w.alloc (.cells (qcB b p) 30))
 have bW:BW w W:=by rw [hW];exact bR.alloc nL _
 have s1:S6 w.heap.size b p W:=by rw [hW];exact S6.new w b p _
 have t8:=Aa (iT b p W (S.below bW) hd)
 have t6:=Aa λ(u:ql) (n:Int) (h:BW w u) (h0:0<=n) (U:n<=1048576)=>U1 n h0 U a cap f u (hm.below h) x9
 have i6:=Aa λu (h:BW w u) (hn:Ld b)=>kO b p u (S.below h) hn
 have t9:=Aa λu (h:BW w u) (U:f.length<=1048576) (Y:(∀ x ∈ f,MOk x))=>zU a cap f u (hm.below h) U (λx S=>(Y x S).2.1)
 have v5:=Aa y1;have q0:=Aa hd
 have HE:qj (∀ u,BW w u->E0 u/\Hl u):=λu h=>⟨Kw _ _ hE (h.m hE.size),hT.below h⟩
 have HW:=Aa hW;have q1:=Aa bW;have HS:=Aa s1;clear hW S hd bW hE hT hm x9 y1;obtain ⟨c0,c1,c2,c3,c4,c5⟩:=s1
 have HV:∀ (b:Bk) (q:Bp),qj (Fx b q=.agg (qcB b q)):=λb q=>rfl
 rw [(HV b p).out]
 go_enter func3,ntmps3
 go_upto_region 2 with fail
 rw [<- HW.o];clear HW;go_wp2_with fail
 refine Calls.m t8.o ?_;rintro e u1 ⟨n0,rfl,hg,b1⟩;have h7:=Aa (next q1.o b1);have t2:qj (S6 w.heap.size b p u1):=HS.o.below b1;clear c0 c1 c2 c3 c4 c5 b1 q1 HS t8
 by_cases hneg:n0<0
 ·go_wp2
  go_ret;exact ⟨rfl,h7.o⟩
 have g6:=hg (by omega)
 have n2:=Aa (Agk g6.1 q0.o)
 have t5:qj (qi 5 #[qf a f.length cap,qzI n0] u1 (qp (qzI (F4 (As f) n0)) u1)):=t6.o u1 n0 h7.o (by omega) g6.2
 have s8:=Aa g6.2;clear hg g6 t6 q0;go_wp2_with fail
 refine Calls.m t5.o ?_;rintro e u2 ⟨rfl,b2⟩;have h9:=Aa (next h7.o b2);have n4:qj (S6 w.heap.size b p u2):=t2.o.below b2;obtain ⟨n1,o9⟩:=Ae (F4 (As f) n0);have s9:qj _:=o9;rw [o9];clear b2 o9 h7 t2 t5
 by_cases hneg1:n1<0
 ·go_wp2
  go_ret;exact ⟨rfl,h9.o⟩
 have r6:qj (0<=F4 (As f) n0):=by rw [qj,s9.o];omega
 have HP:qj (Hk b):=n2.o.1;have HG:=Aa n2.o.2;have HN:qj (Ld b):=HP.o.sm
 have d9:qj (f.length<=1048576/\∀ x ∈ f,MOk x):=by
  have h:=Xw r6.o;have h0:=s8.o;rw [Bh] at h
  exact ⟨by omega,λx S=>by have:=h.2 _ (Xl S);exact ⟨v5.o x S,by dsimp only at this;omega,by dsimp only at this;omega⟩⟩
 have b5:qj (∀ i,As i=As f->i.length<=1048576/\∀ y ∈ i,MOk y):=λi h=>by
  have hl:=congrArg List.length h;rw [Bh,Bh] at hl
  exact ⟨by have:=d9.o.1;omega,Ag1 h d9.o.2⟩
 have t7:qj (∀ (u:ql) (q:Bp) (i:List MV) (o:qm),Az u b q->Dq u o i->As i=As f->qi 6 #[Fx b q,qf o i.length i.length] u (SsR b (As f) u)):=λu q i o U Y h3=>by rw [<- h3];exact Wi b q i o _ u U HP.o Y (b5.o i h3).2 (b5.o i h3).1
 have r1:qj (∀ (u:ql) (q:Bp) (i:List MV) (o:qm),BW w u->Az u b q->Dq u o i->As i=As f->qi 9 #[Fx b q,qf o i.length i.length] u (SrR b (As f) u)):=λu q i o h0 U Y h3=>by rw [<- h3];exact V6 b q i o _ u U HP.o HG.o (HE.o u h0).1 (HE.o u h0).2 Y (b5.o i h3).2 (b5.o i h3).1
 have i5:qj (∀ u,BW w u->qi 8 #[qf a f.length cap] u (TmR f u)):=λu h=>t9.o u h d9.o.1 d9.o.2
 clear n2 HG v5 s9 t9 HP HE;obtain ⟨c0,c1,c2,c3,c4,c5⟩:=n4.o;go_wp2_with fail
 refine Calls.m (i6.o _ h9.o HN.o) ?_;rintro e u3 ⟨q3,rfl,o3,b3⟩;have l9:=Aa (next h9.o b3);have t3:qj (S6 w.heap.size b p u3):=n4.o.below b3;have r4:=Aa o3.at;clear c0 c1 c2 c3 c4 c5 b3 o3 h9 n4;go_wp2_with fail
 refine Calls.m (i5.o _ l9.o) ?_;rintro e u4 ⟨y4,rfl,e4,m4,-,b4⟩;have p8:=Aa (next l9.o b4);have t4:qj (S6 w.heap.size b p u4):=t3.o.below b4;have q5:=Aa (t7.o u4 q3 y4 _ (r4.o.below b4) m4 e4);clear b4 m4 e4 l9 t3 r4 t7;go_wp2_with fail
 refine Calls.m q5.o ?_;rintro e u5 ⟨b',ps,rj,v1,rfl,o4,y0,x7,C,p5⟩;obtain ⟨a1,k1,rfl,g5,-⟩:=Mv C;rw [(HV b' ps).out];have p7:=Aa o4;have i4:qj (Ld b'):=y0.sm
 have t1:qj (rj.length<=1048576):=by have h:=eX o4;rw [Bh] at h;have:=d9.o.1;rw [qj];omega
 obtain ⟨X8,o2⟩:=Ae u5.heap.size;obtain ⟨M,j3⟩:=A0 (u5.alloc (.cells (qcB b' ps) 40))
 have b8:BW u5 M:=by rw [j3];exact bR.alloc nL _
 have Z8:qj (ZQ X8 b' ps M):=by rw [qj,j3,<- o2];exact Z6.new u5 _ _ _ _ _ _ _
 have K8:qj (Az M b' ps):=x7.below b8;have J8:qj (Iy M a1 rj):=g5.below b8;have B8:=Aa (next (next p8.o p5) b8);have S8:qj (S6 w.heap.size b p M):=t4.o.below (next p5 b8)
 have V8:qj (∀ u,BW M u->BW w u/\S6 w.heap.size b p u/\ZQ X8 b' ps u):=λu h=>⟨next B8.o h,S8.o.below h,Z8.o.below h⟩
 have p3:=Aa j3;have p4:=Aa o2
 have i0:=Aa λ(u:ql) (q':Bp) (h:BW M u) (hk:Az u b' q')=>Tx b' q' ps u hk (K8.o.below h) i4.o
 have m8:=Aa λ(u:ql) (o:qm) (c:Nat) (h:BW M u) (hk:Iy u o rj)=>Wl o a1 c k1 rj u hk (J8.o.below h) (by have:=t1.o;omega)
 unfold Fx at i0;clear o4 y0 x7 C g5 p5 b8 j3 o2 p8 t4 q5;go_upto_region 9 with fail
 rw [<- p3.o,p4.o];clear p3 p4 Z8;obtain ⟨c0,c1,c2,c3,c4,c5⟩:=S8.o;go_wp2_with fail
 refine Calls.m (i6.o _ B8.o HN.o) ?_;rintro e u6 ⟨F,rfl,o6,b6⟩;rw [(HV b F).out];obtain ⟨X,hX⟩:=Ae u6.heap.size;obtain ⟨V1,j2⟩:=A0 (u6.alloc (.cells (qcB b F) 40))
 have bV:BW u6 V1:=by rw [j2];exact bR.alloc nL _
 have HY:qj (S6 X b F V1):=by rw [qj,j2,<- hX];exact S6.new u6 b F _
 obtain ⟨B4,g2⟩:=Ae M.heap.size
 have t0:qj (Jr B4 b F V1):=by rw [qj,<- g2];exact o6.below bV
 have B3:qj (∀ g,F.has g->B4<=g/\g<X):=λg hg=>by rw [<- g2,<- hX];exact Acm o6 hg
 have m5:=Aa (next b6 bV)
 have r7:qj (B4<=X/\X<V1.heap.size):=⟨by rw [<- g2,<- hX];exact b6.size,HY.o.lt⟩
 have a5:=Aa g2;have v4:=Aa j2;have v6:=Aa hX;clear b6 bV o6 j2 g2 c0 c1 c2 c3 c4 c5 hX;go_upto_region 10 with fail
 rw [<- v4.o,v6.o];clear v4 v6;go_wp2_with fail
 refine Calls.m (i5.o _ (V8.o _ m5.o).1) ?_;rintro e u7 ⟨zs,rfl,ez,mz,j4,b7⟩;obtain ⟨B5,j1⟩:=Ae V1.heap.size;obtain ⟨D,o1⟩:=Ae u7.heap.size;rw [j1,o1] at j4;rw [j1] at mz ⊢;have m6:=Aa (next m5.o b7);have n7:qj (S6 X b F u7):=HY.o.below b7;have d8:qj (Jr B4 b F u7):=t0.o.below b7;have r8:=Aa j4;have s7:=Aa mz;have i1:=Aa ez
 have d7:qj (B4<=X/\X<B5/\B5<D):=by
  have:=r7.o
  have:=j4.lt
  rw [qj,<- j1]
  exact ⟨by omega,by omega,by omega⟩
 have b0:=Aa (r1.o u7 F zs _ (V8.o _ m6.o).1 d8.o.at mz ez);have n5:=Aa o1;rw [(HV b F).out] at b0;clear b7 j1 o1 j4 mz ez m5 HY t0 r7;obtain ⟨d0,d1,d2,d3,d4,d5⟩:=n7.o;go_wp2_with fail
 refine Calls.m b0.o ?_;rintro e u9 ⟨N,q,d,v2,rfl,g4,-,Z,C,p9⟩;obtain ⟨o5,o7⟩:=Sv g4 p7.o;subst o5;subst o7;obtain ⟨a2,J,rfl,-,-⟩:=Mv C;rw [n5.o] at Z C;rw [(HV N q).out];obtain ⟨A,I⟩:=Ae u9.heap.size;obtain ⟨O,a6⟩:=A0 (u9.alloc (.cells (qcB N q) 40))
 have R:BW u9 O:=by rw [a6];exact bR.alloc nL _
 have x1:qj (ZQ A N q O):=by rw [qj,a6,<- I];exact Z6.new u9 _ _ _ _ _ _ _
 have v0:qj (D<=A):=by rw [qj,<- I,<- n5.o];exact p9.size
 have T:qj (GA M A D N q (qf a2 d.length J) d O):=⟨next (next m6.o p9) R,x1.o,Z.below R,A5 C R⟩
 have k6:qj (∀ r,iK N q r->∀ u G:ql,u.grownBy G r->LJ M A D N q (qf a2 d.length J) d.length (Oa d) u->LJ M A D N q (qf a2 d.length J) d.length (Oa d) G):=Aea Z C (by have:=d7.o;have:=a5.o;omega) (by rw [I];exact nL)
 have C0:qj (∀ j,(Value.slice a2 d.length J).ownBlock=some j->j<A):=λj hj=>by rw [<- I];exact (C.lt j hj).2
 have w9:qj (S6 X b F O):=n7.o.below (next p9 R);have l3:qj (Jr B4 b F O):=d8.o.below (next p9 R);have k7:qj (U6 B5 D zs O):=r8.o.below (next p9 R);have l1:=Aa (s7.o.below (next p9 R));have j6:=Aa a6;have j8:=Aa I;clear g4 Z C p9 R a6 I b0 n7 d8 r8 s7 m6 n5 x1 d0 d1 d2 d3 d4 d5;go_upto_region 12 with fail
 rw [<- j6.o,j8.o];clear j6 j8;obtain ⟨c0,c1,c2,c3,c4,c5,-,-,-,-,-,-⟩:=T.o.z;obtain ⟨d0,d1,d2,d3,d4,d5,-,-,-,-,-,-⟩:=(V8.o O T.o.lo).2.2;go_wp2_with fail
 refine Calls.m (i0.o O q T.o.lo T.o.o.at) ?_;rintro e D1 ⟨rfl,p0⟩;have l8:=Aa (T.o.below p0);go_wp2_with fail
 refine Calls.m (m8.o D1 a2 J l8.o.lo (bH l8.o.r)) ?_;rintro e a4 ⟨rfl,y5⟩;have c9:=next p0 y5;have d6:=Aa (T.o.below c9);have j0:qj (S6 X b F a4):=w9.o.below c9;have g1:qj (Jr B4 b F a4):=l3.o.below c9;have k8:qj (U6 B5 D zs a4):=k7.o.below c9;have l2:=Aa (l1.o.below c9);clear c9 p0 y5 c0 c1 c2 c3 c4 c5 d0 d1 d2 d3 d4 d5 T l8 w9 l3 k7 l1;go_upto_region 14 with fail
 go_cut [59] (λv wc=>v=.bool false/\BW a4 wc)
 case first =>
  obtain ⟨c0,c1,c2,c3,c4,c5⟩:=(V8.o a4 d6.o.lo).2.1;obtain ⟨d0,d1,d2,d3,d4,d5⟩:=j0.o
  go_region_with (first
   | (go_at_call 7;refine Calls.m (i6.o _ ((V8.o a4 d6.o.lo).1.t ((bR.drew).m ((V8.o a4 d6.o.lo).1.size))) HN.o) ?_;rintro e u8 ⟨q8,rfl,o8,C2⟩;have b8:=(bR.drew).t C2;obtain ⟨f0,f1,f2,f3,f4,f5⟩:=j0.o.below b8)
   | (go_at_call 10;refine Calls.m (Tx b F q8 _ (g1.o.at.below b8) o8.at HN.o) ?_;rintro e u9 ⟨rfl,b9⟩))
  all_goals
   go_wp2_with fail
   go_meet;exact ⟨rfl,next b8 b9⟩
 case rest =>
  obtain ⟨rfl,b9⟩:=hcut;have G9:=Aa (d6.o.below b9);have Y9:qj (S6 X b F wc):=j0.o.below b9;have w6:qj (Jr B4 b F wc):=g1.o.below b9;have w4:qj (U6 B5 D zs wc):=k8.o.below b9;have w5:=Aa (l2.o.below b9);clear b9 d6 j0 g1 k8 l2;go_wp2_with fail
  refine Calls.m (i5.o wc (V8.o wc G9.o.lo).1) ?_;rintro e u16 ⟨ws,rfl,ew,mw,-,o0⟩
  have k4:=Aa (Uy (some (qzA B5 0)) (some ⟨wc.heap.size,0,none⟩) zs.length ws.length zs ws u16 (w5.o.below o0) mw (i1.o.t ew.s) (by have:=(b5.o zs i1.o).1;omega) (λx S=>by have:=((b5.o zs i1.o).2 x S).2.1;omega))
  have k0:=Aa o0;clear mw ew o0;go_wp2_with fail
  refine Calls.m k4.o ?_;rintro e g8 ⟨rfl,y6⟩;have H:=next k0.o y6;have p6:=Aa (G9.o.below H);have x0:qj (S6 X b F g8):=Y9.o.below H;have l4:qj (Jr B4 b F g8):=w6.o.below H;have k9:qj (U6 B5 D zs g8):=w4.o.below H;clear H y6 k0 k4 G9 Y9 w6 w4 w5
  have n3:qj (qi 13 #[Fx b F,qzI 1] g8 λe w'=>∃ n:Int,e=.returned (qzI n)/\(0<=n/\n<=30000000)/\(GA M A D N q (qf a2 d.length J) d w'/\U6 B5 D zs w')):=bL b F B4 g8 l4.o HN.o (λu=>GA M A D N q (qf a2 d.length J) d u/\U6 B5 D zs u) (λg hg u G hgr hQ=>by
   have g6:=B3.o g hg;have hl:=d7.o;have h8:=a5.o
   exact ⟨hQ.1.far hgr (by omega) (by omega) v0.o,hQ.2.farB hgr (by omega)⟩) ⟨p6.o,k9.o⟩
  rw [(HV b F).out] at n3;obtain ⟨d0,d1,d2,d3,d4,d5⟩:=x0.o;clear p6 l4 k9;go_wp2_with fail
  refine Calls.m n3.o ?_;rintro e A1 ⟨m9,rfl,⟨x8,C4⟩,x3,l5⟩;obtain ⟨K9,rfl⟩:=jj x8
  have s6:qj (qi 14 #[qf (some (qzA B5 0)) zs.length zs.length,qzI (K9:Nat)] A1 λe w'=>∃ m:Nat,e=.returned (qzI m)/\GA M A D N q (qf a2 d.length J) d w'):=iM B5 D zs.length K9 zs n0 A1 l5 (by rw [i1.o];exact r6.o) s8.o (by omega) d7.o.2.2 (λu=>GA M A D N q (qf a2 d.length J) d u) (λg U Y u G hgr hQ=>hQ.far hgr (by have:=d7.o;have:=a5.o;omega) Y v0.o) x3
  clear d0 d1 d2 d3 d4 d5 x3 l5 x8 C4 n3 x0;go_wp2_with fail
  refine Calls.m s6.o ?_;rintro e A2 ⟨D0,rfl,x4⟩;have a8:=Aa x4
  have G3:¬ (D0:Int)<0:=by omega
  clear x4 s6;obtain ⟨c0,c1,c2,c3,c4,c5,-,-,-,-,-,-⟩:=a8.o.z;obtain ⟨d0,d1,d2,d3,d4,d5,-,-,-,-,-,-⟩:=(V8.o A2 a8.o.lo).2.2;go_wp2_with fail
  refine Calls.m (i0.o A2 q a8.o.lo a8.o.o.at) ?_;rintro e D2 ⟨rfl,y8⟩;have g9:=Aa (a8.o.below y8);clear y8 c0 c1 c2 c3 c4 c5 d0 d1 d2 d3 d4 d5 a8;go_wp2_with fail
  refine Calls.m (m8.o D2 a2 J g9.o.lo (bH g9.o.r)) ?_;rintro e D3 ⟨rfl,y9⟩;have a9:=Aa (g9.o.below y9);have i3:=Aa (vJ N q _ D3 a9.o.o i4.o (LJ M A D N q (qf a2 d.length J) d.length (Oa d)) k6.o ⟨⟨a9.o.lo,a9.o.z⟩,a9.o.r⟩)
  have i2:=Aa λu (h:Mrk D N q u)=>tN N q _ u h i4.o
  unfold Fx at i3 i2
  have C3:k6B N<=30000000:=by
   obtain ⟨s1,s2,s3,s4,s5⟩:=i4.o;unfold k6B k5B k4B k3B k2B
   omega
  obtain ⟨K6,x6⟩:=Ae (k6B N);rw [x6] at i3 i2 C3
  have H1:¬ (K6:Int)<0:=by omega
  have r3:qj (d.length<=1048576):=t1.o;obtain ⟨L,hL⟩:∃ L:Nat,K6+2*d.length=L:=⟨_,rfl⟩
  have q9:qj (∀ u,Iy u a2 (pY K6 d.length)->qi 17 #[qf a2 d.length J,qzI (K6:Nat)] u (qp (qzI (L:Nat)) u)):=λu h=>by rw [<- hL];exact yA a2 J _ K6 u h (by have:=r3.o;omega) (by omega)
  have r9:qj (∀ u,u.ownsRow D 70 2 (qf a2 d.length J) d.length (Oa d)->qi 15 #[qf a2 d.length J,qzI (K6:Nat)] u λe w'=>e=.returned (qzI (L:Nat))/\w'.ownsRow D 70 2 (qf a2 d.length J) d.length (Oa (pY K6 d.length))/\u.grownBy w' (Value.slice a2 d.length J).ownBlock):=λu h=>by rw [<- hL];exact wF a2 J D K6 d u h (by have:=r3.o;omega) (by omega)
  have G4:¬ (L:Int)<0:=by omega
  have H2:((L:Int) != (L:Int))=false:=by simp
  clear y9 x6 hL k6 g9;obtain ⟨c0,c1,c2,c3,c4,c5,-,-,-,-,-,-⟩:=a9.o.z;go_wp2_with fail
  refine Calls.m i3.o ?_;rintro e D4 ⟨rfl,l6,g7⟩;have k5:=Aa (r9.o D4 g7.2);have r5:=Aa g7;have s0:=Aa l6;clear l6 g7 c0 c1 c2 c3 c4 c5 a9 i3 r9;go_wp2_with fail
  refine Calls.m k5.o ?_;rintro e A3 ⟨rfl,y2,x5⟩
  have i8:qj (GM M A D K6 d.length N q a2 J A3):=Ah7 r5.o s0.o (by have:=d7.o;have:=a5.o;omega) C0.o y2 x5
  clear y2 x5 r5 s0 k5;obtain ⟨c0,c1,c2,c3,c4,c5,-,-,-,-,-,-⟩:=i8.o.lq.2;go_wp2_with fail
  refine Calls.m (i2.o A3 i8.o.m) ?_;rintro e D5 ⟨rfl,p27⟩;have n8:=Aa (i8.o.below p27);clear p27 c0 c1 c2 c3 c4 c5 i8;go_wp2_with fail
  refine Calls.m (q9.o D5 n8.o.r) ?_;rintro e p1 ⟨rfl,p30⟩;have g0:=Aa (n8.o.below p30);clear p30 n8;obtain ⟨c0,c1,c2,c3,c4,c5⟩:=(V8.o p1 g0.o.lq.1).2.1;go_wp2_with fail
  refine Calls.m (i6.o p1 (V8.o p1 g0.o.lq.1).1 HN.o) ?_;rintro e A4 ⟨q7,rfl,y3,p31⟩;have w7:=Aa p31;have w2:=Aa y3.at;have l7:=Aa (next g0.o.lq.1 p31);clear y3 p31 c0 c1 c2 c3 c4 c5;go_wp2_with fail
  refine Calls.m (i5.o A4 (V8.o A4 l7.o).1) ?_;rintro e u32 ⟨y7,rfl,e7,m7,-,p32⟩;have w8:=Aa (next w7.o p32);have p2:=Aa (next l7.o p32);have b0:=Aa (r1.o u32 q7 y7 _ (V8.o u32 p2.o).1 (w2.o.below p32) m7 e7);clear e7 m7 p32 w7 l7 w2;go_wp2_with fail
  refine Calls.m b0.o ?_;rintro e j5 ⟨b2,q2,r2,v3,rfl,g4,-,Z,C,p33⟩;obtain ⟨o5,o7⟩:=Sv g4 p7.o;subst o5;subst o7;obtain ⟨a3,k3,rfl,g5,-⟩:=Mv C;rw [(HV b2 q2).out];obtain ⟨C1,g3⟩:=Ae j5.heap.size;obtain ⟨c8,a7⟩:=A0 (j5.alloc (.cells (qcB b2 q2) 40))
  have H:BW j5 c8:=by rw [a7];exact bR.alloc nL _
  have x2:qj (ZQ C1 b2 q2 c8):=by rw [qj,a7,<- g3];exact Z6.new j5 _ _ _ _ _ _ _
  have v9:qj (Az c8 b2 q2):=Z.at.below H;have v7:qj (Iy c8 a3 r2):=g5.below H;have i7:=Aa (g0.o.below (next (next w8.o p33) H));have j7:=Aa a7;have j9:=Aa g3;clear g4 Z C g5 p33 H a7 g3 b0 w8 p2 g0;go_upto_region 36 with fail
  rw [<- j7.o,j9.o];clear j7 j9;obtain ⟨c0,c1,c2,c3,c4,c5,-,-,-,-,-,-⟩:=x2.o;obtain ⟨d0,d1,d2,d3,d4,d5,-,-,-,-,-,-⟩:=(V8.o c8 i7.o.lq.1).2.2;go_wp2_with fail
  refine Calls.m (i0.o c8 q2 i7.o.lq.1 v9.o) ?_;rintro e B1 ⟨rfl,p36⟩;have n9:=Aa (i7.o.below p36);have v8:qj (Iy B1 a3 r2):=v7.o.below p36;clear p36 c0 c1 c2 c3 c4 c5 d0 d1 d2 d3 d4 d5 x2 v9 v7 i7;go_wp2_with fail
  refine Calls.m (m8.o B1 a3 k3 n9.o.lq.1 v8.o) ?_;rintro e G0 ⟨rfl,p37⟩;have i9:=Aa (n9.o.below p37);clear p37 n9 v8;obtain ⟨c0,c1,c2,c3,c4,c5,-,-,-,-,-,-⟩:=i9.o.lq.2;go_wp2_with fail
  refine Calls.m (i2.o G0 i9.o.m) ?_;rintro e G1 ⟨rfl,p39⟩;have w3:=Aa (i9.o.below p39);clear p39 c0 c1 c2 c3 c4 c5 i9;go_wp2_with fail
  refine Calls.m (q9.o G1 w3.o.r) ?_;rintro e G2 ⟨rfl,p42⟩;have q6:=Aa (V8.o G2 (next w3.o.lq.1 p42)).1;clear p42;go_wp2;go_ret;exact ⟨rfl,q6.o⟩
end Kb
namespace fnExactSwitchRun
open Go.ChangeShapes Go.WideShapes Go.ChangeAt Go.RowKit Go.Proofs.YtfpafnefpmmofaaGreatDoor.Kb Go.Proofs.Tryz
theorem walk (b:Bk) (p:Bp) (a:qm) (cap:Nat) (i:List MV) (w:ql) (w0:Az w b p/\Aaf b) (z:(Dq w a i/\cS i)/\∀ x ∈ i,(Lit.int .i64 x.kd).wf=true) (hL:laidMetH prog Rows.fnExactSwitchRunRow.laid w) (hsh:w.ShapedOpen prog) :
  qi 3 #[Fx b p,qf a i.length cap] w λe w'=>e=.returned (.bool true)/\BW w w' :=
 have h:=zO hL hsh
 Agn b p a cap i w w0 z h.1 h.2
theorem lifted (os:Os) (started:os.Started) (H:Type) (enc:TypeId×Value->H) (F:Stop.Interp) :
  ReturnsInHanded {} Tryz.checked os 3 .any ((OpenSpec.ofChange Rows.fnExactSwitchRunSpec).preRow enc prog Tryz.f3 Rows.fnExactSwitchRunRow.domain false Rows.fnExactSwitchRunRow.laid)
   (((OpenSpec.ofChange Rows.fnExactSwitchRunSpec).at F).post enc prog Tryz.f3 false true false false):=by
 refine returnsInHanded_of_row (C:=Tryz.checked) (s:=OpenSpec.ofChange Rows.fnExactSwitchRunSpec) own started (by kernel_rfl) func3
  (ChangeSpec.witness_shaped (enc:=enc) (C:=Tryz.checked) (os:=os) (X:=λw _=>laidMetH prog Rows.fnExactSwitchRunRow.laid w) false (World.layVars prog ({ World.holding prog os ⟨#[],#[],[]⟩ with heap:=(World.holding prog os ⟨#[],#[],[]⟩).heap.modify 2 fun|.cells _ t frozen=>.cells #[.iface 279 (.agg #[.pointer (some (qzA 17 160))])] t frozen|o=>o } : ql) (Rows.fnExactSwitchRunRow.laid.filter λx=>x.2.handleName?.isNone)) #[.agg qzB,qe] 8 ((World.layVars_os _ _ _).t rfl)
   (World.shaped_of_ZipB (by kernel_rfl) (by kernel_rfl)) (by kernel_rfl) (by kernel_rfl) (by kernel_rfl)
   (laidMetH_of_parts (cD _ (by kernel_rfl) (by kernel_rfl)) (by kernel_rfl))) ?_
 intro W base args S gs before d J _ _ _ hL hsh _;have c:∀ (j:Nat) t v,Tryz.f3.params[j]?=some t->args[j]?=some v->Value.okWide prog W .any base t v:=d;have n:=J;obtain ⟨p,q,g,l,rfl,_,_⟩:=J
 have I : DataW.TrodVars enc prog W (λ_ => true) ["loop.example/g00126/impl.actWords", "loop.example/g00126/impl.errLogFull", "loop.example/g00126/impl.errLine", "loop.example/g00126/impl.errDay", "loop.example/g00126/impl.errAuth", "loop.example/g00126/impl.errCasesFull", "loop.example/g00126/impl.errCase", "loop.example/g00126/impl.errMoney", "loop.example/g00126/impl.errAct", "loop.example/g00126/impl.stepDays"] gs q := l
 have G:DataW.TrodAll enc prog W 0 (λ_=>true) true Tryz.f3.params.toList args.toList S p:=g
 rw [params3] at G c;obtain ⟨N,a3,d0,T,V,q0,r,rfl,rfl,B,r0⟩:=trodAll_cons G;obtain ⟨O,a4,d1,U,Y,q1,rfl,rfl,rfl,D,Z⟩:=trodAll_cons r0;obtain ⟨rfl,rfl,rfl⟩:=trodAll_nil Z
 obtain rfl:args=#[N,O]:=by cases args;simp_all
 obtain ⟨y1,y2,y3,y4,y5,y6,y7,y8,y9,a5,rfl⟩:=bS I;have L:=B
 have u:∀ x ∈ V,x.block<W.heap.size:=by obtain ⟨m,hm⟩:=L;exact DataW.trod_lt m _ _ _ hm
 obtain ⟨c0,k,rfl,w0⟩:=Adm underlying30 (by kernel_rfl) rfl rfl rfl rfl rfl rfl (by kernel_rfl) (by kernel_rfl) (by kernel_rfl) (by kernel_rfl) (by kernel_rfl) (by kernel_rfl) underlying3 (λ_ _ _ h=>uM underlying22 underlying3 (by kernel_rfl) h) (λ_ _ _ h=>pA underlying23 underlying96 (by kernel_rfl) rfl rfl rfl rfl rfl rfl (by kernel_rfl) (by kernel_rfl) (by kernel_rfl) (by kernel_rfl) (by kernel_rfl) (by kernel_rfl) underlying9 underlying3 underlying3 underlying3 underlying3 underlying4 h) (λ_ _ _ h=>kM underlying24 underlying113 (by kernel_rfl) rfl rfl rfl rfl rfl rfl rfl rfl rfl rfl rfl rfl (by kernel_rfl) (by kernel_rfl) (by kernel_rfl) (by kernel_rfl) (by kernel_rfl) (by kernel_rfl) (by kernel_rfl) (by kernel_rfl) (by kernel_rfl) (by kernel_rfl) (by kernel_rfl) (by kernel_rfl) underlying3 underlying3 underlying3 underlying3 underlying3 underlying3 underlying3 underlying3 underlying3 underlying4 underlying3 underlying3 h) (λ_ _ _ h=>iA underlying27 rfl (by kernel_rfl) underlying25 underlying153 (by kernel_rfl) rfl rfl rfl (by kernel_rfl) (by kernel_rfl) (by kernel_rfl) underlying3 underlying3 underlying3 h) (λ_ _ _ h=>uJ underlying28 underlying9 (by kernel_rfl) h) (c 0 30 N rfl rfl) B
 have M:=D
 have y:∀ x ∈ Y,x.block<W.heap.size:=by obtain ⟨m,hm⟩:=M;exact DataW.trod_lt m _ _ _ hm
 obtain ⟨R,f,A,rfl,z⟩:=Abw underlying31 underlying62 (by kernel_rfl) rfl rfl (by kernel_rfl) (by kernel_rfl) underlying3 underlying60 underlying138 (by kernel_rfl) rfl rfl (by kernel_rfl) (by kernel_rfl) underlying3 underlying9 (c 1 31 O rfl rfl) D
 clear g d
 refine (walk c0 k R f A W w0 z hL hsh).m λe W' ⟨he,bel⟩=>?_
 subst he
 exact ⟨_,rfl,_,_,_,[],_,_,n,trodAll_mk1 (shut_bool underlying4 _),(trodAll_cons_mk (Below.trod Sc (by kernel_rfl) (of_decide_eq_true (by kernel_rfl)) L bel u) (trodAll_cons_mk (Below.trod Sc (by kernel_rfl) (of_decide_eq_true (by kernel_rfl)) M bel y) trodAll_mk0)),bD bel _ _ _ (by kernel_rfl) I,bel.frame _,λh=>by cases h⟩
end fnExactSwitchRun
end Go.Proofs.YtfpafnefpmmofaaGreatDoor
