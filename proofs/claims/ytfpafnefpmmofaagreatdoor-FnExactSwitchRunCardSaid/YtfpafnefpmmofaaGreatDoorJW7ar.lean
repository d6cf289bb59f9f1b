import Derived.Test.YtfpafnefpmmofaaGreatDoorJW7a
import Derived.Test.YtfpafnefpmmofaaGreatDoorJW6ar
set_option maxRecDepth 100000
set_option maxHeartbeats 12800000
namespace Go.Proofs.YtfpafnefpmmofaaGreatDoor
namespace Kb
open Go.RowKit Go.Proofs.Tryz
structure NB (b:Bk) (p:Bp) (x:Nat):Prop where
 o:b.off=[]\/Ir p.o x
 a:b.az=[]\/Ir p.a x
 c:b.cs=[]\/Ir p.c x
 l:b.ls=[]\/Ir p.l x
 t:b.log=[]\/Ir p.g x
theorem tL {u u':ql} {b:Bk} {p:Bp} {x:Nat} (h:Az u b p) (r:u.grownBy u' (some x)) (n:NB b p x):Az u' b p :=
 ⟨n.o.elim .inl λk=>h.off.far r λB e=>by cases e;exact k,n.a.elim .inl λk=>h.az.far r λB e=>by cases e;exact k,n.c.elim .inl λk=>h.cs.far r λB e=>by cases e;exact k,n.l.elim .inl λk=>h.ls.far r λB e=>by cases e;exact k,n.t.elim .inl λk=>h.log.far r λB e=>by cases e;exact k⟩
theorem S3 {u:ql} {b:Bk} {p:Bp} {x:Nat} (h:Az u b p) (d:u.heap.size<=x):NB b p x:=by
 have k:∀ {a:qm} {c off:Nat},a=some (qzA c off)->c<u.heap.size->Ir a x:=λe hc y hy=>by
  rw [e] at hy;injection hy with hy;subst hy;dsimp only;omega
 exact ⟨h.off.imp id λ⟨_,_,e,hc,_⟩=>k e hc,h.az.imp id λ⟨_,_,e,hc,_⟩=>k e hc,h.cs.imp id λ⟨_,_,e,hc,_⟩=>k e hc,h.ls.imp id λ⟨_,_,e,hc,_⟩=>k e hc,h.log.imp id λ⟨_,_,e,hc,_⟩=>k e hc⟩
theorem Ah0 {b:Bk} {q:Bp} {n x:Nat} (h:FrB q n) (d:x<n):NB b q x:=⟨.inr (Bb h.o d),.inr (Bb h.a d),.inr (Bb h.c d),.inr (Bb h.l d),.inr (Bb h.g d)⟩
def OV (b:Bk) (p:Bp) (v:Value):Prop:=∀ x,v.ownBlock=some x->NB b p x
theorem ES.rj {R X:Nat} {b:Bk} {p:Bp} {w u u':ql} {v:Value} (h:ES R X b p w u) (g:u.grownBy u' v.ownBlock) (hr:∀ x,v.ownBlock=some x->w.heap.size<=x/\X<x/\R<x) (n:OV b p v):ES R X b p w u':=by
 unfold OV at n
 cases hv:v.ownBlock with
 | none =>
  rw [hv] at g
  exact h.below ⟨g.os,g.tape,g.output,g.size,λk hk=>g.block k hk (by simp)⟩
 | some x =>
  rw [hv] at g hr n;obtain ⟨h1,h2,h3⟩:=hr x rfl
  exact ⟨h.z.grown g (by simp;omega),h.r.grown g (by simp;omega),tL h.bk g (n x rfl),h.oR,h.hb.grown g h.hb.size (λk hk=>by cases hk;exact h1),h.hR,h.hX,h.ne⟩
def SsR (b:Bk) (ms:List U2) (w:ql) (e:Ending) (w':ql):Prop :=
 ∃ (b':Bk) (q:Bp) (rj:List (Int×Int)) (v:Value),e=.returned (.tuple #[Fx b' q,v])/\J3 (Yo (Ia Hw)) 0 b ms b' rj/\Hk b'/\Az w' b' q/\w'.ownsRow w.heap.size 70 2 v rj.length (Oa rj)/\BW w w'
theorem Wi (b:Bk) (p:Bp) (A:List MV) (a:qm) (cap:Nat) (w:ql) (d:Az w b p) (hP:Hk b) (k7:Dq w a A) (hm:∀ x ∈ A,MOk x) (hn:A.length<=1048576) :
  qi 6 #[Fx b p,qf a A.length cap] w (SsR b (As A) w):=by
 obtain ⟨i0,hi,k8,k9,l1⟩:=info_parts Afp;obtain ⟨X,hX⟩:=Ae w.heap.size;obtain ⟨R,hR⟩:=Ae (X+1);obtain ⟨U,hU⟩:=A0 ((w.alloc (.cells (qcB b p) 40)).alloc (.cells qzB 40))
 have d3:qj (BW w U):=by rw [qj,hU];go_grown
 have b7:qj (ZQ X b p U):=by rw [qj,hU,<- hX];exact (Z6.new w _ _ _ _ _ _ _).below (bR.alloc nL _)
 have g2:qj (Z0 R U):=by
  have h:=Z6.new (w.alloc (.cells (qcB b p) 40)) (qzI 0) qe qe qe qe qe 40
  rw [qj,hU,<- hR,<- hX];simpa using h
 have i8:=Aa g2.o.lt;have j5:=Aa b7.o.lt;have d4:=Aa (Uu b p U (d.below d3.o) hP.sm)
 have l7:=Aa λu (h:BW w u)=>k7.below h
 have l4:=Aa hm;have l6:=Aa hP;have j6:=Aa hX;have i9:=Aa hR;have j1:=Aa hU;have l5:=Aa (Bh A);have h7:qj (J3 (Yo (Ia Hw)) 0 b ((As A).take 0) b []):=⟨rfl,rfl⟩;unfold Fx at d4 ⊢;clear d hP hX hR hU k7 hm
 go_enter func6,ntmps6
 go_upto_region 1 with fail
 rw [<- j1.o,j6.o,i9.o];clear j1;obtain ⟨x0,x1,x2,x3,x4,x5,s0,s1,s2,s3,s4,s5⟩:=b7.o;go_wp2_with fail
 refine Calls.m d4.o ?_;rintro e w1 ⟨⟨q1,base,rfl,j8,m8,l9,m5,l8,I⟩,p1⟩;have d5:qj (FrB q1 U.heap.size):=⟨I.1,I.2.1,I.2.2.1,I.2.2.2.1,I.2.2.2.2⟩;have h9:=Aa j8;have h6:=Aa (next d3.o p1);have g6:=Aa (b7.o.below p1);have i7:=Aa (g2.o.below p1);clear j8 m8 l9 m5 l8 I p1 d4 x0 x1 x2 x3 x4 x5 s0 s1 s2 s3 s4 s5;obtain ⟨x0,x1,x2,x3,x4,x5,s0,s1,s2,s3,s4,s5⟩:=g6.o;unfold Fx;go_upto_region 2 with fail
 obtain ⟨W2,g7⟩:=A0 (((((((w1.setCell (qzA X 0) (qzI b.today)).setCell (qzA X 1) (qf q1.o b.off.length q1.oc)).setCell (qzA X 2) (qf q1.a b.az.length q1.ac)).setCell (qzA X 3) (qf q1.c b.cs.length q1.cc)).setCell (qzA X 4) (qf q1.l b.ls.length q1.lc)).setCell (qzA X 5) (qf q1.g b.log.length q1.gc)));rw [<- g7]
 have f:qj (ES R X b q1 w W2):=by
  have h1:=j6.o;have h2:=i9.o;rw [qj,g7]
  exact ⟨(((((g6.o.set0 _).set1 _).set2 _).set3 _).set4 _).set5 _,i7.o.far6 (by omega) _ _ _ _ _ _,h9.o.put6 (bG d5.o j5.o) _ _ _ _ _ _,bG d5.o i8.o,Bj (by omega) h6.o _ _ _ _ _ _,by omega,by omega,by omega⟩
 obtain ⟨M,hM⟩:=Ae W2.heap.size
 have i6:qj ((W2.alloc (.cells #[] 70)).ownsRow M 70 2 (qf (some (qzA M 0)) 0 0) 0 (Oa [])):=by
  have h:=World.ownsRow_lit (base:=W2.heap.size) (e:=70) (size:=2) W2 #[] 0 nL (by unfold maxLen;omega) rfl
  rw [qj,<- hM];simpa [Oa] using h
 have a9:qj (X<M/\R<M/\w.heap.size<=M):=by
  have h1:=f.o.z.lt;have h2:=f.o.r.lt;have h3:=f.o.hb.size
  rw [qj,<- hM];exact ⟨h1,h2,h3⟩
 have h5:qj (ES R X b q1 w (W2.alloc (.cells #[] 70))):=f.o.below (bR.alloc nL _)
 have i2:qj (M<=(W2.alloc (.cells #[] 70)).heap.size):=by rw [qj,<- hM];simp
 have j2:qj (OV b q1 (qf (some (qzA M 0)) 0 0)):=λx d=>by
  have e:M=x:=by simpa [Value.ownBlock] using d
  rw [<- e,<- hM];exact S3 f.o.bk nL
 have i3:=Aa hM;clear g7 hM x0 x1 x2 x3 x4 x5 s0 s1 s2 s3 s4 s5 d5 h9 h6 g6 i7 b7 g2 d3 f j5 i8;go_upto_region 3 with fail
 rw [i3.o];clear i3;go_wp2
 go_loopw [6,7] (λs i wr=>∃ (v:Value) (j:Nat) (F:Bk) (p1:Bp) (rj:List (Int×Int)),v=s/\i=qzI (j:Int)/\j<=A.length/\rj.length<=j/\J3 (Yo (Ia Hw)) 0 b ((As A).take j) F rj/\Hk F/\ES R X F p1 w wr/\wr.ownsRow M 70 2 v rj.length (Oa rj)/\OV F p1 v/\M<=wr.heap.size) (λ_ i _=>A.length - (intOf i).toNat)
 case atStart=>exact ⟨_,0,b,q1,[],rfl,rfl,qw _,nL,h7.o,l6.o,h5.o,i6.o,j2.o,i2.o⟩
 case round =>
  obtain ⟨v,j,F,p1,rj,m9,rfl,hj,n5,d2,k6,has,d1,k4,k3⟩:=hrel;subst m9;have a3:=Aa d2;have O:=Aa k6;have H:=Aa has;have g1:=Aa d1;have j3:=Aa k4;have i4:=Aa k3;clear d2 k6 has d1 k4 k3 h5 i6 h7 j2 i2
  by_cases hlt:j<A.length
  ·have m7:(j:Int)<(A.length:Int):=by omega
   obtain ⟨x,c8⟩:=Ae (Gm A j)
   have g0:qj (MOk x):=by rw [<- c8];exact l4.o _ (I8 hlt)
   obtain ⟨gb,off,rfl,n4,k0,k1,g9⟩:=(l7.o wr H.o.hb).at hlt;rw [c8] at k0 k1 g9
   have c9:qj ((As A).take (j+1)=(As A).take j++[x.m]):=by
    rw [qj,Xx _ _ (by rw [Bh];exact hlt),Ht hlt,c8];rfl
   have j0:qj (∀ r,Yo (Ia Hw) F x.m r->J3 (Yo (Ia Hw)) 0 b ((As A).take (j+1)) r.1 (if r.2=0 then rj else rj++[((j:Int),r.2)])):=λr hr=>by
    have h:=Sw a3.o hr;rw [c9.o]
    have e:(0+((As A).take j).length:Nat)=j:=by rw [List.length_take,Bh];omega
    rw [e] at h;exact h
   have g3:qj (qi 25 #[.agg #[qzI x.kd,qf x.ao x.fs.length x.cap]] wr (qp (.tuple #[qd (Dm x.kd x.fs).1,qzI (Dm x.kd x.fs).2]) wr)):=by
    rw [<- Adk];exact Uz x.kd x.ao x.cap x.fs wr g9 g0.o.2.1 g0.o.2.2
   have W:=Aa λr (h:((Dm x.kd x.fs).2≠0/\r=(F,(Dm x.kd x.fs).2))\/((Dm x.kd x.fs).2=0/\∃ s,Ia Hw F (Dm x.kd x.fs).1 s/\r=(s.1,if s.2=0 then 0 else 10+s.2)))=>j0.o r h
   have g8:=Wg x.kd x.fs;have i5:=Aa (aC x.kd x.fs);obtain ⟨L,hL⟩:=Ae ((Dm x.kd x.fs).1);obtain ⟨C,hC⟩:=Ae ((Dm x.kd x.fs).2);rw [hL,hC] at g3 W i5;rw [hL] at g8;have i1:=Aa g8.1;clear g9 c8 a3 g0 c9 j0 hL hC g8;go_wp2_with fail
   refine Calls.m g3.o ?_;rintro e u1 ⟨rfl,b8⟩;have G:=Aa (H.o.below b8);have a5:=Aa (A5 g1.o b8);have b5:=Aa (jk i4.o b8.size);clear b8 g3 k0 k1 H g1 i4
   by_cases hc:C=0
   ·subst hc
    have h8:=Aa (dY Aao F p1 L u1 G.o.bk ⟨O.o.sm,O.o.ref,O.o.day⟩ (by have:=i1.o;omega) (yF (i5.o rfl)))
    obtain ⟨x0,x1,x2,x3,x4,x5,-,-,-,-,-,-⟩:=G.o.z;go_wp2_with fail
    refine Calls.m h8.o ?_;rintro e u2 ⟨⟨b2,code⟩,q2,hrel,rfl,j9,bb,I⟩;unfold Fx
    simp only
    have D:=Aa hrel;have k2:=yK hrel;obtain ⟨W4,b9⟩:=A0 (u2.alloc (.cells (qcB b2 q2) 40))
    have g4:qj (ZQ u2.heap.size b2 q2 W4):=by rw [qj,b9];exact Z6.new u2 _ _ _ _ _ _ _
    have b4:BW u2 W4:=by rw [b9];exact bR.alloc nL _
    have a4:=Aa ((G.o.below bb).below b4);have a8:=Aa (A5 (A5 a5.o bb) b4);have d8:=Aa (jk b5.o (jk bb.size b4.size));have d6:=Aa (j9.below b4);have b3:=Aa I
    have l3:=Aa λx (d:v.ownBlock=some x)=>(a5.o.lt x d).2
    have b6:qj (X<u1.heap.size/\R<u1.heap.size):=⟨G.o.z.lt,G.o.r.lt⟩;obtain ⟨Y,hY⟩:=Ae u2.heap.size;rw [hY] at g4;have j4:=Aa b9;have j7:=Aa hY;clear hrel j9 bb I b9 b4 hY x0 x1 x2 x3 x4 x5 h8 G a5 b5;go_upto_region 10 with fail
    rw [<- j4.o,j7.o];clear j4 j7
    by_cases h0:code=0
    ·subst h0
     have V:=Aa (W.o (b2,0) (.inr ⟨by trivial,(b2,0),D.o,rfl⟩))
     have l2:=Aa (fU (by have:=i1.o;omega) O.o D.o)
     have b0:qj (OV b2 q2 v):=λx d=>Ah0 b3.o (l3.o x d)
     have a6:=Aa (a4.o.put d6.o b3.o b6.o.1 b6.o.2);have S:=Aa (Es a8.o a9.o.1 (qzI b2.today) (qf q2.o b2.off.length q2.oc) (qf q2.a b2.az.length q2.ac) (qf q2.c b2.cs.length q2.cc) (qf q2.l b2.ls.length q2.lc) (qf q2.g b2.log.length q2.gc));obtain ⟨y0,y1,y2,y3,y4,y5,-,-,-,-,-,-⟩:=g4.o;obtain ⟨x0,x1,x2,x3,x4,x5,s0,s1,s2,s3,s4,s5⟩:=a4.o.z;clear D k2 W a4 a8 d6 b3 b6;go_wp2
     go_roundw
     case rel=>exact ⟨v,j+1,b2,q2,rj,rfl,by go_num,by omega,by omega,V.o,l2.o,a6.o,S.o,b0.o,by have:=d8.o;simpa using this⟩
     case measure=>simp [intOf];omega
    ·have n1:(code == 0)=false:=by simpa using h0
     have n0:(code != 0)=true:=by simpa using h0
     have hw:IntKind.i64.wrap (10+code)=10+code:=Afs (by omega) (by omega)
     have d0:b2=F:=by
      rcases D.o with ⟨-,e⟩|⟨-,s,-,⟨-,e⟩|⟨-,e⟩⟩
      ·exact congrArg Prod.fst e
      ·exact congrArg Prod.fst e
      ·exact absurd (congrArg Prod.snd e) h0
     have V:qj (J3 (Yo (Ia Hw)) 0 b ((As A).take (j+1)) F (rj++[((j:Int),10+code)])):=by
      have h:=W.o (F,10+code) (.inr ⟨by trivial,(b2,code),D.o,by rw [if_neg h0,d0]⟩)
      rw [if_neg (show ¬ (10+code=0) by omega)] at h
      exact h
     obtain ⟨uA,hu⟩:=A0 W4;rw [<- hu] at a4 a8 d8 ⊢;have a7:=Aa d8.o;have f:=Aa a4.o;have Z:=Aa j3.o;have T:=Aa a8.o;clear h0 k2 d0 D W a4 a8 d6 b3 b6 g4 hu
     have d7:=Aa λj (hj:v.ownBlock=some j)=>(T.o.lt j hj).1
     go_wp2_with (at_builtin;refine wpList_append_own_at _ rfl (.tmp 45) (.tmp 50) 41 rfl M 70 i0 _ 2 16 underlying41 hi k8 k9 l1 rfl (by decide) v _ _ rfl (T.o.alloc _) ⟨uA.heap.size,0,none⟩ 1 1 [qzI (j:Int),qzI (10+code)] rfl rfl (World.news_of_block (heap_alloc_new uA _)) (kH _ _) (by unfold maxLen;omega) (by omega) (by simp;have:=a7.o;omega) ?_;intro v5 w5 o5 g5 _ k5)
     have bA:Below uA.heap.size uA (uA.alloc (.cells #[qzI (j:Int),qzI (10+code)] 70)):=bR.alloc nL _
     have a6:=Aa ((f.o.below bA).rj g5 (λx d=>by have:=d7.o x d;have:=a9.o;omega) Z.o)
     have d9:=Aa (jk a7.o (jk bA.size g5.size))
     have b0:qj (OV F p1 v5):=by
      rcases k5 with e|e
      ·exact λx d=>Z.o x (by rw [<- e];exact d)
      ·exact λx d=>by rw [e] at d;injection d with d;subst d;exact S3 (f.o.bk.below bA) nL
     have S:qj (w5.ownsRow M 70 2 v5 (rj++[((j:Int),(10+code))]).length (Oa (rj++[((j:Int),(10+code))]))):=by rw [qj,qv,Qt];exact o5
     have J:qj ((rj++[((j:Int),(10+code))]).length<=j+1):=by rw [qj,qv];simp;omega
     obtain ⟨h4,N⟩:=Ae (rj++[((j:Int),(10+code))]);rw [N] at V S J;clear o5 g5 k5 bA N f T Z;go_wp2
     go_roundw
     case rel=>exact ⟨v5,j+1,F,p1,h4,rfl,by go_num,by omega,J.o,V.o,O.o,a6.o,S.o,b0.o,d9.o⟩
     case measure=>simp [intOf];omega
   ·have V:qj (J3 (Yo (Ia Hw)) 0 b ((As A).take (j+1)) F (rj++[((j:Int),C)])):=by
      have h:=W.o (F,C) (.inl ⟨hc,rfl⟩);rw [if_neg hc] at h;exact h
    have n2:(C == 0)=false:=by simpa using hc
    have n3:(C != 0)=true:=by simpa using hc
    obtain ⟨uA,hu⟩:=A0 u1;rw [<- hu] at G a5 b5 ⊢;have a7:=Aa b5.o;have f:=Aa G.o;have Z:=Aa j3.o;have T:=Aa a5.o;clear hc W G a5 hu
    have d7:=Aa λj (hj:v.ownBlock=some j)=>(T.o.lt j hj).1
    go_wp2_with (at_builtin;refine wpList_append_own_at _ rfl (.tmp 31) (.tmp 35) 41 rfl M 70 i0 _ 2 16 underlying41 hi k8 k9 l1 rfl (by decide) v _ _ rfl (T.o.alloc _) ⟨uA.heap.size,0,none⟩ 1 1 [qzI (j:Int),qzI C] rfl rfl (World.news_of_block (heap_alloc_new uA _)) (kH _ _) (by unfold maxLen;omega) (by omega) (by simp;have:=a7.o;omega) ?_;intro v5 w5 o5 g5 _ k5)
    have bA:Below uA.heap.size uA (uA.alloc (.cells #[qzI (j:Int),qzI C] 70)):=bR.alloc nL _
    have a6:=Aa ((f.o.below bA).rj g5 (λx d=>by have:=d7.o x d;have:=a9.o;omega) Z.o)
    have d9:=Aa (jk a7.o (jk bA.size g5.size))
    have b0:qj (OV F p1 v5):=by
     rcases k5 with e|e
     ·exact λx d=>Z.o x (by rw [<- e];exact d)
     ·exact λx d=>by rw [e] at d;injection d with d;subst d;exact S3 (f.o.bk.below bA) nL
    have S:qj (w5.ownsRow M 70 2 v5 (rj++[((j:Int),C)]).length (Oa (rj++[((j:Int),C)]))):=by rw [qj,qv,Qt];exact o5
    have J:qj ((rj++[((j:Int),C)]).length<=j+1):=by rw [qj,qv];simp;omega
    obtain ⟨h4,N⟩:=Ae (rj++[((j:Int),C)]);rw [N] at V S J;clear o5 g5 k5 bA N f T Z;go_wp2
    go_roundw
    case rel=>exact ⟨v5,j+1,F,p1,h4,rfl,by go_num,by omega,J.o,V.o,O.o,a6.o,S.o,b0.o,d9.o⟩
    case measure=>simp [intOf];omega
  ·have m6:j=A.length:=by omega
   subst m6
   have m7:¬ (A.length:Int)<(A.length:Int):=by omega
   have HF:qj (J3 (Yo (Ia Hw)) 0 b (As A) F rj):=by have h:=a3.o;rwa [<- l5.o,List.take_length] at h
   obtain ⟨x0,x1,x2,x3,x4,x5,-,-,-,-,-,-⟩:=H.o.z;obtain ⟨r0,r1,r2,r3,r4,r5,s0,s1,s2,s3,s4,s5⟩:=H.o.r;clear a3;go_wp2
   refine bodyPost_ret (by simp [results,results6,go_sem,r0,r1,r2,r3,r4,r5];try rfl) rfl ?_
   exact ⟨F,p1,rj,v,rfl,HF.o,O.o,H.o.bk.put6 H.o.oR _ _ _ _ _ _,Fj (Es g1.o a9.o.2.1 _ _ _ _ _ _) a9.o.2.2,Bj H.o.hR H.o.hb _ _ _ _ _ _⟩
end Kb
end Go.Proofs.YtfpafnefpmmofaaGreatDoor
