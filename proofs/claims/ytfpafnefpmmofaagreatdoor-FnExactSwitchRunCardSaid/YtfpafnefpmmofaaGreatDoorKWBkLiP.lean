import Derived.Test.YtfpafnefpmmofaaGreatDoorJW3b
namespace Go.Proofs.YtfpafnefpmmofaaGreatDoor
open Go.RowKit Go.Proofs.Tryz
set_option maxRecDepth 100000
set_option maxHeartbeats 12800000
theorem lI (F:Ii) (_K:Vw F) {a4:Bk->Prop} (i3:∀ b,a4 b->Ld b) {x:Bk->Int->Int->Int->Int->Bk×Int->Prop} {Act:Bk->Int->Ac->Bk×Int} (ST:eQ a4 x Act) (b:Bk) (p:Bp) (d:qn) (w:ql) (hx:Az w b p) (g3:rO p w.heap.size) (hp:a4 b) (hl:d.length<=1048575) (U:C7 (Ad d)=false/\B6 (Ad d)=false/\Ed (Ad d)=true) :
  qi 67 #[Fx b p,qd d] w λe w'=>∃ r,Em F x Act b d r/\BdR w p r.1 r.2 e w':=by
 have hn:=i3 b hp;have c9:=Aa hp;have G:=Aa U;clear U;have V:=Aa g3
 have D:qj (∀ r,Em F x Act b d r=(if C7 (Ad d)=true then r=Xu F b (Ah (Ao (Ad d) 1))
  else if B6 (Ad d)=true then (if Ax ((Ad d).drop 2)=true then r=Gy F b (Ao (Ad d) 1) (Ah (Ao (Ad d) 2)) (Ah (Ao (Ad d) 3)) (Ah (Ao (Ad d) 4)) else r=(b,1))
  else if Ed (Ad d)=true then (if Ax ((Ad d).drop 1)=true then x b (Ah (Ao (Ad d) 1)) (Ah (Ao (Ad d) 2)) (Ah (Ao (Ad d) 3)) (Ah (Ao (Ad d) 4)) r else r=(b,1))
  else if Ho (Ad d)=true then (if Ax [Ao (Ad d) 1,Ao (Ad d) 3,Ao (Ad d) 4]=true then r=Act b (Ah (Ao (Ad d) 1)) ⟨Cp (Ao (Ad d) 2),Ah (Ao (Ad d) 3),Ah (Ao (Ad d) 4)⟩ else r=(b,1))
  else r=(b,1))):=λr=>rfl
 obtain ⟨LR,g2⟩:=Ae (Em F x Act b d)
 simp only [g2] at D ⊢
 clear hp g3 g2
 have HX:qj (∀ u,BW w u->Az u b p):=λu h=>hx.below h
 have HN:=Aa hn;clear hx hn;obtain ⟨td,A,az,cs,ls,C⟩:=b;obtain ⟨o,oc,a,ac,c,cc,l,lc,g,gc⟩:=p;unfold Fx
 simp only
 obtain ⟨u0,I⟩:=A0 (((w.alloc (.cells #[qzI td,qf o A.length oc,qf a az.length ac,qf c cs.length cc,qf l ls.length lc,qf g C.length gc] 40))).alloc (.cells qzB 40))
 have b0:qj (BW w u0):=by rw [qj,I];go_grown
 have Z:qj ((w.heap.size+1)<u0.heap.size):=by rw [qj,I];simp
 have a3:qj (Z6 w.heap.size (qzI td) (qf o A.length oc) (qf a az.length ac) (qf c cs.length cc) (qf l ls.length lc) (qf g C.length gc) u0):=by
  rw [qj,I];exact ((Z6.new w (qzI td) (qf o A.length oc) (qf a az.length ac) (qf c cs.length cc) (qf l ls.length lc) (qf g C.length gc) 40)).below (bR.alloc nL _)
 have W:qj (Z6 (w.heap.size+1) (qzI 0) qe qe qe qe qe u0):=by
  have h:=Z6.new ((w.alloc (.cells #[qzI td,qf o A.length oc,qf a az.length ac,qf c cs.length cc,qf l ls.length lc,qf g C.length gc] 40))) (qzI 0) qe qe qe qe qe 40
  rw [qj,I];simpa using h
 have d5:qj _:=I;clear I
 go_enter func67,ntmps67
 go_upto_region 1 with fail
 rw [<- d5.o];clear d5;obtain ⟨t0,t1,t2,t3,t4,t5,s0,s1,s2,s3,s4,s5⟩:=a3.o;obtain ⟨q0,q1,q2,q3,q4,q5,p0,p1,p2,p3,p4,p5⟩:=W.o;have h0:=J5 d;have a9:=Hg d;go_wp2_with fail
 refine (Ms d _ (by omega)).m ?_
 rintro e q ⟨wa,wk,rfl,ow,b1⟩;obtain ⟨ws,a8⟩:=Ae (Ad d);rw [a8] at ow h0 a9 ⊢
 simp only [a8] at D G
 obtain ⟨gw,rfl⟩:∃ gw,wa=some (qzA gw 0):=by
  rcases ow.2 with ⟨_,h⟩|⟨g,cap,cw,h,_⟩
  ·omega
  ·injection h with h _ _
   exact ⟨g,h⟩
 have z:qj (∀ u,BW q u->∀ i,i<ws.length->u.cell? (qzA gw i)=some (qd (Ao ws i))):=λu h i hi=>by
  have:=(Tq ((G5 ow).below h) hi).1
  simpa using this
 have H:qj (∀ i,i<ws.length->(Ao ws i).length<=1048576):=λi hi=>by have:=a9 _ (Iz hi);omega
 have b9:=Aa ow;have d6:=Aa (a3.o.below b1);have d1:=Aa (W.o.below b1);have b3:=Aa (next b0.o b1)
 have d2:qj (w.heap.size+1<q.heap.size):=by have:=Z.o;have:=b1.size;rw [qj];omega
 have i5:=Aa Z.o;clear t0 t1 t2 t3 t4 t5 s0 s1 s2 s3 s4 s5 q0 q1 q2 q3 q4 q5 p0 p1 p2 p3 p4 p5 a3 W b0 Z b1 ow a9 a8
 have i1:(0:Int)<(ws.length:Int):=by omega
 go_upto_region 2 with fail
 go_cut [17] (λv wc=>v=.bool (C7 ws)/\wc=q)
 case first =>
  have w0:=z.o q bR 0 (by omega)
  have j:qj (C7 ws=(decide (Ao ws 0=F1) && (decide (ws.length=2) && decide (0<=Ah (Ao ws 1))))):=rfl;obtain ⟨r0,T⟩:=Ae (Ao ws 0);rw [T] at w0 j
  by_cases hd:r0=F1
  ·subst hd
   by_cases h2:ws.length=2
   ·have h9:((ws.length:Int) == 2)=true:=by simp;omega
    have i6:(1:Int)<(ws.length:Int):=by omega
    have w1:=z.o q bR 1 (by omega)
    have g7:=Pc (Ao ws 1) q (H.o 1 (by omega))
    obtain ⟨r1,i2⟩:=Ae (Ao ws 1);rw [i2] at w1 j g7
    have f:qj (C7 ws=decide (0<=Ah r1)):=by rw [qj,j.o];simp [h2]
    unfold F1 at w0;clear h2
    go_wp2_with (go_at_call 94;refine g7.m ?_;rintro e w' ⟨rfl,a7⟩;replace a7:=a7.s;subst a7)
    go_meet
    exact ⟨by rw [f.o],rfl⟩
   ·have h9:((ws.length:Int) == 2)=false:=by simp;omega
    have f:qj (C7 ws=false):=by rw [qj,j.o];simp [h2]
    unfold F1 at w0;clear h2;go_wp2;go_meet
    exact ⟨by rw [f.o],rfl⟩
  ·have N:(r0 == F1)=false:=by simpa using hd
   have f:qj (C7 ws=false):=by rw [qj,j.o];simp [hd]
   unfold F1 at N;go_wp2;go_meet
   exact ⟨by rw [f.o],rfl⟩
 case rest =>
  obtain ⟨rfl,n⟩:=hcut;replace n:=n.s;subst n
  have b7:qj (∀ r,LR r->r=(⟨td,A,az,cs,ls,C⟩,1)->LR (⟨td,A,az,cs,ls,C⟩,1)):=λr h e=>e ▸ h
  cases hday:C7 ws
  case true=>exact absurd (hday.s.t G.o.1) (by decide)
  case false =>
   go_upto_region 4 with fail
   go_cut [42] (λv wc=>v=.bool (B6 ws)/\wc=q)
   case first =>
    have w0:=z.o q bR 0 (by omega)
    have j:qj (B6 ws=(decide (Ao ws 0=Eo) && decide (ws.length=5))):=rfl;obtain ⟨r0,T⟩:=Ae (Ao ws 0);rw [T] at w0 j
    by_cases hd:r0=Eo
    ·subst hd
     by_cases M:ws.length=5
     ·have a5:((ws.length:Int) == 5)=true:=by simp;omega
      have f:qj (B6 ws=true):=by rw [qj,j.o];simp [M]
      unfold Eo at w0;clear M;go_wp2;go_meet
      exact ⟨by rw [f.o],rfl⟩
     ·have a5:((ws.length:Int) == 5)=false:=by simp;omega
      have f:qj (B6 ws=false):=by rw [qj,j.o];simp [M]
      unfold Eo at w0;clear M;go_wp2;go_meet
      exact ⟨by rw [f.o],rfl⟩
    ·have N:(r0 == Eo)=false:=by simpa using hd
     have f:qj (B6 ws=false):=by rw [qj,j.o];simp [hd]
     unfold Eo at N;go_wp2;go_meet
     exact ⟨by rw [f.o],rfl⟩
   case rest =>
    obtain ⟨rfl,n⟩:=hcut;replace n:=n.s;subst n
    cases hau:B6 ws
    case true=>exact absurd (hau.s.t G.o.2.1) (by decide)
    case false =>
     go_upto_region 13 with fail
     go_cut [88] (λv wc=>v=.bool (Ed ws)/\wc=q)
     case first =>
      have w0:=z.o q bR 0 (by omega)
      have j:qj (Ed ws=(decide (Ao ws 0=M7) && decide (ws.length=5))):=rfl;obtain ⟨r0,T⟩:=Ae (Ao ws 0);rw [T] at w0 j
      by_cases hd:r0=M7
      ·subst hd
       by_cases M:ws.length=5
       ·have a5:((ws.length:Int) == 5)=true:=by simp;omega
        have f:qj (Ed ws=true):=by rw [qj,j.o];simp [M]
        unfold M7 at w0;clear M;go_wp2;go_meet
        exact ⟨by rw [f.o],rfl⟩
       ·have a5:((ws.length:Int) == 5)=false:=by simp;omega
        have f:qj (Ed ws=false):=by rw [qj,j.o];simp [M]
        unfold M7 at w0;clear M;go_wp2;go_meet
        exact ⟨by rw [f.o],rfl⟩
      ·have N:(r0 == M7)=false:=by simpa using hd
       have f:qj (Ed ws=false):=by rw [qj,j.o];simp [hd]
       unfold M7 at N;go_wp2;go_meet
       exact ⟨by rw [f.o],rfl⟩
     case rest =>
      obtain ⟨rfl,n⟩:=hcut;replace n:=n.s;subst n
      cases hpa:Ed ws
      case true =>
       have M:ws.length=5:=by simp [Ed] at hpa;exact hpa.2
       have d0:qj (∀ r,(if Ax (ws.drop 1)=true then x ⟨td,A,az,cs,ls,C⟩ (Ah (Ao ws 1)) (Ah (Ao ws 2)) (Ah (Ao ws 3)) (Ah (Ao ws 4)) r else r=(⟨td,A,az,cs,ls,C⟩,1))->LR r):=λr h=>by rw [D.o r,if_neg (by rw [hday];decide),if_neg (by rw [hau];decide),if_pos hpa];exact h
       match ws,M with
       | [x0,x1,x2,x3,x4],_ =>
       have i4:5<=wk:=by
        rcases b9.o.2 with ⟨h,_⟩|⟨g',cap,cw,h,_,_,h1,_⟩
        ·cases h
        ·injection h with _ _ h
         subst h
         simpa using h1
       have d4:qj (Bw q (some (qzA gw 1)) [x1,x2,x3,x4]):=.inr ⟨gw,1,rfl,qs q _ (z.o q bR 0 (by simp)),λi hi=>by
        have:=z.o q bR (1+i) (by simp at hi ⊢;omega)
        rw [this]
        simp at hi
        rcases (show i=0\/i=1\/i=2\/i=3 by omega) with rfl|rfl|rfl|rfl <;> rfl⟩
       have b8:qj (qi 96 #[qf (some (qzA gw 1)) 4 (wk - 1)] q λe w'=>∃ a k,e=.returned (.tuple #[qf a (Bx [x1,x2,x3,x4]).length k,.bool (Ax [x1,x2,x3,x4])])/\w'.ownsRow q.heap.size 3 1 (qf a (Bx [x1,x2,x3,x4]).length k) (Bx [x1,x2,x3,x4]).length ((Bx [x1,x2,x3,x4]).map (Value.int .i64))/\BW q w'):=Su (some (qzA gw 1)) (wk - 1) [x1,x2,x3,x4] q d4.o (by simp) (λr hr=>by
        simp at hr
        rcases hr with rfl|rfl|rfl|rfl
        ·exact H.o 1 (by simp)
        ·exact H.o 2 (by simp)
        ·exact H.o 3 (by simp)
        ·exact H.o 4 (by simp))
       simp only [qx,qy,qu,Nat.reduceAdd] at h0 i1 ⊢
       have i0:(5:Int)<=(wk:Int):=by omega
       have Y:qj (∀ r,(if Ax [x1,x2,x3,x4]=true then x ⟨td,A,az,cs,ls,C⟩ (Ah x1) (Ah x2) (Ah x3) (Ah x4) r else r=(⟨td,A,az,cs,ls,C⟩,1))->LR r):=d0.o
       clear d0 D z H d4 b7 b9 hau hday hpa;go_wp2_with fail
       refine Calls.m b8.o ?_;rintro e u2 ⟨na,nk,rfl,on,b2⟩;have d7:qj (Z6 w.heap.size (qzI td) (qf o A.length oc) (qf a az.length ac) (qf c cs.length cc) (qf l ls.length lc) (qf g C.length gc) u2):=d6.o.below b2;have X:qj (Z6 (w.heap.size+1) (qzI 0) qe qe qe qe qe u2):=d1.o.below b2;have J:qj (BW w u2):=next b3.o b2
       have d3:qj (w.heap.size+1<u2.heap.size):=by have:=d2.o;have:=b2.size;rw [qj];omega
       clear b2 d6 d1 b3 d2 b8
       cases hok:Ax [x1,x2,x3,x4]
       case false =>
        have HE:qj (LR (⟨td,A,az,cs,ls,C⟩,1)):=Y.o _ (by rw [if_neg (by rw [hok];decide)])
        obtain ⟨LN,g1⟩:∃ L,Bx [x1,x2,x3,x4]=L:=⟨_,rfl⟩;rw [g1];clear on g1;obtain ⟨t0,t1,t2,t3,t4,t5,s0,s1,s2,s3,s4,s5⟩:=d7.o;obtain ⟨q0,q1,q2,q3,q4,q5,p0,p1,p2,p3,p4,p5⟩:=X.o;go_wp2
        refine bodyPost_ret (by simp [results,results67,go_sem,q0,q1,q2,q3,q4,q5];try rfl) rfl ?_
        have bel:=Bj (R:=w.heap.size+1) (by omega) J.o
        exact ⟨(⟨td,A,az,cs,ls,C⟩,1),HE.o,⟨o,oc,a,ac,c,cc,l,lc,g,gc⟩,rfl,HX.o _ (bel _ _ _ _ _ _),rfl,rfl,⟨rfl,.inl rfl,.inl rfl,.inl rfl⟩,bel _ _ _ _ _ _⟩
       case true =>
        have g8:Bx [x1,x2,x3,x4]=[Ah x1,Ah x2,Ah x3,Ah x4]:=if_pos hok;rw [g8] at on ⊢
        have HE:qj (∀ r,x ⟨td,A,az,cs,ls,C⟩ (Ah x1) (Ah x2) (Ah x3) (Ah x4) r->LR r):=λr h=>Y.o r (by rw [if_pos hok];exact h)
        have B:=Mj x4;obtain ⟨n1,g4⟩:=Ae (Ah x1);obtain ⟨n2,g5⟩:=Ae (Ah x2);obtain ⟨n3,g6⟩:=Ae (Ah x3);obtain ⟨n4,a6⟩:=Ae (Ah x4);rw [g4,g5,g6,a6] at on HE;rw [a6] at B
        simp only [qx,qy,qu,Nat.reduceAdd] at on ⊢
        obtain ⟨ng,rfl⟩:∃ ng,na=some (qzA ng 0):=by
         rcases on.2 with ⟨h,_⟩|⟨g',cap,cw,h,_⟩
         ·cases h
         ·injection h with h _ _
          exact ⟨g',h⟩
        have c0:=on.cellAt 0 (by omega)
        have c1:=on.cellAt 1 (by omega)
        have c2:=on.cellAt 2 (by omega)
        have c3:=on.cellAt 3 (by omega)
        simp at c0 c1 c2 c3
        have c8:=Aa (ST.pay ⟨td,A,az,cs,ls,C⟩ ⟨o,oc,a,ac,c,cc,l,lc,g,gc⟩ ng nk n1 n2 n3 n4 u2 (HX.o _ J.o) (V.o.m J.o.size) c9.o c0 c1 c2 c3 B.2 B.1);clear g4 g5 g6 a6 g8 Y on hok c0 c1 c2 c3 B;obtain ⟨t0,t1,t2,t3,t4,t5,s0,s1,s2,s3,s4,s5⟩:=d7.o;obtain ⟨q0,q1,q2,q3,q4,q5,p0,p1,p2,p3,p4,p5⟩:=X.o;go_wp2_with fail
        refine Calls.m c8.o ?_;rintro e u4 ⟨⟨⟨h6,g0,d8,d9,h4,h3⟩,code⟩,g9,qq,rfl,B,O,y,S,b4⟩;have b5:qj _:=B;have h7:qj _:=And.intro O (And.intro y S);have b6:=Aa b4;have h8:=Aa (X.o.below b4);have HL:qj _:=HE.o _ g9;clear t0 t1 t2 t3 t4 t5 s0 s1 s2 s3 s4 s5 q0 q1 q2 q3 q4 q5 p0 p1 p2 p3 p4 p5 b4 B O y S g9 c8;obtain ⟨q0,q1,q2,q3,q4,q5,p0,p1,p2,p3,p4,p5⟩:=h8.o;unfold Fx
        simp only
        go_wp2
        refine bodyPost_ret (by simp [results,results67,go_sem,q0,q1,q2,q3,q4,q5];try rfl) rfl ?_
        obtain ⟨O,y,S⟩:=h7.o
        first
         | exact ⟨⟨h6,g0,d8,d9,h4,h3⟩,code,HL.o,bO V.o J.o (by omega) d3.o b5.o O y S b6.o _ _ _ _ _ _⟩
         | exact ⟨(⟨h6,g0,d8,d9,h4,h3⟩,code),HL.o,bO V.o J.o (by omega) d3.o b5.o O y S b6.o _ _ _ _ _ _⟩
      case false=>exact absurd (hpa.s.t G.o.2.2) (by decide)
end Go.Proofs.YtfpafnefpmmofaaGreatDoor
