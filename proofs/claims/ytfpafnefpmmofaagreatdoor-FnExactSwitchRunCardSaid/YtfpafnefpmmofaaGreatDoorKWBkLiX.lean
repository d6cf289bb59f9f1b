import Derived.Test.YtfpafnefpmmofaaGreatDoorJW3b
namespace Go.Proofs.YtfpafnefpmmofaaGreatDoor
open Go.RowKit Go.Proofs.Tryz
set_option maxRecDepth 100000
set_option maxHeartbeats 12800000
theorem mF (F:Ii) (_K:Vw F) {a4:Bk->Prop} (l2:∀ b,a4 b->Ld b) {V:Bk->Int->Int->Int->Int->Bk×Int->Prop} {Act:Bk->Int->Ac->Bk×Int} (ST:eQ a4 V Act) (b:Bk) (p:Bp) (d:qn) (w:ql) (hx:Az w b p) (i2:rO p w.heap.size) (hp:a4 b) (hl:d.length<=1048575) (a7:C7 (Ad d)=false/\B6 (Ad d)=false/\Ed (Ad d)=false) :
  qi 67 #[Fx b p,qd d] w λe w'=>∃ r,Em F V Act b d r/\BdR w p r.1 r.2 e w':=by
 have hn:=l2 b hp;have g5:qj (a4 b):=hp;have S:qj (C7 (Ad d)=false/\B6 (Ad d)=false/\Ed (Ad d)=false):=a7;clear a7;have a8:qj (rO p w.heap.size):=i2
 have C:qj (∀ r,Em F V Act b d r=(if C7 (Ad d)=true then r=Xu F b (Ah (Ao (Ad d) 1))
  else if B6 (Ad d)=true then (if Ax ((Ad d).drop 2)=true then r=Gy F b (Ao (Ad d) 1) (Ah (Ao (Ad d) 2)) (Ah (Ao (Ad d) 3)) (Ah (Ao (Ad d) 4)) else r=(b,1))
  else if Ed (Ad d)=true then (if Ax ((Ad d).drop 1)=true then V b (Ah (Ao (Ad d) 1)) (Ah (Ao (Ad d) 2)) (Ah (Ao (Ad d) 3)) (Ah (Ao (Ad d) 4)) r else r=(b,1))
  else if Ho (Ad d)=true then (if Ax [Ao (Ad d) 1,Ao (Ad d) 3,Ao (Ad d) 4]=true then r=Act b (Ah (Ao (Ad d) 1)) ⟨Cp (Ao (Ad d) 2),Ah (Ao (Ad d) 3),Ah (Ao (Ad d) 4)⟩ else r=(b,1))
  else r=(b,1))):=λr=>rfl
 obtain ⟨LR,i1⟩:∃ L,Em F V Act b d=L:=⟨_,rfl⟩
 simp only [i1] at C ⊢
 clear hp i2 i1
 have HX:qj (∀ u,BW w u->Az u b p):=λu h=>hx.below h
 have HN:qj (Ld b):=hn;clear hx hn;obtain ⟨td,q,az,cs,ls,x⟩:=b;obtain ⟨o,oc,a,ac,c,cc,l,lc,g,gc⟩:=p;unfold Fx
 simp only
 obtain ⟨u0,T⟩:∃ u,u=((w.alloc (.cells #[qzI td,qf o q.length oc,qf a az.length ac,qf c cs.length cc,qf l ls.length lc,qf g x.length gc] 40))).alloc (.cells qzB 40):=⟨_,rfl⟩
 have d6:qj (BW w u0):=by rw [qj,T];go_grown
 have b8:qj ((w.heap.size+1)<u0.heap.size):=by rw [qj,T];simp
 have c8:qj (Z6 w.heap.size (qzI td) (qf o q.length oc) (qf a az.length ac) (qf c cs.length cc) (qf l ls.length lc) (qf g x.length gc) u0):=by
  rw [qj,T];exact ((Z6.new w (qzI td) (qf o q.length oc) (qf a az.length ac) (qf c cs.length cc) (qf l ls.length lc) (qf g x.length gc) 40)).below (bR.alloc nL _)
 have b2:qj (Z6 (w.heap.size+1) (qzI 0) qe qe qe qe qe u0):=by
  have h:=Z6.new ((w.alloc (.cells #[qzI td,qf o q.length oc,qf a az.length ac,qf c cs.length cc,qf l ls.length lc,qf g x.length gc] 40))) (qzI 0) qe qe qe qe qe 40
  rw [qj,T];simpa using h
 have h0:qj _:=T;clear T
 go_enter func67,ntmps67
 go_upto_region 1 with fail
 rw [<- h0.o];clear h0;obtain ⟨t0,t1,t2,t3,t4,t5,s0,s1,s2,s3,s4,s5⟩:=c8.o;obtain ⟨q0,q1,q2,q3,q4,q5,p0,p1,p2,p3,p4,p5⟩:=b2.o;have d3:=J5 d;have d4:=Hg d;go_wp2_with fail
 refine (Ms d _ (by omega)).m ?_
 rintro e A ⟨wa,wk,rfl,ow,b1⟩;obtain ⟨ws,d2⟩:∃ ws,Ad d=ws:=⟨_,rfl⟩;rw [d2] at ow d3 d4 ⊢
 simp only [d2] at C S
 obtain ⟨z,rfl⟩:∃ z,wa=some (qzA z 0):=by
  rcases ow.2 with ⟨_,h⟩|⟨g,cap,cw,h,_⟩
  ·omega
  ·injection h with h _ _
   exact ⟨g,h⟩
 have D:qj (∀ u,BW A u->∀ i,i<ws.length->u.cell? (qzA z i)=some (qd (Ao ws i))):=λu h i hi=>by
  have:=(Tq ((G5 ow).below h) hi).1
  simpa using this
 have M:qj (∀ i,i<ws.length->(Ao ws i).length<=1048576):=λi hi=>by have:=d4 _ (Iz hi);omega
 have g4:qj (A.ownsRow u0.heap.size 9 1 (qf (some (qzA z 0)) ws.length wk) ws.length (At ws)):=ow;have h4:qj (Z6 w.heap.size (qzI td) (qf o q.length oc) (qf a az.length ac) (qf c cs.length cc) (qf l ls.length lc) (qf g x.length gc) A):=c8.o.below b1;have g7:qj (Z6 (w.heap.size+1) (qzI 0) qe qe qe qe qe A):=b2.o.below b1;have d7:qj (BW w A):=next d6.o b1
 have g8:qj (w.heap.size+1<A.heap.size):=by have:=b8.o;have:=b1.size;rw [qj];omega
 have h1:qj (w.heap.size+1<u0.heap.size):=b8.o;clear t0 t1 t2 t3 t4 t5 s0 s1 s2 s3 s4 s5 q0 q1 q2 q3 q4 q5 p0 p1 p2 p3 p4 p5 c8 b2 d6 b8 b1 ow d4 d2
 have j0:(0:Int)<(ws.length:Int):=by omega
 go_upto_region 2 with fail
 go_cut [17] (λv wc=>v=.bool (C7 ws)/\wc=A)
 case first =>
  have w0:=D.o A bR 0 (by omega)
  have j:qj (C7 ws=(decide (Ao ws 0=F1) && (decide (ws.length=2) && decide (0<=Ah (Ao ws 1))))):=rfl;obtain ⟨r0,O⟩:∃ r,Ao ws 0=r:=⟨_,rfl⟩;rw [O] at w0 j
  by_cases hd:r0=F1
  ·subst hd
   by_cases h2:ws.length=2
   ·have k7:((ws.length:Int) == 2)=true:=by simp;omega
    have l5:(1:Int)<(ws.length:Int):=by omega
    have w1:=D.o A bR 1 (by omega)
    have j2:=Pc (Ao ws 1) A (M.o 1 (by omega))
    obtain ⟨r1,k8⟩:∃ r,Ao ws 1=r:=⟨_,rfl⟩;rw [k8] at w1 j j2
    have f:qj (C7 ws=decide (0<=Ah r1)):=by rw [qj,j.o];simp [h2]
    unfold F1 at w0;clear h2
    go_wp2_with (go_at_call 94;refine j2.m ?_;rintro e w' ⟨rfl,d1⟩;replace d1:=d1.s;subst d1)
    go_meet
    exact ⟨by rw [f.o],rfl⟩
   ·have k7:((ws.length:Int) == 2)=false:=by simp;omega
    have f:qj (C7 ws=false):=by rw [qj,j.o];simp [h2]
    unfold F1 at w0;clear h2;go_wp2;go_meet
    exact ⟨by rw [f.o],rfl⟩
  ·have N:(r0 == F1)=false:=by simpa using hd
   have f:qj (C7 ws=false):=by rw [qj,j.o];simp [hd]
   unfold F1 at N;go_wp2;go_meet
   exact ⟨by rw [f.o],rfl⟩
 case rest =>
  obtain ⟨rfl,y⟩:=hcut;replace y:=y.s;subst y
  have g1:qj (∀ r,LR r->r=(⟨td,q,az,cs,ls,x⟩,1)->LR (⟨td,q,az,cs,ls,x⟩,1)):=λr h e=>e ▸ h
  cases hday:C7 ws
  case true=>exact absurd (hday.s.t S.o.1) (by decide)
  case false =>
   go_upto_region 4 with fail
   go_cut [42] (λv wc=>v=.bool (B6 ws)/\wc=A)
   case first =>
    have w0:=D.o A bR 0 (by omega)
    have j:qj (B6 ws=(decide (Ao ws 0=Eo) && decide (ws.length=5))):=rfl;obtain ⟨r0,O⟩:∃ r,Ao ws 0=r:=⟨_,rfl⟩;rw [O] at w0 j
    by_cases hd:r0=Eo
    ·subst hd
     by_cases J:ws.length=5
     ·have W:((ws.length:Int) == 5)=true:=by simp;omega
      have f:qj (B6 ws=true):=by rw [qj,j.o];simp [J]
      unfold Eo at w0;clear J;go_wp2;go_meet
      exact ⟨by rw [f.o],rfl⟩
     ·have W:((ws.length:Int) == 5)=false:=by simp;omega
      have f:qj (B6 ws=false):=by rw [qj,j.o];simp [J]
      unfold Eo at w0;clear J;go_wp2;go_meet
      exact ⟨by rw [f.o],rfl⟩
    ·have N:(r0 == Eo)=false:=by simpa using hd
     have f:qj (B6 ws=false):=by rw [qj,j.o];simp [hd]
     unfold Eo at N;go_wp2;go_meet
     exact ⟨by rw [f.o],rfl⟩
   case rest =>
    obtain ⟨rfl,y⟩:=hcut;replace y:=y.s;subst y
    cases hau:B6 ws
    case true=>exact absurd (hau.s.t S.o.2.1) (by decide)
    case false =>
     go_upto_region 13 with fail
     go_cut [88] (λv wc=>v=.bool (Ed ws)/\wc=A)
     case first =>
      have w0:=D.o A bR 0 (by omega)
      have j:qj (Ed ws=(decide (Ao ws 0=M7) && decide (ws.length=5))):=rfl;obtain ⟨r0,O⟩:∃ r,Ao ws 0=r:=⟨_,rfl⟩;rw [O] at w0 j
      by_cases hd:r0=M7
      ·subst hd
       by_cases J:ws.length=5
       ·have W:((ws.length:Int) == 5)=true:=by simp;omega
        have f:qj (Ed ws=true):=by rw [qj,j.o];simp [J]
        unfold M7 at w0;clear J;go_wp2;go_meet
        exact ⟨by rw [f.o],rfl⟩
       ·have W:((ws.length:Int) == 5)=false:=by simp;omega
        have f:qj (Ed ws=false):=by rw [qj,j.o];simp [J]
        unfold M7 at w0;clear J;go_wp2;go_meet
        exact ⟨by rw [f.o],rfl⟩
      ·have N:(r0 == M7)=false:=by simpa using hd
       have f:qj (Ed ws=false):=by rw [qj,j.o];simp [hd]
       unfold M7 at N;go_wp2;go_meet
       exact ⟨by rw [f.o],rfl⟩
     case rest =>
      obtain ⟨rfl,y⟩:=hcut;replace y:=y.s;subst y
      cases hpa:Ed ws
      case true=>exact absurd (hpa.s.t S.o.2.2) (by decide)
      case false =>
       go_upto_region 18 with fail
       go_cut [112] (λv wc=>v=.bool (Ho ws)/\BW A wc)
       case first =>
        have w0:=D.o A bR 0 (by omega)
        have j:qj (Ho ws=(decide (Ao ws 0=S5) && (decide (ws.length=5) && decide (0<=Cp (Ao ws 2))))):=rfl;obtain ⟨r0,O⟩:∃ r,Ao ws 0=r:=⟨_,rfl⟩;rw [O] at w0 j
        by_cases hd:r0=S5
        ·subst hd
         by_cases J:ws.length=5
         ·have W:((ws.length:Int) == 5)=true:=by simp;omega
          have l6:(2:Int)<(ws.length:Int):=by omega
          have w2:=D.o A bR 2 (by omega)
          have d0:=Zs (Ao ws 2) A (M.o 2 (by omega))
          obtain ⟨r2,k9⟩:∃ r,Ao ws 2=r:=⟨_,rfl⟩;rw [k9] at w2 j d0
          have f:qj (Ho ws=decide (0<=Cp r2)):=by rw [qj,j.o];simp [J]
          have k4:qj _:=d0;unfold S5 at w0;clear J d0
          go_wp2_with (go_at_call 99;refine Calls.m k4.o ?_;rintro e u2 ⟨rfl,bk⟩)
          go_meet
          exact ⟨by rw [f.o],bk⟩
         ·have W:((ws.length:Int) == 5)=false:=by simp;omega
          have f:qj (Ho ws=false):=by rw [qj,j.o];simp [J]
          unfold S5 at w0;clear J;go_wp2;go_meet
          exact ⟨by rw [f.o],bR⟩
        ·have N:(r0 == S5)=false:=by simpa using hd
         have f:qj (Ho ws=false):=by rw [qj,j.o];simp [hd]
         unfold S5 at N;go_wp2;go_meet
         exact ⟨by rw [f.o],bR⟩
       case rest =>
        obtain ⟨rfl,bc⟩:=hcut;have c9:qj (Z6 w.heap.size (qzI td) (qf o q.length oc) (qf a az.length ac) (qf c cs.length cc) (qf l ls.length lc) (qf g x.length gc) wc):=h4.o.below bc;have b3:qj (Z6 (w.heap.size+1) (qzI 0) qe qe qe qe qe wc):=g7.o.below bc;have a9:qj (BW w wc):=next d7.o bc
        have b9:qj (w.heap.size+1<wc.heap.size):=by have:=g8.o;have:=bc.size;rw [qj];omega
        have G:qj (∀ u,BW wc u->∀ i,i<ws.length->u.cell? (qzA z i)=some (qd (Ao ws i))):=λu h i hi=>D.o u (next bc h) i hi
        have j9:qj (w.heap.size+1<z):=by rw [qj];have:=(g4.o.lt z rfl).1;have:=h1.o;omega
        clear bc h4 g7 d7 g8 D
        cases hac:Ho ws
        case false =>
         have Z:qj (LR (⟨td,q,az,cs,ls,x⟩,1)):=by rw [qj,C.o,if_neg (by rw [hday];decide),if_neg (by rw [hau];decide),if_neg (by rw [hpa];decide),if_neg (by rw [hac];decide)]
         obtain ⟨t0,t1,t2,t3,t4,t5,s0,s1,s2,s3,s4,s5⟩:=c9.o;obtain ⟨q0,q1,q2,q3,q4,q5,p0,p1,p2,p3,p4,p5⟩:=b3.o;go_wp2
         refine bodyPost_ret (by simp [results,results67,go_sem,q0,q1,q2,q3,q4,q5];try rfl) rfl ?_
         have bel:=Bj (R:=w.heap.size+1) (by omega) a9.o
         exact ⟨(⟨td,q,az,cs,ls,x⟩,1),Z.o,⟨o,oc,a,ac,c,cc,l,lc,g,gc⟩,rfl,HX.o _ (bel _ _ _ _ _ _),rfl,rfl,⟨rfl,.inl rfl,.inl rfl,.inl rfl⟩,bel _ _ _ _ _ _⟩
        case true =>
         have J:ws.length=5:=by simp [Ho] at hac;exact hac.2.1
         have g6:qj (∀ r,(if Ax [Ao ws 1,Ao ws 3,Ao ws 4]=true then r=Act ⟨td,q,az,cs,ls,x⟩ (Ah (Ao ws 1)) ⟨Cp (Ao ws 2),Ah (Ao ws 3),Ah (Ao ws 4)⟩ else r=(⟨td,q,az,cs,ls,x⟩,1))->LR r):=λr h=>by rw [C.o r,if_neg (by rw [hday];decide),if_neg (by rw [hau];decide),if_neg (by rw [hpa];decide),if_pos hac];exact h
         match ws,J with
         | [x0,x1,x2,x3,x4],_ =>
         have g3:qj (∀ (u:ql) (bk:Nat),u.cell? (qzA bk 0)=some (qd x1)->u.cell? (qzA bk 1)=some (qd x3)->u.cell? (qzA bk 2)=some (qd x4)->qi 96 #[qf (some (qzA bk 0)) 3 3] u λe w'=>∃ a k,e=.returned (.tuple #[qf a (Bx [x1,x3,x4]).length k,.bool (Ax [x1,x3,x4])])/\w'.ownsRow u.heap.size 3 1 (qf a (Bx [x1,x3,x4]).length k) (Bx [x1,x3,x4]).length ((Bx [x1,x3,x4]).map (Value.int .i64))/\BW u w'):=λu bk e0 e1 e2=>Su (some (qzA bk 0)) 3 [x1,x3,x4] u (.inr ⟨bk,0,rfl,qs u _ e0,λi hi=>by
           simp at hi
           rcases (show i=0\/i=1\/i=2 by omega) with rfl|rfl|rfl
           ·exact e0
           ·exact e1
           ·exact e2⟩) (by simp) (λr hr=>by
          simp at hr
          rcases hr with rfl|rfl|rfl
          ·exact M.o 1 (by simp)
          ·exact M.o 3 (by simp)
          ·exact M.o 4 (by simp))
         have g2:qj (∀ u,qi 99 #[qd x2] u λe w'=>e=.returned (qzI (Cp x2))/\BW u w'):=λu=>Zs x2 u (M.o 2 (by simp))
         have H:qj (∀ u,BW wc u->u.cell? (qzA z 1)=some (qd x1)/\u.cell? (qzA z 3)=some (qd x3)/\u.cell? (qzA z 4)=some (qd x4)):=λu h=>⟨G.o u h 1 (by simp),G.o u h 3 (by simp),G.o u h 4 (by simp)⟩
         have h3:qj (∀ u,BW wc u->u.cell? (qzA z 2)=some (qd x2)):=λu h=>G.o u h 2 (by simp)
         simp only [qx,qy,qu,Nat.reduceAdd] at d3 j0 ⊢
         have b7:qj (∀ r,(if Ax [x1,x3,x4]=true then r=Act ⟨td,q,az,cs,ls,x⟩ (Ah x1) ⟨Cp x2,Ah x3,Ah x4⟩ else r=(⟨td,q,az,cs,ls,x⟩,1))->LR r):=g6.o
         clear g6 C G M g1 g4 hau hday hpa hac h1;obtain ⟨uc,l3⟩:∃ u,u=wc:=⟨_,rfl⟩;subst l3;go_upto_region 19 with fail
         go_cut [13,14] (λv13 v14 wz=>∃ na nk,v13=qf na (Bx [x1,x3,x4]).length nk/\v14=.bool (Ax [x1,x3,x4])/\wz.ownsRow uc.heap.size 3 1 (qf na (Bx [x1,x3,x4]).length nk) (Bx [x1,x3,x4]).length ((Bx [x1,x3,x4]).map (Value.int .i64))/\BW uc wz)
         case first =>
          have Y:BW uc uc:=bR;obtain ⟨w1,w3,w4⟩:=H.o uc Y
          go_region_held3 (λu=>u.cell? (qzA z 1)=some (qd x1)/\u.cell? (qzA z 3)=some (qd x3)/\u.cell? (qzA z 4)=some (qd x4)) (first|with_reducible exact H.o _ kz|with_reducible exact H.o _ Y|with_reducible exact H.o _ Y.drew|with_reducible exact H.o _ (Y.alloc nL _)|with_reducible exact H.o _ ((Y.alloc nL _).drew)|with_reducible exact H.o _ (Y.drew.alloc nL _)) ((first
           | (go_at_call 96;refine Calls.m (g3.o _ _ (by simp) (by simp) (by simp)) ?_;rintro e u4 ⟨na,nk,rfl,on,b4⟩;have kz:BW uc u4:=Below.t (by go_grown) (b4.m (by simp)))))
          all_goals
           go_wp2_with fail
           go_meet
           exact ⟨na,nk,rfl,rfl,Bz on (by simp),kz⟩
         case rest =>
          obtain ⟨na,nk,rfl,rfl,on,bz⟩:=hcut;have h6:qj (Z6 w.heap.size (qzI td) (qf o q.length oc) (qf a az.length ac) (qf c cs.length cc) (qf l ls.length lc) (qf g x.length gc) wc):=c9.o.below bz;have b6:qj (Z6 (w.heap.size+1) (qzI 0) qe qe qe qe qe wc):=b3.o.below bz;have d8:qj (BW w wc):=next a9.o bz
          have g9:qj (w.heap.size+1<wc.heap.size):=by have:=b9.o;have:=bz.size;rw [qj];omega
          have k6:qj (wc.cell? (qzA z 2)=some (qd x2)):=h3.o wc bz;have k3:qj (w.heap.size+1<uc.heap.size):=b9.o;clear bz c9 b3 a9 b9 g3 H h3
          cases hok:Ax [x1,x3,x4]
          case false =>
           have Z:qj (LR (⟨td,q,az,cs,ls,x⟩,1)):=b7.o _ (by rw [if_neg (by rw [hok];decide)])
           obtain ⟨LN,i0⟩:∃ L,Bx [x1,x3,x4]=L:=⟨_,rfl⟩;rw [i0];clear on i0;obtain ⟨t0,t1,t2,t3,t4,t5,s0,s1,s2,s3,s4,s5⟩:=h6.o;obtain ⟨q0,q1,q2,q3,q4,q5,p0,p1,p2,p3,p4,p5⟩:=b6.o;go_wp2
           refine bodyPost_ret (by simp [results,results67,go_sem,q0,q1,q2,q3,q4,q5];try rfl) rfl ?_
           have bel:=Bj (R:=w.heap.size+1) (by omega) d8.o
           exact ⟨(⟨td,q,az,cs,ls,x⟩,1),Z.o,⟨o,oc,a,ac,c,cc,l,lc,g,gc⟩,rfl,HX.o _ (bel _ _ _ _ _ _),rfl,rfl,⟨rfl,.inl rfl,.inl rfl,.inl rfl⟩,bel _ _ _ _ _ _⟩
          case true =>
           have j3:Bx [x1,x3,x4]=[Ah x1,Ah x3,Ah x4]:=if_pos hok;rw [j3] at on ⊢
           have Z:qj (LR (Act ⟨td,q,az,cs,ls,x⟩ (Ah x1) ⟨Cp x2,Ah x3,Ah x4⟩)):=b7.o _ (by rw [if_pos hok])
           obtain ⟨m0,i7⟩:∃ n,Ah x1=n:=⟨_,rfl⟩;obtain ⟨m1,i8⟩:∃ n,Ah x3=n:=⟨_,rfl⟩;obtain ⟨m2,i9⟩:∃ n,Ah x4=n:=⟨_,rfl⟩;obtain ⟨kd,i6⟩:∃ n,Cp x2=n:=⟨_,rfl⟩;rw [i7,i8,i9] at on Z;rw [i6] at Z g2
           simp only [qx,qy,qu,Nat.reduceAdd] at on ⊢
           obtain ⟨I,rfl⟩:∃ I,na=some (qzA I 0):=by
            rcases on.2 with ⟨h,_⟩|⟨g',cap,cw,h,_⟩
            ·cases h
            ·injection h with h _ _
             exact ⟨g',h⟩
           have j1:w.heap.size+1<I:=by have:=(on.lt I rfl).1;have:=k3.o;omega
           have c0:=on.cellAt 0 (by omega)
           have c1:=on.cellAt 1 (by omega)
           have c2:=on.cellAt 2 (by omega)
           simp at c0 c1 c2
           have w2:=k6.o
           have d5:qj (∀ u,BW w u->qi 100 #[.agg #[qzI td,qf o q.length oc,qf a az.length ac,qf c cs.length cc,qf l ls.length lc,qf g x.length gc],qzI m0,.agg #[qzI kd,qzI m1,qzI m2]] u (BdR u ⟨o,oc,a,ac,c,cc,l,lc,g,gc⟩ (Act ⟨td,q,az,cs,ls,x⟩ m0 ⟨kd,m1,m2⟩).1 (Act ⟨td,q,az,cs,ls,x⟩ m0 ⟨kd,m1,m2⟩).2)):=λu h=>ST.act ⟨td,q,az,cs,ls,x⟩ ⟨o,oc,a,ac,c,cc,l,lc,g,gc⟩ m0 ⟨kd,m1,m2⟩ u (HX.o u h) (a8.o.m h.size) g5.o
           obtain ⟨⟨⟨j6,h9,h7,h8,j5,j4⟩,code⟩,hD⟩:∃ r,Act ⟨td,q,az,cs,ls,x⟩ m0 ⟨kd,m1,m2⟩=r:=⟨_,rfl⟩
           simp only [hD] at d5 Z
           clear i7 i8 i9 i6 j3 b7 on hok hD;obtain ⟨B,l4⟩:∃ u,u=wc:=⟨_,rfl⟩;subst l4;obtain ⟨t0,t1,t2,t3,t4,t5,s0,s1,s2,s3,s4,s5⟩:=h6.o;obtain ⟨q0,q1,q2,q3,q4,q5,p0,p1,p2,p3,p4,p5⟩:=b6.o
           have U:qj (∀ u,BW B u->u.cell? ⟨w.heap.size,0,none⟩=some (qzI td)/\u.cell? ⟨w.heap.size,1,none⟩=some (qf o q.length oc)/\u.cell? ⟨w.heap.size,2,none⟩=some (qf a az.length ac)/\u.cell? ⟨w.heap.size,3,none⟩=some (qf c cs.length cc)/\u.cell? ⟨w.heap.size,4,none⟩=some (qf l ls.length lc)/\u.cell? ⟨w.heap.size,5,none⟩=some (qf g x.length gc)/\u.cell? (qzA I 0)=some (qzI m0)/\u.cell? (qzA I 1)=some (qzI m1)/\u.cell? (qzA I 2)=some (qzI m2)/\u.cell? (qzA z 2)=some (qd x2)):=λu h=>⟨(h.cell (p:=⟨w.heap.size,0,none⟩) (qs B _ t0)).t t0,(h.cell (p:=⟨w.heap.size,1,none⟩) (qs B _ t1)).t t1,(h.cell (p:=⟨w.heap.size,2,none⟩) (qs B _ t2)).t t2,(h.cell (p:=⟨w.heap.size,3,none⟩) (qs B _ t3)).t t3,(h.cell (p:=⟨w.heap.size,4,none⟩) (qs B _ t4)).t t4,(h.cell (p:=⟨w.heap.size,5,none⟩) (qs B _ t5)).t t5,(h.c I 0 (qs B _ c0)).t c0,(h.c I 1 (qs B _ c1)).t c1,(h.c I 2 (qs B _ c2)).t c2,(h.c z 2 (qs B _ w2)).t w2⟩
           have j8:qj (w.heap.size+1<z/\w.heap.size+1<I):=⟨j9.o,j1⟩
           have k5:qj (∀ (u:ql) (y0 y1 y2 y3 y4 y5:Value),BW B u->((((((u.setCell ⟨w.heap.size+1,0,none⟩ y0).setCell ⟨w.heap.size+1,1,none⟩ y1).setCell ⟨w.heap.size+1,2,none⟩ y2).setCell ⟨w.heap.size+1,3,none⟩ y3).setCell ⟨w.heap.size+1,4,none⟩ y4).setCell ⟨w.heap.size+1,5,none⟩ y5).cell? ⟨w.heap.size,0,none⟩=some (qzI td)/\((((((u.setCell ⟨w.heap.size+1,0,none⟩ y0).setCell ⟨w.heap.size+1,1,none⟩ y1).setCell ⟨w.heap.size+1,2,none⟩ y2).setCell ⟨w.heap.size+1,3,none⟩ y3).setCell ⟨w.heap.size+1,4,none⟩ y4).setCell ⟨w.heap.size+1,5,none⟩ y5).cell? ⟨w.heap.size,1,none⟩=some (qf o q.length oc)/\((((((u.setCell ⟨w.heap.size+1,0,none⟩ y0).setCell ⟨w.heap.size+1,1,none⟩ y1).setCell ⟨w.heap.size+1,2,none⟩ y2).setCell ⟨w.heap.size+1,3,none⟩ y3).setCell ⟨w.heap.size+1,4,none⟩ y4).setCell ⟨w.heap.size+1,5,none⟩ y5).cell? ⟨w.heap.size,2,none⟩=some (qf a az.length ac)/\((((((u.setCell ⟨w.heap.size+1,0,none⟩ y0).setCell ⟨w.heap.size+1,1,none⟩ y1).setCell ⟨w.heap.size+1,2,none⟩ y2).setCell ⟨w.heap.size+1,3,none⟩ y3).setCell ⟨w.heap.size+1,4,none⟩ y4).setCell ⟨w.heap.size+1,5,none⟩ y5).cell? ⟨w.heap.size,3,none⟩=some (qf c cs.length cc)/\((((((u.setCell ⟨w.heap.size+1,0,none⟩ y0).setCell ⟨w.heap.size+1,1,none⟩ y1).setCell ⟨w.heap.size+1,2,none⟩ y2).setCell ⟨w.heap.size+1,3,none⟩ y3).setCell ⟨w.heap.size+1,4,none⟩ y4).setCell ⟨w.heap.size+1,5,none⟩ y5).cell? ⟨w.heap.size,4,none⟩=some (qf l ls.length lc)/\((((((u.setCell ⟨w.heap.size+1,0,none⟩ y0).setCell ⟨w.heap.size+1,1,none⟩ y1).setCell ⟨w.heap.size+1,2,none⟩ y2).setCell ⟨w.heap.size+1,3,none⟩ y3).setCell ⟨w.heap.size+1,4,none⟩ y4).setCell ⟨w.heap.size+1,5,none⟩ y5).cell? ⟨w.heap.size,5,none⟩=some (qf g x.length gc)/\((((((u.setCell ⟨w.heap.size+1,0,none⟩ y0).setCell ⟨w.heap.size+1,1,none⟩ y1).setCell ⟨w.heap.size+1,2,none⟩ y2).setCell ⟨w.heap.size+1,3,none⟩ y3).setCell ⟨w.heap.size+1,4,none⟩ y4).setCell ⟨w.heap.size+1,5,none⟩ y5).cell? (qzA I 0)=some (qzI m0)/\((((((u.setCell ⟨w.heap.size+1,0,none⟩ y0).setCell ⟨w.heap.size+1,1,none⟩ y1).setCell ⟨w.heap.size+1,2,none⟩ y2).setCell ⟨w.heap.size+1,3,none⟩ y3).setCell ⟨w.heap.size+1,4,none⟩ y4).setCell ⟨w.heap.size+1,5,none⟩ y5).cell? (qzA I 1)=some (qzI m1)/\((((((u.setCell ⟨w.heap.size+1,0,none⟩ y0).setCell ⟨w.heap.size+1,1,none⟩ y1).setCell ⟨w.heap.size+1,2,none⟩ y2).setCell ⟨w.heap.size+1,3,none⟩ y3).setCell ⟨w.heap.size+1,4,none⟩ y4).setCell ⟨w.heap.size+1,5,none⟩ y5).cell? (qzA I 2)=some (qzI m2)/\((((((u.setCell ⟨w.heap.size+1,0,none⟩ y0).setCell ⟨w.heap.size+1,1,none⟩ y1).setCell ⟨w.heap.size+1,2,none⟩ y2).setCell ⟨w.heap.size+1,3,none⟩ y3).setCell ⟨w.heap.size+1,4,none⟩ y4).setCell ⟨w.heap.size+1,5,none⟩ y5).cell? (qzA z 2)=some (qd x2)):=λu y0 y1 y2 y3 y4 y5 h=>by
            obtain ⟨e0,e1,e2,e3,e4,e5,e6,e7,e8,e9⟩:=U.o u h;have l7:=j8.o
            exact ⟨Fd e0 (by show _≠_;simp;try omega) _ _ _ _ _ _,Fd e1 (by show _≠_;simp;try omega) _ _ _ _ _ _,Fd e2 (by show _≠_;simp;try omega) _ _ _ _ _ _,Fd e3 (by show _≠_;simp;try omega) _ _ _ _ _ _,Fd e4 (by show _≠_;simp;try omega) _ _ _ _ _ _,Fd e5 (by show _≠_;simp;try omega) _ _ _ _ _ _,Fd e6 (by show _≠_;simp;try omega) _ _ _ _ _ _,Fd e7 (by show _≠_;simp;try omega) _ _ _ _ _ _,Fd e8 (by show _≠_;simp;try omega) _ _ _ _ _ _,Fd e9 (by show _≠_;simp;try omega) _ _ _ _ _ _⟩
           have Y:BW B B:=bR
           have b0:qj (∀ u,BW B u->BW w u):=λu h=>next d8.o h
           clear s0 s1 s2 s3 s4 s5 j1 q0 q1 q2 q3 q4 q5 p0 p1 p2 p3 p4 p5;go_upto_region 22 with fail
           go_region_held3 (λu=>u.cell? ⟨w.heap.size,0,none⟩=some (qzI td)/\u.cell? ⟨w.heap.size,1,none⟩=some (qf o q.length oc)/\u.cell? ⟨w.heap.size,2,none⟩=some (qf a az.length ac)/\u.cell? ⟨w.heap.size,3,none⟩=some (qf c cs.length cc)/\u.cell? ⟨w.heap.size,4,none⟩=some (qf l ls.length lc)/\u.cell? ⟨w.heap.size,5,none⟩=some (qf g x.length gc)/\u.cell? (qzA I 0)=some (qzI m0)/\u.cell? (qzA I 1)=some (qzI m1)/\u.cell? (qzA I 2)=some (qzI m2)/\u.cell? (qzA z 2)=some (qd x2)) (first|with_reducible exact U.o _ k2|with_reducible exact U.o _ k1|with_reducible exact U.o _ Y|with_reducible exact U.o _ Y.drew|with_reducible exact k5.o _ _ _ _ _ _ _ k2) ((first
            | (go_at_call 99;refine Calls.m (g2.o _) ?_;rintro e u4 ⟨rfl,b4⟩;have k1:BW B u4:=Below.t (by go_grown) (b4.m (by simp)))
            | (go_at_call 100;(with_reducible refine Calls.m (d5.o _ (b0.o _ k1)) ?_);rintro e u5 ⟨qq,rfl,i3,i5,a6,X,b5⟩;unfold Fx;simp only;have k2:BW B u5:=next k1 b5;have d9:qj _:=i3;have j7:qj _:=And.intro i5 (And.intro a6 X);have g0:qj (BW u4 u5):=b5;have a3:qj (BW B u4):=k1;have l1:=b6.o.below k2;obtain ⟨q0,q1,q2,q3,q4,q5,p0,p1,p2,p3,p4,p5⟩:=l1;clear i3 i5 a6 X b5)))
           all_goals
            rename_i hheld
            clear hheld Y k1 k2 b4 c0 c1 c2 w2 t0 t1 t2 t3 t4 t5 d3 j0;go_wp2
            refine bodyPost_ret (by simp [results,results67,go_sem,q0,q1,q2,q3,q4,q5];try rfl) rfl ?_
            obtain ⟨i4,a5,X⟩:=j7.o
            first
             | exact ⟨⟨j6,h9,h7,h8,j5,j4⟩,code,Z.o,bO a8.o (b0.o _ a3.o) (by omega) (by have:=g9.o;have:=a3.o.size;omega) d9.o i4 a5 X g0.o _ _ _ _ _ _⟩
             | exact ⟨(⟨j6,h9,h7,h8,j5,j4⟩,code),Z.o,bO a8.o (b0.o _ a3.o) (by omega) (by have:=g9.o;have:=a3.o.size;omega) d9.o i4 a5 X g0.o _ _ _ _ _ _⟩
end Go.Proofs.YtfpafnefpmmofaaGreatDoor
