import Derived.Test.YtfpafnefpmmofaaGreatDoorJW3b
namespace Go.Proofs.YtfpafnefpmmofaaGreatDoor
open Go.RowKit Go.Proofs.Tryz
set_option maxRecDepth 100000
set_option maxHeartbeats 12800000
theorem mM (F:Ii) (K:Vw F) {d0:Bk->Prop} (j3:∀ b,d0 b->Ld b) {N:Bk->Int->Int->Int->Int->Bk×Int->Prop} {Act:Bk->Int->Ac->Bk×Int} (_ST:eQ d0 N Act) (b:Bk) (p:Bp) (d:qn) (w:ql) (hx:Az w b p) (h7:rO p w.heap.size) (hp:d0 b) (hl:d.length<=1048575) (a6:C7 (Ad d)=false/\B6 (Ad d)=true) :
  qi 67 #[Fx b p,qd d] w λe w'=>∃ r,Em F N Act b d r/\BdR w p r.1 r.2 e w':=by
 have hn:=j3 b hp;have j4:=Aa hp;have M:=Aa a6;clear a6;have j6:=Aa h7
 have C:qj (∀ r,Em F N Act b d r=(if C7 (Ad d)=true then r=Xu F b (Ah (Ao (Ad d) 1))
  else if B6 (Ad d)=true then (if Ax ((Ad d).drop 2)=true then r=Gy F b (Ao (Ad d) 1) (Ah (Ao (Ad d) 2)) (Ah (Ao (Ad d) 3)) (Ah (Ao (Ad d) 4)) else r=(b,1))
  else if Ed (Ad d)=true then (if Ax ((Ad d).drop 1)=true then N b (Ah (Ao (Ad d) 1)) (Ah (Ao (Ad d) 2)) (Ah (Ao (Ad d) 3)) (Ah (Ao (Ad d) 4)) r else r=(b,1))
  else if Ho (Ad d)=true then (if Ax [Ao (Ad d) 1,Ao (Ad d) 3,Ao (Ad d) 4]=true then r=Act b (Ah (Ao (Ad d) 1)) ⟨Cp (Ao (Ad d) 2),Ah (Ao (Ad d) 3),Ah (Ao (Ad d) 4)⟩ else r=(b,1))
  else r=(b,1))):=λr=>rfl
 obtain ⟨LR,h6⟩:=Ae (Em F N Act b d)
 simp only [h6] at C ⊢
 clear hp h7 h6
 have HX:qj (∀ u,BW w u->Az u b p):=λu h=>hx.below h
 have HN:=Aa hn;clear hx hn;obtain ⟨td,j,az,cs,ls,n⟩:=b;obtain ⟨o,oc,a,ac,c,cc,l,lc,g,gc⟩:=p;unfold Fx
 simp only
 obtain ⟨u0,I⟩:=A0 (((w.alloc (.cells #[qzI td,qf o j.length oc,qf a az.length ac,qf c cs.length cc,qf l ls.length lc,qf g n.length gc] 40))).alloc (.cells qzB 40))
 have d6:qj (BW w u0):=by rw [qj,I];go_grown
 have b6:qj ((w.heap.size+1)<u0.heap.size):=by rw [qj,I];simp
 have c8:qj (Z6 w.heap.size (qzI td) (qf o j.length oc) (qf a az.length ac) (qf c cs.length cc) (qf l ls.length lc) (qf g n.length gc) u0):=by
  rw [qj,I];exact ((Z6.new w (qzI td) (qf o j.length oc) (qf a az.length ac) (qf c cs.length cc) (qf l ls.length lc) (qf g n.length gc) 40)).below (bR.alloc nL _)
 have b3:qj (Z6 (w.heap.size+1) (qzI 0) qe qe qe qe qe u0):=by
  have h:=Z6.new ((w.alloc (.cells #[qzI td,qf o j.length oc,qf a az.length ac,qf c cs.length cc,qf l ls.length lc,qf g n.length gc] 40))) (qzI 0) qe qe qe qe qe 40
  rw [qj,I];simpa using h
 have g9:qj _:=I;clear I
 go_enter func67,ntmps67
 go_upto_region 1 with fail
 rw [<- g9.o];clear g9;obtain ⟨t0,t1,t2,t3,t4,t5,s0,s1,s2,s3,s4,s5⟩:=c8.o;obtain ⟨V,W,X,Y,Z,q5,p0,p1,p2,p3,p4,p5⟩:=b3.o;have i3:=J5 d;have d5:=Hg d;go_wp2_with fail
 refine (Ms d _ (by omega)).m ?_
 rintro e y ⟨wa,wk,rfl,ow,b1⟩;obtain ⟨ws,d4⟩:=Ae (Ad d);rw [d4] at ow i3 d5 ⊢
 simp only [d4] at C M
 obtain ⟨H,rfl⟩:∃ H,wa=some (qzA H 0):=by
  rcases ow.2 with ⟨_,h⟩|⟨g,cap,cw,h,_⟩
  ·omega
  ·injection h with h _ _
   exact ⟨g,h⟩
 have A:qj (∀ u,BW y u->∀ i,i<ws.length->u.cell? (qzA H i)=some (qd (Ao ws i))):=λu h i hi=>by
  have:=(Tq ((G5 ow).below h) hi).1
  simpa using this
 have G:qj (∀ i,i<ws.length->(Ao ws i).length<=1048576):=λi hi=>by have:=d5 _ (Iz hi);omega
 have g3:=Aa ow;have h3:=Aa (c8.o.below b1);have g5:=Aa (b3.o.below b1);have d7:=Aa (next d6.o b1)
 have g6:qj (w.heap.size+1<y.heap.size):=by have:=b6.o;have:=b1.size;rw [qj];omega
 have j7:=Aa b6.o;clear t0 t1 t2 t3 t4 t5 s0 s1 s2 s3 s4 s5 V W X Y Z q5 p0 p1 p2 p3 p4 p5 c8 b3 d6 b6 b1 ow d5 d4
 have j1:(0:Int)<(ws.length:Int):=by omega
 go_upto_region 2 with fail
 go_cut [17] (λv wc=>v=.bool (C7 ws)/\wc=y)
 case first =>
  have w0:=A.o y bR 0 (by omega)
  have q:qj (C7 ws=(decide (Ao ws 0=F1) && (decide (ws.length=2) && decide (0<=Ah (Ao ws 1))))):=rfl;obtain ⟨r0,d2⟩:=Ae (Ao ws 0);rw [d2] at w0 q
  by_cases hd:r0=F1
  ·subst hd
   by_cases h2:ws.length=2
   ·have i8:((ws.length:Int) == 2)=true:=by simp;omega
    have j8:(1:Int)<(ws.length:Int):=by omega
    have w1:=A.o y bR 1 (by omega)
    have i1:=Pc (Ao ws 1) y (G.o 1 (by omega))
    obtain ⟨r1,j2⟩:=Ae (Ao ws 1);rw [j2] at w1 q i1
    have f:qj (C7 ws=decide (0<=Ah r1)):=by rw [qj,q.o];simp [h2]
    unfold F1 at w0;clear h2
    go_wp2_with (go_at_call 94;refine i1.m ?_;rintro e w' ⟨rfl,d3⟩;replace d3:=d3.s;subst d3)
    go_meet
    exact ⟨by rw [f.o],rfl⟩
   ·have i8:((ws.length:Int) == 2)=false:=by simp;omega
    have f:qj (C7 ws=false):=by rw [qj,q.o];simp [h2]
    unfold F1 at w0;clear h2;go_wp2;go_meet
    exact ⟨by rw [f.o],rfl⟩
  ·have d1:(r0 == F1)=false:=by simpa using hd
   have f:qj (C7 ws=false):=by rw [qj,q.o];simp [hd]
   unfold F1 at d1;go_wp2;go_meet
   exact ⟨by rw [f.o],rfl⟩
 case rest =>
  obtain ⟨rfl,B⟩:=hcut;replace B:=B.s;subst B
  have d9:qj (∀ r,LR r->r=(⟨td,j,az,cs,ls,n⟩,1)->LR (⟨td,j,az,cs,ls,n⟩,1)):=λr h e=>e ▸ h
  cases hday:C7 ws
  case true=>exact absurd (hday.s.t M.o.1) (by decide)
  case false =>
   go_upto_region 4 with fail
   go_cut [42] (λv wc=>v=.bool (B6 ws)/\wc=y)
   case first =>
    have w0:=A.o y bR 0 (by omega)
    have q:qj (B6 ws=(decide (Ao ws 0=Eo) && decide (ws.length=5))):=rfl;obtain ⟨r0,d2⟩:=Ae (Ao ws 0);rw [d2] at w0 q
    by_cases hd:r0=Eo
    ·subst hd
     by_cases h5:ws.length=5
     ·have i9:((ws.length:Int) == 5)=true:=by simp;omega
      have f:qj (B6 ws=true):=by rw [qj,q.o];simp [h5]
      unfold Eo at w0;clear h5;go_wp2;go_meet
      exact ⟨by rw [f.o],rfl⟩
     ·have i9:((ws.length:Int) == 5)=false:=by simp;omega
      have f:qj (B6 ws=false):=by rw [qj,q.o];simp [h5]
      unfold Eo at w0;clear h5;go_wp2;go_meet
      exact ⟨by rw [f.o],rfl⟩
    ·have d1:(r0 == Eo)=false:=by simpa using hd
     have f:qj (B6 ws=false):=by rw [qj,q.o];simp [hd]
     unfold Eo at d1;go_wp2;go_meet
     exact ⟨by rw [f.o],rfl⟩
   case rest =>
    obtain ⟨rfl,B⟩:=hcut;replace B:=B.s;subst B
    cases hau:B6 ws
    case true =>
     have h5:ws.length=5:=by simp [B6] at hau;exact hau.2
     have g4:qj (∀ r,(if Ax (ws.drop 2)=true then r=Gy F ⟨td,j,az,cs,ls,n⟩ (Ao ws 1) (Ah (Ao ws 2)) (Ah (Ao ws 3)) (Ah (Ao ws 4)) else r=(⟨td,j,az,cs,ls,n⟩,1))->LR r):=λr h=>by rw [C.o r,if_neg (by rw [hday];decide),if_pos hau];exact h
     match ws,h5 with
     | [x0,x1,x2,x3,x4],_ =>
     have j5:5<=wk:=by
      rcases g3.o.2 with ⟨h,_⟩|⟨g',cap,cw,h,_,_,h1,_⟩
      ·cases h
      ·injection h with _ _ h
       subst h
       simpa using h1
     have g8:qj (Bw y (some (qzA H 2)) [x2,x3,x4]):=.inr ⟨H,2,rfl,qs y _ (A.o y bR 0 (by simp)),λi hi=>by
      have:=A.o y bR (2+i) (by simp at hi ⊢;omega)
      rw [this]
      simp at hi
      rcases (show i=0\/i=1\/i=2 by omega) with rfl|rfl|rfl <;> rfl⟩
     have g0:qj (qi 96 #[qf (some (qzA H 2)) 3 (wk - 2)] y λe w'=>∃ a k,e=.returned (.tuple #[qf a (Bx [x2,x3,x4]).length k,.bool (Ax [x2,x3,x4])])/\w'.ownsRow y.heap.size 3 1 (qf a (Bx [x2,x3,x4]).length k) (Bx [x2,x3,x4]).length ((Bx [x2,x3,x4]).map (Value.int .i64))/\BW y w'):=Su (some (qzA H 2)) (wk - 2) [x2,x3,x4] y g8.o (by simp) (λr hr=>by
      simp at hr
      rcases hr with rfl|rfl|rfl
      ·exact G.o 2 (by simp)
      ·exact G.o 3 (by simp)
      ·exact G.o 4 (by simp))
     simp only [qx,qy,qu,Nat.reduceAdd] at i3 j1 ⊢
     have j0:(5:Int)<=(wk:Int):=by omega
     have i4:x1.length<=1048576:=G.o 1 (by simp)
     have w1:=A.o y bR 1 (by simp)
     have b8:qj (y.cell? (qzA H 1)=some (qd x1)):=w1
     have b5:qj (∀ r,(if Ax [x2,x3,x4]=true then r=Gy F ⟨td,j,az,cs,ls,n⟩ x1 (Ah x2) (Ah x3) (Ah x4) else r=(⟨td,j,az,cs,ls,n⟩,1))->LR r):=g4.o
     clear g4 C A G g8 d9 g3 w1 hau hday;go_wp2_with fail
     refine Calls.m g0.o ?_;rintro e z ⟨na,nk,rfl,on,b2⟩;have a5:qj (Z6 w.heap.size (qzI td) (qf o j.length oc) (qf a az.length ac) (qf c cs.length cc) (qf l ls.length lc) (qf g n.length gc) z):=h3.o.below b2;have a4:qj (Z6 (w.heap.size+1) (qzI 0) qe qe qe qe qe z):=g5.o.below b2;have D:qj (BW w z):=next d7.o b2
     have g7:qj (w.heap.size+1<z.heap.size):=by have:=g6.o;have:=b2.size;rw [qj];omega
     have h0:qj (z.cell? (qzA H 1)=some (qd x1)):=(b2.c H 1 (qs y _ b8.o)).t b8.o;clear b2 h3 g5 d7 g6 b8 g0
     cases hok:Ax [x2,x3,x4]
     case false =>
      have HE:qj (LR (⟨td,j,az,cs,ls,n⟩,1)):=b5.o _ (by rw [if_neg (by rw [hok];decide)])
      obtain ⟨LN,h4⟩:∃ L,Bx [x2,x3,x4]=L:=⟨_,rfl⟩;rw [h4];clear on h4;obtain ⟨t0,t1,t2,t3,t4,t5,s0,s1,s2,s3,s4,s5⟩:=a5.o;obtain ⟨V,W,X,Y,Z,q5,p0,p1,p2,p3,p4,p5⟩:=a4.o;go_wp2
      refine bodyPost_ret (by simp [results,results67,go_sem,V,W,X,Y,Z,q5];try rfl) rfl ?_
      have bel:=Bj (R:=w.heap.size+1) (by omega) D.o
      exact ⟨(⟨td,j,az,cs,ls,n⟩,1),HE.o,⟨o,oc,a,ac,c,cc,l,lc,g,gc⟩,rfl,HX.o _ (bel _ _ _ _ _ _),rfl,rfl,⟨rfl,.inl rfl,.inl rfl,.inl rfl⟩,bel _ _ _ _ _ _⟩
     case true =>
      have i2:Bx [x2,x3,x4]=[Ah x2,Ah x3,Ah x4]:=if_pos hok;rw [i2] at on ⊢
      have HE:qj (LR (Gy F ⟨td,j,az,cs,ls,n⟩ x1 (Ah x2) (Ah x3) (Ah x4))):=b5.o _ (by rw [if_pos hok])
      obtain ⟨n2,h8⟩:=Ae (Ah x2);obtain ⟨n3,h9⟩:=Ae (Ah x3);obtain ⟨n4,i0⟩:=Ae (Ah x4);rw [h8,h9,i0] at on HE
      simp only [qx,qy,qu,Nat.reduceAdd] at on ⊢
      obtain ⟨S,rfl⟩:∃ S,na=some (qzA S 0):=by
       rcases on.2 with ⟨h,_⟩|⟨g',cap,cw,h,_⟩
       ·cases h
       ·injection h with h _ _
        exact ⟨g',h⟩
      have c0:=on.cellAt 0 (by omega)
      have c1:=on.cellAt 1 (by omega)
      have c2:=on.cellAt 2 (by omega)
      simp at c0 c1 c2
      clear h8 h9 i0 i2 b5 on hok
      have a3:qj (∀ u,BW w u->qi 97 #[qf a az.length ac,.agg #[qd x1,qzI n2,qzI n3,qzI n4,qzI td,.bool false]] u (Wv u (F.add az ⟨x1,n2,n3,n4,td,false⟩) (F.addOk az ⟨x1,n2,n3,n4,td,false⟩))):=λu h=>K.add a ac az ⟨x1,n2,n3,n4,td,false⟩ u (HX.o u h).az (by have:=HN.o.2.1;simpa using this) i4
      have a7:qj (Gy F ⟨td,j,az,cs,ls,n⟩ x1 n2 n3 n4=if F.addOk az ⟨x1,n2,n3,n4,td,false⟩=true then (⟨td,j,F.add az ⟨x1,n2,n3,n4,td,false⟩,cs,ls,n⟩,0) else (⟨td,j,az,cs,ls,n⟩,3)):=rfl
      obtain ⟨L,hL⟩:=Ae (F.add az ⟨x1,n2,n3,n4,td,false⟩);obtain ⟨O,hO⟩:=Ae (F.addOk az ⟨x1,n2,n3,n4,td,false⟩)
      simp only [hL,hO] at a3 a7
      rw [a7.o] at HE;have d8:=Aa (D.o.t ((bR.drew).m D.o.size));clear hL hO a7;have w1:=h0.o;obtain ⟨t0,t1,t2,t3,t4,t5,s0,s1,s2,s3,s4,s5⟩:=a5.o;obtain ⟨V,W,X,Y,Z,q5,p0,p1,p2,p3,p4,p5⟩:=a4.o;go_upto_region 8 with fail
      go_cut [9,10] (λv9 v10 wz=>∃ T U,v9=qf T L.length U/\v10=.bool O/\wz.ownsRow z.heap.size 108 6 (qf T L.length U) L.length (Ap L)/\BW z wz)
      case first =>
       have b7:qj (∀ u,BW z u->u.cell? ⟨w.heap.size,2,none⟩=some (qf a az.length ac)/\u.cell? (qzA H 1)=some (qd x1)/\u.cell? (qzA S 0)=some (qzI n2)/\u.cell? (qzA S 1)=some (qzI n3)/\u.cell? (qzA S 2)=some (qzI n4)/\u.cell? ⟨w.heap.size,0,none⟩=some (qzI td)):=λu h =>
        ⟨(h.cell (p:=⟨w.heap.size,2,none⟩) (qs z _ t2)).t t2,(h.c H 1 (qs z _ w1)).t w1,(h.c S 0 (qs z _ c0)).t c0,(h.c S 1 (qs z _ c1)).t c1,(h.c S 2 (qs z _ c2)).t c2,(h.cell (p:=⟨w.heap.size,0,none⟩) (qs z _ t0)).t t0⟩
       have k0:BW z z:=bR
       go_region_held3 (λu=>u.cell? ⟨w.heap.size,2,none⟩=some (qf a az.length ac)/\u.cell? (qzA H 1)=some (qd x1)/\u.cell? (qzA S 0)=some (qzI n2)/\u.cell? (qzA S 1)=some (qzI n3)/\u.cell? (qzA S 2)=some (qzI n4)/\u.cell? ⟨w.heap.size,0,none⟩=some (qzI td)) (first|exact b7.o _ k1|exact b7.o _ k0|exact b7.o _ k0.drew) ((first
        | (go_at_call 97;(first|refine Calls.m (a3.o _ D.o) ?_|refine Calls.m (a3.o _ d8.o) ?_);rintro e u4 ⟨T,U,rfl,o9,b9⟩;have k1:BW z u4:=(by first|exact b9|exact (bR.drew).t b9))))
       all_goals
        go_wp2_with fail
        go_meet
        exact ⟨T,U,rfl,rfl,by first|exact o9|simpa using o9,k1⟩
      case rest =>
       obtain ⟨T,U,rfl,rfl,o9,b9⟩:=hcut;have c9:=Aa (a5.o.below b9);have b4:=Aa (a4.o.below b9);have a8:=Aa (next D.o b9);have g1:=Aa (Bz o9 g7.o);clear b9 o9 a5 a4 D g7 h0 a3 d8 w1 c0 c1 c2 t0 t1 t2 t3 t4 t5 s0 s1 s2 s3 s4 s5 V W X Y Z q5 p0 p1 p2 p3 p4 p5;obtain ⟨t0,t1,t2,t3,t4,t5,s0,s1,s2,s3,s4,s5⟩:=c9.o;obtain ⟨V,W,X,Y,Z,q5,p0,p1,p2,p3,p4,p5⟩:=b4.o
       cases O
       case false =>
        have b0:qj (LR (⟨td,j,az,cs,ls,n⟩,3)):=by have:=HE.o;rwa [if_neg (by decide)] at this
        go_wp2
        refine bodyPost_ret (by simp [results,results67,go_sem,V,W,X,Y,Z,q5];try rfl) rfl ?_
        have bel:=Bj (R:=w.heap.size+1) (by omega) a8.o
        exact ⟨(⟨td,j,az,cs,ls,n⟩,3),b0.o,⟨o,oc,a,ac,c,cc,l,lc,g,gc⟩,rfl,HX.o _ (bel _ _ _ _ _ _),rfl,rfl,⟨rfl,.inl rfl,.inl rfl,.inl rfl⟩,bel _ _ _ _ _ _⟩
       case true =>
        have b0:qj (LR (⟨td,j,L,cs,ls,n⟩,0)):=by have:=HE.o;rwa [if_pos rfl] at this
        go_upto_region 12 with fail
        obtain ⟨u5,J⟩:=A0 (wc.setCell ⟨w.heap.size,2,none⟩ (qf T L.length U))
        have i7:qj (Z6 w.heap.size (qzI td) (qf o j.length oc) (qf T L.length U) (qf c cs.length cc) (qf l ls.length lc) (qf g n.length gc) u5):=by rw [qj,J];exact c9.o.set2 _
        have i6:qj (Z6 (w.heap.size+1) (qzI 0) qe qe qe qe qe u5):=by rw [qj,J];exact b4.o.far (by omega)
        have i5:qj (BW w u5):=by rw [qj,J];exact a8.o.setCell nL _
        have g2:qj (u5.ownsRow (w.heap.size+2) 108 6 (qf T L.length U) L.length (Ap L)):=by rw [qj,J];exact Al g1.o (by omega)
        rw [<- J];clear J c9 b4 a8 g1 t0 t1 t2 t3 t4 t5 s0 s1 s2 s3 s4 s5 V W X Y Z q5 p0 p1 p2 p3 p4 p5;obtain ⟨t0,t1,t2,t3,t4,t5,s0,s1,s2,s3,s4,s5⟩:=i7.o;obtain ⟨V,W,X,Y,Z,q5,p0,p1,p2,p3,p4,p5⟩:=i6.o;go_wp2
        refine bodyPost_ret (by simp [results,results67,go_sem,V,W,X,Y,Z,q5];try rfl) rfl ?_
        have bel:=Bj (R:=w.heap.size+1) (by omega) i5.o
        have hX:=HX.o _ (bel (qzI td) (qf o j.length oc) (qf T L.length U) (qf c cs.length cc) (qf l ls.length lc) (qf g n.length gc))
        exact ⟨⟨td,j,L,cs,ls,n⟩,0,b0.o,⟨o,oc,T,U,c,cc,l,lc,g,gc⟩,rfl,⟨hX.off,Hu (Es g2.o (by omega) _ _ _ _ _ _),hX.cs,hX.ls,hX.log⟩,rfl,rfl,⟨rfl,.inr (λx hx=>by have:=D9 g2.o x hx;omega),.inl rfl,.inl rfl⟩,bel _ _ _ _ _ _⟩
    case false=>exact absurd (hau.s.t M.o.2) (by decide)
end Go.Proofs.YtfpafnefpmmofaaGreatDoor
