import Derived.Test.YtomiclakhjncbaaGreatDoorJT2a
namespace Go.Proofs.YtomiclakhjncbaaGreatDoor
open Go.RowKit Go.Proofs.Tryz
set_option maxRecDepth 100000
set_option maxHeartbeats 12800000
theorem Zh (F:Ff) (K:Nc F) {W:Bk->Prop} (l4:∀ b,W b->D0 b) {N:Bk->Int->Int->Int->Int->Bk×Int->Prop} {Act:Bk->Int->Ac->Bk×Int} (ST:Tp W N Act) (b:Bk) (p:Bp) (d:List UInt8) (w:World) (hx:Aq w b p) (i2:Vb p w.heap.size) (hp:W b) (hl:d.length<=1048575) (a6:Ca (Ab d)=false/\Bq (Ab d)=false/\Da (Ab d)=false) :
  Calls prog 84 #[C5 b p,.string ⟨d.toArray⟩] w fun e w'=>∃ r,Db F N Act b d r/\U8 w p r.1 r.2 e w':=by
 have hn:=l4 b hp;have g4:Hid (W b):=hp;have I:Hid (Ca (Ab d)=false/\Bq (Ab d)=false/\Da (Ab d)=false):=a6;clear a6;have a7:Hid (Vb p w.heap.size):=i2
 have y:Hid (∀ r,Db F N Act b d r=(if Ca (Ab d)=true then r=Fr F b (Ae (Al (Ab d) 1))
  else if Bq (Ab d)=true then (if Ap ((Ab d).drop 2)=true then r=Fq F b (Al (Ab d) 1) (Ae (Al (Ab d) 2)) (Ae (Al (Ab d) 3)) (Ae (Al (Ab d) 4)) else r=(b,1))
  else if Da (Ab d)=true then (if Ap ((Ab d).drop 1)=true then N b (Ae (Al (Ab d) 1)) (Ae (Al (Ab d) 2)) (Ae (Al (Ab d) 3)) (Ae (Al (Ab d) 4)) r else r=(b,1))
  else if Fl (Ab d)=true then (if Ap [Al (Ab d) 1,Al (Ab d) 3,Al (Ab d) 4]=true then r=Act b (Ae (Al (Ab d) 1)) ⟨Bz (Al (Ab d) 2),Ae (Al (Ab d) 3),Ae (Al (Ab d) 4)⟩ else r=(b,1))
  else r=(b,1))):=fun r=>rfl
 obtain ⟨LR,i1⟩:∃ L,Db F N Act b d=L:=⟨_,rfl⟩
 simp only [i1] at y ⊢
 clear hp i2 i1
 have a3:Hid (∀ n u,BW w u->Calls prog 141 #[C5 b p,qzI n] u (U8 u p (Fr F b n).1 (Fr F b n).2)):=fun n u h=>Mj F K b p n u (hx.below h) hn
 have HX:Hid (∀ u,BW w u->Aq u b p):=fun u h=>hx.below h
 have HN:Hid (D0 b):=hn;clear hx hn;obtain ⟨td,m,az,cs,ls,lg⟩:=b;obtain ⟨o,oc,a,ac,c,cc,l,lc,g,gc⟩:=p;unfold C5 at a3 ⊢
 simp only at a3 ⊢
 obtain ⟨u0,J⟩:∃ u,u=((w.alloc (.cells #[qzI td,.slice o m.length oc,.slice a az.length ac,.slice c cs.length cc,.slice l ls.length lc,.slice g lg.length gc] 31))).alloc (.cells qzB 31):=⟨_,rfl⟩
 have d5:Hid (BW w u0):=by rw [Hid,J];go_grown
 have b7:Hid ((w.heap.size+1)<u0.heap.size):=by rw [Hid,J];simp
 have b9:Hid (Z6 w.heap.size (qzI td) (.slice o m.length oc) (.slice a az.length ac) (.slice c cs.length cc) (.slice l ls.length lc) (.slice g lg.length gc) u0):=by
  rw [Hid,J];exact ((Z6.new w (qzI td) (.slice o m.length oc) (.slice a az.length ac) (.slice c cs.length cc) (.slice l ls.length lc) (.slice g lg.length gc) 31)).below (bR.alloc nL _)
 have b0:Hid (Z6 (w.heap.size+1) (qzI 0) (.slice none 0 0) (.slice none 0 0) (.slice none 0 0) (.slice none 0 0) (.slice none 0 0) u0):=by
  have h:=Z6.new ((w.alloc (.cells #[qzI td,.slice o m.length oc,.slice a az.length ac,.slice c cs.length cc,.slice l ls.length lc,.slice g lg.length gc] 31))) (qzI 0) (.slice none 0 0) (.slice none 0 0) (.slice none 0 0) (.slice none 0 0) (.slice none 0 0) 31
  rw [Hid,J];simpa using h
 have g9:Hid _:=J;clear J
 go_enter func84,ntmps84
 go_upto_region 1 with fail
 rw [<- g9.o];clear g9;obtain ⟨t0,t1,t2,t3,t4,t5,s0,s1,s2,s3,s4,s5⟩:=b9.o;obtain ⟨X,Y,Z,q3,q4,q5,p0,p1,p2,p3,p4,p5⟩:=b0.o;have d2:=Fy d;have d3:=Ee d;go_wp2_with fail
 refine (I8 d _ (by omega)).mono ?_
 rintro e t ⟨wa,wk,rfl,ow,b1⟩;obtain ⟨ws,d1⟩:∃ ws,Ab d=ws:=⟨_,rfl⟩;rw [d1] at ow d2 d3 ⊢
 simp only [d1] at y I
 obtain ⟨s,rfl⟩:∃ s,wa=some (qzA s 0):=by
  rcases ow.2 with ⟨_,h⟩ | ⟨g,cap,cQ,h,_⟩
  ·omega
  ·injection h with h _ _
   exact ⟨g,h⟩
 have z:Hid (∀ u,BW t u->∀ i,i<ws.length->u.cell? (qzA s i)=some (.string ⟨(Al ws i).toArray⟩)):=fun u h i hi=>by
  have:=(Kq ((Ep ow).below h) hi).1
  simpa using this
 have D:Hid (∀ i,i<ws.length->(Al ws i).length<=1048576):=fun i hi=>by have:=d3 _ (F7 hi);omega
 have g3:Hid (t.ownsRow u0.heap.size 9 1 (.slice (some (qzA s 0)) ws.length wk) ws.length (Am ws)):=ow;have h3:Hid (Z6 w.heap.size (qzI td) (.slice o m.length oc) (.slice a az.length ac) (.slice c cs.length cc) (.slice l ls.length lc) (.slice g lg.length gc) t):=b9.o.below b1;have g6:Hid (Z6 (w.heap.size+1) (qzI 0) (.slice none 0 0) (.slice none 0 0) (.slice none 0 0) (.slice none 0 0) (.slice none 0 0) t):=b0.o.below b1;have d6:Hid (BW w t):=next d5.o b1
 have g7:Hid (w.heap.size+1<t.heap.size):=by have:=b7.o;have:=b1.size;rw [Hid];omega
 have h0:Hid (w.heap.size+1<u0.heap.size):=b7.o;clear t0 t1 t2 t3 t4 t5 s0 s1 s2 s3 s4 s5 X Y Z q3 q4 q5 p0 p1 p2 p3 p4 p5 b9 b0 d5 b7 b1 ow d3 d1
 have j0:(0:Int)<(ws.length:Int):=by omega
 go_upto_region 2 with fail
 go_cut [17] (fun v wc=>v=.bool (Ca ws)/\wc=t)
 case first =>
  have w0:=z.o t bR 0 (by omega)
  have j:Hid (Ca ws=(decide (Al ws 0=Eo) && (decide (ws.length=2) && decide (0<=Ae (Al ws 1))))):=rfl;obtain ⟨r0,H⟩:∃ r,Al ws 0=r:=⟨_,rfl⟩;rw [H] at w0 j
  by_cases hd:r0=Eo
  ·subst hd
   by_cases h2:ws.length=2
   ·have k9:((ws.length:Int) == 2)=true:=by simp;omega
    have l7:(1:Int)<(ws.length:Int):=by omega
    have w1:=z.o t bR 1 (by omega)
    have j2:=Ha (Al ws 1) t (D.o 1 (by omega))
    obtain ⟨r1,l1⟩:∃ r,Al ws 1=r:=⟨_,rfl⟩;rw [l1] at w1 j j2
    have f:Hid (Ca ws=decide (0<=Ae r1)):=by rw [Hid,j.o];simp [h2]
    unfold Eo at w0;clear h2
    go_wp2_with (go_at_call 140;refine j2.mono ?_;rintro e w' ⟨rfl,d0⟩;replace d0:=d0.symm;subst d0)
    go_meet
    exact ⟨by rw [f.o],rfl⟩
   ·have k9:((ws.length:Int) == 2)=false:=by simp;omega
    have f:Hid (Ca ws=false):=by rw [Hid,j.o];simp [h2]
    unfold Eo at w0;clear h2;go_wp2;go_meet
    exact ⟨by rw [f.o],rfl⟩
  ·have G:(r0 == Eo)=false:=by simpa using hd
   have f:Hid (Ca ws=false):=by rw [Hid,j.o];simp [hd]
   unfold Eo at G;go_wp2;go_meet
   exact ⟨by rw [f.o],rfl⟩
 case rest =>
  obtain ⟨rfl,q⟩:=hcut;replace q:=q.symm;subst q
  have g0:Hid (∀ r,LR r->r=(⟨td,m,az,cs,ls,lg⟩,1)->LR (⟨td,m,az,cs,ls,lg⟩,1)):=fun r h e=>e ▸ h
  cases hday:Ca ws
  case true=>exact absurd (hday.symm.trans I.o.1) (by decide)
  case false =>
   go_upto_region 4 with fail
   go_cut [42] (fun v wc=>v=.bool (Bq ws)/\wc=t)
   case first =>
    have w0:=z.o t bR 0 (by omega)
    have j:Hid (Bq ws=(decide (Al ws 0=Dy) && decide (ws.length=5))):=rfl;obtain ⟨r0,H⟩:∃ r,Al ws 0=r:=⟨_,rfl⟩;rw [H] at w0 j
    by_cases hd:r0=Dy
    ·subst hd
     by_cases h5:ws.length=5
     ·have O:((ws.length:Int) == 5)=true:=by simp;omega
      have f:Hid (Bq ws=true):=by rw [Hid,j.o];simp [h5]
      unfold Dy at w0;clear h5;go_wp2;go_meet
      exact ⟨by rw [f.o],rfl⟩
     ·have O:((ws.length:Int) == 5)=false:=by simp;omega
      have f:Hid (Bq ws=false):=by rw [Hid,j.o];simp [h5]
      unfold Dy at w0;clear h5;go_wp2;go_meet
      exact ⟨by rw [f.o],rfl⟩
    ·have G:(r0 == Dy)=false:=by simpa using hd
     have f:Hid (Bq ws=false):=by rw [Hid,j.o];simp [hd]
     unfold Dy at G;go_wp2;go_meet
     exact ⟨by rw [f.o],rfl⟩
   case rest =>
    obtain ⟨rfl,q⟩:=hcut;replace q:=q.symm;subst q
    cases hau:Bq ws
    case true=>exact absurd (hau.symm.trans I.o.2.1) (by decide)
    case false =>
     go_upto_region 13 with fail
     go_cut [88] (fun v wc=>v=.bool (Da ws)/\wc=t)
     case first =>
      have w0:=z.o t bR 0 (by omega)
      have j:Hid (Da ws=(decide (Al ws 0=I7) && decide (ws.length=5))):=rfl;obtain ⟨r0,H⟩:∃ r,Al ws 0=r:=⟨_,rfl⟩;rw [H] at w0 j
      by_cases hd:r0=I7
      ·subst hd
       by_cases h5:ws.length=5
       ·have O:((ws.length:Int) == 5)=true:=by simp;omega
        have f:Hid (Da ws=true):=by rw [Hid,j.o];simp [h5]
        unfold I7 at w0;clear h5;go_wp2;go_meet
        exact ⟨by rw [f.o],rfl⟩
       ·have O:((ws.length:Int) == 5)=false:=by simp;omega
        have f:Hid (Da ws=false):=by rw [Hid,j.o];simp [h5]
        unfold I7 at w0;clear h5;go_wp2;go_meet
        exact ⟨by rw [f.o],rfl⟩
      ·have G:(r0 == I7)=false:=by simpa using hd
       have f:Hid (Da ws=false):=by rw [Hid,j.o];simp [hd]
       unfold I7 at G;go_wp2;go_meet
       exact ⟨by rw [f.o],rfl⟩
     case rest =>
      obtain ⟨rfl,q⟩:=hcut;replace q:=q.symm;subst q
      cases hpa:Da ws
      case true=>exact absurd (hpa.symm.trans I.o.2.2) (by decide)
      case false =>
       go_upto_region 18 with fail
       go_cut [112] (fun v wc=>v=.bool (Fl ws)/\BW t wc)
       case first =>
        have w0:=z.o t bR 0 (by omega)
        have j:Hid (Fl ws=(decide (Al ws 0=Nz) && (decide (ws.length=5) && decide (0<=Bz (Al ws 2))))):=rfl;obtain ⟨r0,H⟩:∃ r,Al ws 0=r:=⟨_,rfl⟩;rw [H] at w0 j
        by_cases hd:r0=Nz
        ·subst hd
         by_cases h5:ws.length=5
         ·have O:((ws.length:Int) == 5)=true:=by simp;omega
          have l8:(2:Int)<(ws.length:Int):=by omega
          have w2:=z.o t bR 2 (by omega)
          have c9:=Tl (Al ws 2) t (D.o 2 (by omega))
          obtain ⟨r2,l2⟩:∃ r,Al ws 2=r:=⟨_,rfl⟩;rw [l2] at w2 j c9
          have f:Hid (Fl ws=decide (0<=Bz r2)):=by rw [Hid,j.o];simp [h5]
          have k4:Hid _:=c9;unfold Nz at w0;clear h5 c9
          go_wp2_with (go_at_call 145;refine Calls.mono k4.o ?_;rintro e u2 ⟨rfl,bk⟩)
          go_meet
          exact ⟨by rw [f.o],bk⟩
         ·have O:((ws.length:Int) == 5)=false:=by simp;omega
          have f:Hid (Fl ws=false):=by rw [Hid,j.o];simp [h5]
          unfold Nz at w0;clear h5;go_wp2;go_meet
          exact ⟨by rw [f.o],bR⟩
        ·have G:(r0 == Nz)=false:=by simpa using hd
         have f:Hid (Fl ws=false):=by rw [Hid,j.o];simp [hd]
         unfold Nz at G;go_wp2;go_meet
         exact ⟨by rw [f.o],bR⟩
       case rest =>
        obtain ⟨rfl,bc⟩:=hcut;have c8:Hid (Z6 w.heap.size (qzI td) (.slice o m.length oc) (.slice a az.length ac) (.slice c cs.length cc) (.slice l ls.length lc) (.slice g lg.length gc) wc):=h3.o.below bc;have b2:Hid (Z6 (w.heap.size+1) (qzI 0) (.slice none 0 0) (.slice none 0 0) (.slice none 0 0) (.slice none 0 0) (.slice none 0 0) wc):=g6.o.below bc;have a8:Hid (BW w wc):=next d6.o bc
        have b8:Hid (w.heap.size+1<wc.heap.size):=by have:=g7.o;have:=bc.size;rw [Hid];omega
        have A:Hid (∀ u,BW wc u->∀ i,i<ws.length->u.cell? (qzA s i)=some (.string ⟨(Al ws i).toArray⟩)):=fun u h i hi=>z.o u (next bc h) i hi
        have j9:Hid (w.heap.size+1<s):=by rw [Hid];have:=(g3.o.lt s rfl).1;have:=h0.o;omega
        clear bc h3 g6 d6 g7 z
        cases hac:Fl ws
        case false =>
         have U:Hid (LR (⟨td,m,az,cs,ls,lg⟩,1)):=by rw [Hid,y.o,if_neg (by rw [hday];decide),if_neg (by rw [hau];decide),if_neg (by rw [hpa];decide),if_neg (by rw [hac];decide)]
         obtain ⟨t0,t1,t2,t3,t4,t5,s0,s1,s2,s3,s4,s5⟩:=c8.o;obtain ⟨X,Y,Z,q3,q4,q5,p0,p1,p2,p3,p4,p5⟩:=b2.o;go_wp2
         refine bodyPost_ret (by simp [results,results84,go_sem,X,Y,Z,q3,q4,q5];try rfl) rfl ?_
         have bel:=Ax (R:=w.heap.size+1) (by omega) a8.o
         exact ⟨(⟨td,m,az,cs,ls,lg⟩,1),U.o,⟨o,oc,a,ac,c,cc,l,lc,g,gc⟩,rfl,HX.o _ (bel _ _ _ _ _ _),rfl,rfl,⟨rfl,.inl rfl,.inl rfl,.inl rfl⟩,bel _ _ _ _ _ _⟩
        case true =>
         have h5:ws.length=5:=by simp [Fl] at hac;exact hac.2.1
         have g5:Hid (∀ r,(if Ap [Al ws 1,Al ws 3,Al ws 4]=true then r=Act ⟨td,m,az,cs,ls,lg⟩ (Ae (Al ws 1)) ⟨Bz (Al ws 2),Ae (Al ws 3),Ae (Al ws 4)⟩ else r=(⟨td,m,az,cs,ls,lg⟩,1))->LR r):=fun r h=>by rw [y.o r,if_neg (by rw [hday];decide),if_neg (by rw [hau];decide),if_neg (by rw [hpa];decide),if_pos hac];exact h
         match ws,h5 with
         | [x0,x1,x2,x3,x4],_ =>
         have g2:Hid (∀ (u:World) (bk:Nat),u.cell? (qzA bk 0)=some (.string ⟨x1.toArray⟩)->u.cell? (qzA bk 1)=some (.string ⟨x3.toArray⟩)->u.cell? (qzA bk 2)=some (.string ⟨x4.toArray⟩)->Calls prog 142 #[.slice (some (qzA bk 0)) 3 3] u fun e w'=>∃ a k,e=.returned (.tuple #[.slice a (A7 [x1,x3,x4]).length k,.bool (Ap [x1,x3,x4])])/\w'.ownsRow u.heap.size 3 1 (.slice a (A7 [x1,x3,x4]).length k) (A7 [x1,x3,x4]).length ((A7 [x1,x3,x4]).map (Value.int .i64))/\BW u w'):=fun u bk e0 e1 e2=>Nw (some (qzA bk 0)) 3 [x1,x3,x4] u (.inr ⟨bk,0,rfl,World.block_lt_of_cell? u _ e0,fun i hi=>by
           simp at hi
           rcases (show i=0\/i=1\/i=2 by omega) with rfl | rfl | rfl
           ·exact e0
           ·exact e1
           ·exact e2⟩) (by simp) (fun r hr=>by
          simp at hr
          rcases hr with rfl | rfl | rfl
          ·exact D.o 1 (by simp)
          ·exact D.o 3 (by simp)
          ·exact D.o 4 (by simp))
         have g1:Hid (∀ u,Calls prog 145 #[.string ⟨x2.toArray⟩] u fun e w'=>e=.returned (qzI (Bz x2))/\BW u w'):=fun u=>Tl x2 u (D.o 2 (by simp))
         have B:Hid (∀ u,BW wc u->u.cell? (qzA s 1)=some (.string ⟨x1.toArray⟩)/\u.cell? (qzA s 3)=some (.string ⟨x3.toArray⟩)/\u.cell? (qzA s 4)=some (.string ⟨x4.toArray⟩)):=fun u h=>⟨A.o u h 1 (by simp),A.o u h 3 (by simp),A.o u h 4 (by simp)⟩
         have h1:Hid (∀ u,BW wc u->u.cell? (qzA s 2)=some (.string ⟨x2.toArray⟩)):=fun u h=>A.o u h 2 (by simp)
         simp only [List.length_cons,List.length_nil,Nat.zero_add,Nat.reduceAdd] at d2 j0 ⊢
         have b6:Hid (∀ r,(if Ap [x1,x3,x4]=true then r=Act ⟨td,m,az,cs,ls,lg⟩ (Ae x1) ⟨Bz x2,Ae x3,Ae x4⟩ else r=(⟨td,m,az,cs,ls,lg⟩,1))->LR r):=g5.o
         clear g5 y A D g0 g3 hau hday hpa hac h0;obtain ⟨uc,l5⟩:∃ u,u=wc:=⟨_,rfl⟩;subst l5;go_upto_region 19 with fail
         go_cut [13,14] (fun v13 v14 wz=>∃ na nk,v13=.slice na (A7 [x1,x3,x4]).length nk/\v14=.bool (Ap [x1,x3,x4])/\wz.ownsRow uc.heap.size 3 1 (.slice na (A7 [x1,x3,x4]).length nk) (A7 [x1,x3,x4]).length ((A7 [x1,x3,x4]).map (Value.int .i64))/\BW uc wz)
         case first =>
          have T:BW uc uc:=bR;obtain ⟨w1,w3,w4⟩:=B.o uc T
          go_region_held3 (fun u=>u.cell? (qzA s 1)=some (.string ⟨x1.toArray⟩)/\u.cell? (qzA s 3)=some (.string ⟨x3.toArray⟩)/\u.cell? (qzA s 4)=some (.string ⟨x4.toArray⟩)) (first | with_reducible exact B.o _ kz | with_reducible exact B.o _ T | with_reducible exact B.o _ T.drew | with_reducible exact B.o _ (T.alloc nL _) | with_reducible exact B.o _ ((T.alloc nL _).drew) | with_reducible exact B.o _ (T.drew.alloc nL _)) ((first
           | (go_at_call 142;refine Calls.mono (g2.o _ _ (by simp) (by simp) (by simp)) ?_;rintro e u4 ⟨na,nk,rfl,on,b4⟩;have kz:BW uc u4:=Below.trans (by go_grown) (b4.mono (by simp)))))
          all_goals
           go_wp2_with fail
           go_meet
           exact ⟨na,nk,rfl,rfl,Bi on (by simp),kz⟩
         case rest =>
          obtain ⟨na,nk,rfl,rfl,on,bz⟩:=hcut;have h4:Hid (Z6 w.heap.size (qzI td) (.slice o m.length oc) (.slice a az.length ac) (.slice c cs.length cc) (.slice l ls.length lc) (.slice g lg.length gc) wc):=c8.o.below bz;have b3:Hid (Z6 (w.heap.size+1) (qzI 0) (.slice none 0 0) (.slice none 0 0) (.slice none 0 0) (.slice none 0 0) (.slice none 0 0) wc):=b2.o.below bz;have d7:Hid (BW w wc):=next a8.o bz
          have g8:Hid (w.heap.size+1<wc.heap.size):=by have:=b8.o;have:=bz.size;rw [Hid];omega
          have k8:Hid (wc.cell? (qzA s 2)=some (.string ⟨x2.toArray⟩)):=h1.o wc bz;have k3:Hid (w.heap.size+1<uc.heap.size):=b8.o;clear bz c8 b2 a8 b8 g2 B h1
          cases hok:Ap [x1,x3,x4]
          case false =>
           have U:Hid (LR (⟨td,m,az,cs,ls,lg⟩,1)):=b6.o _ (by rw [if_neg (by rw [hok];decide)])
           obtain ⟨LN,i0⟩:∃ L,A7 [x1,x3,x4]=L:=⟨_,rfl⟩;rw [i0];clear on i0;obtain ⟨t0,t1,t2,t3,t4,t5,s0,s1,s2,s3,s4,s5⟩:=h4.o;obtain ⟨X,Y,Z,q3,q4,q5,p0,p1,p2,p3,p4,p5⟩:=b3.o;go_wp2
           refine bodyPost_ret (by simp [results,results84,go_sem,X,Y,Z,q3,q4,q5];try rfl) rfl ?_
           have bel:=Ax (R:=w.heap.size+1) (by omega) d7.o
           exact ⟨(⟨td,m,az,cs,ls,lg⟩,1),U.o,⟨o,oc,a,ac,c,cc,l,lc,g,gc⟩,rfl,HX.o _ (bel _ _ _ _ _ _),rfl,rfl,⟨rfl,.inl rfl,.inl rfl,.inl rfl⟩,bel _ _ _ _ _ _⟩
          case true =>
           have j3:A7 [x1,x3,x4]=[Ae x1,Ae x3,Ae x4]:=if_pos hok;rw [j3] at on ⊢
           have U:Hid (LR (Act ⟨td,m,az,cs,ls,lg⟩ (Ae x1) ⟨Bz x2,Ae x3,Ae x4⟩)):=b6.o _ (by rw [if_pos hok])
           obtain ⟨m0,i7⟩:∃ n,Ae x1=n:=⟨_,rfl⟩;obtain ⟨m1,i8⟩:∃ n,Ae x3=n:=⟨_,rfl⟩;obtain ⟨m2,i9⟩:∃ n,Ae x4=n:=⟨_,rfl⟩;obtain ⟨kd,i6⟩:∃ n,Bz x2=n:=⟨_,rfl⟩;rw [i7,i8,i9] at on U;rw [i6] at U g1
           simp only [List.length_cons,List.length_nil,Nat.zero_add,Nat.reduceAdd] at on ⊢
           obtain ⟨C,rfl⟩:∃ C,na=some (qzA C 0):=by
            rcases on.2 with ⟨h,_⟩ | ⟨g',cap,cQ,h,_⟩
            ·cases h
            ·injection h with h _ _
             exact ⟨g',h⟩
           have j1:w.heap.size+1<C:=by have:=(on.lt C rfl).1;have:=k3.o;omega
           have c0:=on.cellAt 0 (by omega)
           have c1:=on.cellAt 1 (by omega)
           have c2:=on.cellAt 2 (by omega)
           simp at c0 c1 c2
           have w2:=k8.o
           have d4:Hid (∀ u,BW w u->Calls prog 146 #[.agg #[qzI td,.slice o m.length oc,.slice a az.length ac,.slice c cs.length cc,.slice l ls.length lc,.slice g lg.length gc],qzI m0,.agg #[qzI kd,qzI m1,qzI m2]] u (U8 u ⟨o,oc,a,ac,c,cc,l,lc,g,gc⟩ (Act ⟨td,m,az,cs,ls,lg⟩ m0 ⟨kd,m1,m2⟩).1 (Act ⟨td,m,az,cs,ls,lg⟩ m0 ⟨kd,m1,m2⟩).2)):=fun u h=>ST.act ⟨td,m,az,cs,ls,lg⟩ ⟨o,oc,a,ac,c,cc,l,lc,g,gc⟩ m0 ⟨kd,m1,m2⟩ u (HX.o u h) (a7.o.mono h.size) g4.o
           obtain ⟨⟨⟨j6,h9,h6,h8,j5,j4⟩,code⟩,hD⟩:∃ r,Act ⟨td,m,az,cs,ls,lg⟩ m0 ⟨kd,m1,m2⟩=r:=⟨_,rfl⟩
           simp only [hD] at d4 U
           clear i7 i8 i9 i6 j3 b6 on hok hD;obtain ⟨x,l6⟩:∃ u,u=wc:=⟨_,rfl⟩;subst l6;obtain ⟨t0,t1,t2,t3,t4,t5,s0,s1,s2,s3,s4,s5⟩:=h4.o;obtain ⟨X,Y,Z,q3,q4,q5,p0,p1,p2,p3,p4,p5⟩:=b3.o
           have M:Hid (∀ u,BW x u->u.cell? ⟨w.heap.size,0,none⟩=some (qzI td)/\u.cell? ⟨w.heap.size,1,none⟩=some (.slice o m.length oc)/\u.cell? ⟨w.heap.size,2,none⟩=some (.slice a az.length ac)/\u.cell? ⟨w.heap.size,3,none⟩=some (.slice c cs.length cc)/\u.cell? ⟨w.heap.size,4,none⟩=some (.slice l ls.length lc)/\u.cell? ⟨w.heap.size,5,none⟩=some (.slice g lg.length gc)/\u.cell? (qzA C 0)=some (qzI m0)/\u.cell? (qzA C 1)=some (qzI m1)/\u.cell? (qzA C 2)=some (qzI m2)/\u.cell? (qzA s 2)=some (.string ⟨x2.toArray⟩)):=fun u h=>⟨(h.cell (p:=⟨w.heap.size,0,none⟩) (World.block_lt_of_cell? x _ t0)).trans t0,(h.cell (p:=⟨w.heap.size,1,none⟩) (World.block_lt_of_cell? x _ t1)).trans t1,(h.cell (p:=⟨w.heap.size,2,none⟩) (World.block_lt_of_cell? x _ t2)).trans t2,(h.cell (p:=⟨w.heap.size,3,none⟩) (World.block_lt_of_cell? x _ t3)).trans t3,(h.cell (p:=⟨w.heap.size,4,none⟩) (World.block_lt_of_cell? x _ t4)).trans t4,(h.cell (p:=⟨w.heap.size,5,none⟩) (World.block_lt_of_cell? x _ t5)).trans t5,(h.cell (p:=(qzA C 0)) (World.block_lt_of_cell? x _ c0)).trans c0,(h.cell (p:=(qzA C 1)) (World.block_lt_of_cell? x _ c1)).trans c1,(h.cell (p:=(qzA C 2)) (World.block_lt_of_cell? x _ c2)).trans c2,(h.cell (p:=(qzA s 2)) (World.block_lt_of_cell? x _ w2)).trans w2⟩
           have j8:Hid (w.heap.size+1<s/\w.heap.size+1<C):=⟨j9.o,j1⟩
           have k6:Hid (∀ (u:World) (y0 y1 y2 y3 y4 y5:Value),BW x u->((((((u.setCell ⟨w.heap.size+1,0,none⟩ y0).setCell ⟨w.heap.size+1,1,none⟩ y1).setCell ⟨w.heap.size+1,2,none⟩ y2).setCell ⟨w.heap.size+1,3,none⟩ y3).setCell ⟨w.heap.size+1,4,none⟩ y4).setCell ⟨w.heap.size+1,5,none⟩ y5).cell? ⟨w.heap.size,0,none⟩=some (qzI td)/\((((((u.setCell ⟨w.heap.size+1,0,none⟩ y0).setCell ⟨w.heap.size+1,1,none⟩ y1).setCell ⟨w.heap.size+1,2,none⟩ y2).setCell ⟨w.heap.size+1,3,none⟩ y3).setCell ⟨w.heap.size+1,4,none⟩ y4).setCell ⟨w.heap.size+1,5,none⟩ y5).cell? ⟨w.heap.size,1,none⟩=some (.slice o m.length oc)/\((((((u.setCell ⟨w.heap.size+1,0,none⟩ y0).setCell ⟨w.heap.size+1,1,none⟩ y1).setCell ⟨w.heap.size+1,2,none⟩ y2).setCell ⟨w.heap.size+1,3,none⟩ y3).setCell ⟨w.heap.size+1,4,none⟩ y4).setCell ⟨w.heap.size+1,5,none⟩ y5).cell? ⟨w.heap.size,2,none⟩=some (.slice a az.length ac)/\((((((u.setCell ⟨w.heap.size+1,0,none⟩ y0).setCell ⟨w.heap.size+1,1,none⟩ y1).setCell ⟨w.heap.size+1,2,none⟩ y2).setCell ⟨w.heap.size+1,3,none⟩ y3).setCell ⟨w.heap.size+1,4,none⟩ y4).setCell ⟨w.heap.size+1,5,none⟩ y5).cell? ⟨w.heap.size,3,none⟩=some (.slice c cs.length cc)/\((((((u.setCell ⟨w.heap.size+1,0,none⟩ y0).setCell ⟨w.heap.size+1,1,none⟩ y1).setCell ⟨w.heap.size+1,2,none⟩ y2).setCell ⟨w.heap.size+1,3,none⟩ y3).setCell ⟨w.heap.size+1,4,none⟩ y4).setCell ⟨w.heap.size+1,5,none⟩ y5).cell? ⟨w.heap.size,4,none⟩=some (.slice l ls.length lc)/\((((((u.setCell ⟨w.heap.size+1,0,none⟩ y0).setCell ⟨w.heap.size+1,1,none⟩ y1).setCell ⟨w.heap.size+1,2,none⟩ y2).setCell ⟨w.heap.size+1,3,none⟩ y3).setCell ⟨w.heap.size+1,4,none⟩ y4).setCell ⟨w.heap.size+1,5,none⟩ y5).cell? ⟨w.heap.size,5,none⟩=some (.slice g lg.length gc)/\((((((u.setCell ⟨w.heap.size+1,0,none⟩ y0).setCell ⟨w.heap.size+1,1,none⟩ y1).setCell ⟨w.heap.size+1,2,none⟩ y2).setCell ⟨w.heap.size+1,3,none⟩ y3).setCell ⟨w.heap.size+1,4,none⟩ y4).setCell ⟨w.heap.size+1,5,none⟩ y5).cell? (qzA C 0)=some (qzI m0)/\((((((u.setCell ⟨w.heap.size+1,0,none⟩ y0).setCell ⟨w.heap.size+1,1,none⟩ y1).setCell ⟨w.heap.size+1,2,none⟩ y2).setCell ⟨w.heap.size+1,3,none⟩ y3).setCell ⟨w.heap.size+1,4,none⟩ y4).setCell ⟨w.heap.size+1,5,none⟩ y5).cell? (qzA C 1)=some (qzI m1)/\((((((u.setCell ⟨w.heap.size+1,0,none⟩ y0).setCell ⟨w.heap.size+1,1,none⟩ y1).setCell ⟨w.heap.size+1,2,none⟩ y2).setCell ⟨w.heap.size+1,3,none⟩ y3).setCell ⟨w.heap.size+1,4,none⟩ y4).setCell ⟨w.heap.size+1,5,none⟩ y5).cell? (qzA C 2)=some (qzI m2)/\((((((u.setCell ⟨w.heap.size+1,0,none⟩ y0).setCell ⟨w.heap.size+1,1,none⟩ y1).setCell ⟨w.heap.size+1,2,none⟩ y2).setCell ⟨w.heap.size+1,3,none⟩ y3).setCell ⟨w.heap.size+1,4,none⟩ y4).setCell ⟨w.heap.size+1,5,none⟩ y5).cell? (qzA s 2)=some (.string ⟨x2.toArray⟩)):=fun u y0 y1 y2 y3 y4 y5 h=>by
            obtain ⟨e0,e1,e2,e3,e4,e5,e6,e7,e8,e9⟩:=M.o u h;have l9:=j8.o
            exact ⟨Dz e0 (by show _≠_;simp;try omega) _ _ _ _ _ _,Dz e1 (by show _≠_;simp;try omega) _ _ _ _ _ _,Dz e2 (by show _≠_;simp;try omega) _ _ _ _ _ _,Dz e3 (by show _≠_;simp;try omega) _ _ _ _ _ _,Dz e4 (by show _≠_;simp;try omega) _ _ _ _ _ _,Dz e5 (by show _≠_;simp;try omega) _ _ _ _ _ _,Dz e6 (by show _≠_;simp;try omega) _ _ _ _ _ _,Dz e7 (by show _≠_;simp;try omega) _ _ _ _ _ _,Dz e8 (by show _≠_;simp;try omega) _ _ _ _ _ _,Dz e9 (by show _≠_;simp;try omega) _ _ _ _ _ _⟩
           have T:BW x x:=bR
           have a9:Hid (∀ u,BW x u->BW w u):=fun u h=>next d7.o h
           clear s0 s1 s2 s3 s4 s5 j1 X Y Z q3 q4 q5 p0 p1 p2 p3 p4 p5;go_upto_region 22 with fail
           go_region_held3 (fun u=>u.cell? ⟨w.heap.size,0,none⟩=some (qzI td)/\u.cell? ⟨w.heap.size,1,none⟩=some (.slice o m.length oc)/\u.cell? ⟨w.heap.size,2,none⟩=some (.slice a az.length ac)/\u.cell? ⟨w.heap.size,3,none⟩=some (.slice c cs.length cc)/\u.cell? ⟨w.heap.size,4,none⟩=some (.slice l ls.length lc)/\u.cell? ⟨w.heap.size,5,none⟩=some (.slice g lg.length gc)/\u.cell? (qzA C 0)=some (qzI m0)/\u.cell? (qzA C 1)=some (qzI m1)/\u.cell? (qzA C 2)=some (qzI m2)/\u.cell? (qzA s 2)=some (.string ⟨x2.toArray⟩)) (first | with_reducible exact M.o _ k2 | with_reducible exact M.o _ k1 | with_reducible exact M.o _ T | with_reducible exact M.o _ T.drew | with_reducible exact k6.o _ _ _ _ _ _ _ k2) ((first
            | (go_at_call 145;refine Calls.mono (g1.o _) ?_;rintro e u4 ⟨rfl,b4⟩;have k1:BW x u4:=Below.trans (by go_grown) (b4.mono (by simp)))
            | (go_at_call 146;(with_reducible refine Calls.mono (d4.o _ (a9.o _ k1)) ?_);rintro e u5 ⟨qq,rfl,i3,i5,a5,S,b5⟩;unfold C5;simp only;have k2:BW x u5:=next k1 b5;have d8:Hid _:=i3;have j7:Hid _:=And.intro i5 (And.intro a5 S);have d9:Hid (BW u4 u5):=b5;have V:Hid (BW x u4):=k1;have l3:=b3.o.below k2;obtain ⟨X,Y,Z,q3,q4,q5,p0,p1,p2,p3,p4,p5⟩:=l3;clear i3 i5 a5 S b5)))
           all_goals
            rename_i hheld
            clear hheld T k1 k2 b4 c0 c1 c2 w2 t0 t1 t2 t3 t4 t5 d2 j0;go_wp2
            refine bodyPost_ret (by simp [results,results84,go_sem,X,Y,Z,q3,q4,q5];try rfl) rfl ?_
            obtain ⟨i4,a4,S⟩:=j7.o
            first
             | exact ⟨⟨j6,h9,h6,h8,j5,j4⟩,code,U.o,Qp a7.o (a9.o _ V.o) (by omega) (by have:=g8.o;have:=V.o.size;omega) d8.o i4 a4 S d9.o _ _ _ _ _ _⟩
             | exact ⟨(⟨j6,h9,h6,h8,j5,j4⟩,code),U.o,Qp a7.o (a9.o _ V.o) (by omega) (by have:=g8.o;have:=V.o.size;omega) d8.o i4 a4 S d9.o _ _ _ _ _ _⟩
end Go.Proofs.YtomiclakhjncbaaGreatDoor
