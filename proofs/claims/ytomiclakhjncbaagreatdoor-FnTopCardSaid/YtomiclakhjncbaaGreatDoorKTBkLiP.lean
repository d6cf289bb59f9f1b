import Derived.Test.YtomiclakhjncbaaGreatDoorJT2a
namespace Go.Proofs.YtomiclakhjncbaaGreatDoor
open Go.RowKit Go.Proofs.Tryz
set_option maxRecDepth 100000
set_option maxHeartbeats 12800000
theorem Zy (F:Ff) (K:Nc F) {N:Bk->Prop} (i3:∀ b,N b->D0 b) {s:Bk->Int->Int->Int->Int->Bk×Int->Prop} {Act:Bk->Int->Ac->Bk×Int} (ST:Tp N s Act) (b:Bk) (p:Bp) (d:List UInt8) (w:World) (hx:Aq w b p) (g2:Vb p w.heap.size) (hp:N b) (hl:d.length<=1048575) (T:Ca (Ab d)=false/\Bq (Ab d)=false/\Da (Ab d)=true) :
  Calls prog 84 #[C5 b p,.string ⟨d.toArray⟩] w fun e w'=>∃ r,Db F s Act b d r/\U8 w p r.1 r.2 e w':=by
 have hn:=i3 b hp;have c8:Hid (N b):=hp;have B:Hid (Ca (Ab d)=false/\Bq (Ab d)=false/\Da (Ab d)=true):=T;clear T;have V:Hid (Vb p w.heap.size):=g2
 have A:Hid (∀ r,Db F s Act b d r=(if Ca (Ab d)=true then r=Fr F b (Ae (Al (Ab d) 1))
  else if Bq (Ab d)=true then (if Ap ((Ab d).drop 2)=true then r=Fq F b (Al (Ab d) 1) (Ae (Al (Ab d) 2)) (Ae (Al (Ab d) 3)) (Ae (Al (Ab d) 4)) else r=(b,1))
  else if Da (Ab d)=true then (if Ap ((Ab d).drop 1)=true then s b (Ae (Al (Ab d) 1)) (Ae (Al (Ab d) 2)) (Ae (Al (Ab d) 3)) (Ae (Al (Ab d) 4)) r else r=(b,1))
  else if Fl (Ab d)=true then (if Ap [Al (Ab d) 1,Al (Ab d) 3,Al (Ab d) 4]=true then r=Act b (Ae (Al (Ab d) 1)) ⟨Bz (Al (Ab d) 2),Ae (Al (Ab d) 3),Ae (Al (Ab d) 4)⟩ else r=(b,1))
  else r=(b,1))):=fun r=>rfl
 obtain ⟨LR,g1⟩:∃ L,Db F s Act b d=L:=⟨_,rfl⟩
 simp only [g1] at A ⊢
 clear hp g2 g1
 have O:Hid (∀ n u,BW w u->Calls prog 141 #[C5 b p,qzI n] u (U8 u p (Fr F b n).1 (Fr F b n).2)):=fun n u h=>Mj F K b p n u (hx.below h) hn
 have HX:Hid (∀ u,BW w u->Aq u b p):=fun u h=>hx.below h
 have HN:Hid (D0 b):=hn;clear hx hn;obtain ⟨td,t,az,cs,ls,lg⟩:=b;obtain ⟨o,oc,a,ac,c,cc,l,lc,g,gc⟩:=p;unfold C5 at O ⊢
 simp only at O ⊢
 obtain ⟨u0,D⟩:∃ u,u=((w.alloc (.cells #[qzI td,.slice o t.length oc,.slice a az.length ac,.slice c cs.length cc,.slice l ls.length lc,.slice g lg.length gc] 31))).alloc (.cells qzB 31):=⟨_,rfl⟩
 have a9:Hid (BW w u0):=by rw [Hid,D];go_grown
 have Z:Hid ((w.heap.size+1)<u0.heap.size):=by rw [Hid,D];simp
 have a3:Hid (Z6 w.heap.size (qzI td) (.slice o t.length oc) (.slice a az.length ac) (.slice c cs.length cc) (.slice l ls.length lc) (.slice g lg.length gc) u0):=by
  rw [Hid,D];exact ((Z6.new w (qzI td) (.slice o t.length oc) (.slice a az.length ac) (.slice c cs.length cc) (.slice l ls.length lc) (.slice g lg.length gc) 31)).below (bR.alloc nL _)
 have W:Hid (Z6 (w.heap.size+1) (qzI 0) (.slice none 0 0) (.slice none 0 0) (.slice none 0 0) (.slice none 0 0) (.slice none 0 0) u0):=by
  have h:=Z6.new ((w.alloc (.cells #[qzI td,.slice o t.length oc,.slice a az.length ac,.slice c cs.length cc,.slice l ls.length lc,.slice g lg.length gc] 31))) (qzI 0) (.slice none 0 0) (.slice none 0 0) (.slice none 0 0) (.slice none 0 0) (.slice none 0 0) 31
  rw [Hid,D];simpa using h
 have d4:Hid _:=D;clear D
 go_enter func84,ntmps84
 go_upto_region 1 with fail
 rw [<- d4.o];clear d4;obtain ⟨t0,t1,t2,t3,t4,t5,s0,s1,s2,s3,s4,s5⟩:=a3.o;obtain ⟨q0,q1,q2,q3,q4,q5,p0,p1,p2,p3,p4,p5⟩:=W.o;have g9:=Fy d;have a8:=Ee d;go_wp2_with fail
 refine (I8 d _ (by omega)).mono ?_
 rintro e q ⟨wa,wk,rfl,ow,b1⟩;obtain ⟨ws,a7⟩:∃ ws,Ab d=ws:=⟨_,rfl⟩;rw [a7] at ow g9 a8 ⊢
 simp only [a7] at A B
 obtain ⟨S,rfl⟩:∃ S,wa=some (qzA S 0):=by
  rcases ow.2 with ⟨_,h⟩ | ⟨g,cap,cQ,h,_⟩
  ·omega
  ·injection h with h _ _
   exact ⟨g,h⟩
 have y:Hid (∀ u,BW q u->∀ i,i<ws.length->u.cell? (qzA S i)=some (.string ⟨(Al ws i).toArray⟩)):=fun u h i hi=>by
  have:=(Kq ((Ep ow).below h) hi).1
  simpa using this
 have C:Hid (∀ i,i<ws.length->(Al ws i).length<=1048576):=fun i hi=>by have:=a8 _ (F7 hi);omega
 have b8:Hid (q.ownsRow u0.heap.size 9 1 (.slice (some (qzA S 0)) ws.length wk) ws.length (Am ws)):=ow;have d5:Hid (Z6 w.heap.size (qzI td) (.slice o t.length oc) (.slice a az.length ac) (.slice c cs.length cc) (.slice l ls.length lc) (.slice g lg.length gc) q):=a3.o.below b1;have d0:Hid (Z6 (w.heap.size+1) (qzI 0) (.slice none 0 0) (.slice none 0 0) (.slice none 0 0) (.slice none 0 0) (.slice none 0 0) q):=W.o.below b1;have b0:Hid (BW w q):=next a9.o b1
 have d1:Hid (w.heap.size+1<q.heap.size):=by have:=Z.o;have:=b1.size;rw [Hid];omega
 have i5:Hid (w.heap.size+1<u0.heap.size):=Z.o;clear t0 t1 t2 t3 t4 t5 s0 s1 s2 s3 s4 s5 q0 q1 q2 q3 q4 q5 p0 p1 p2 p3 p4 p5 a3 W a9 Z b1 ow a8 a7
 have i1:(0:Int)<(ws.length:Int):=by omega
 go_upto_region 2 with fail
 go_cut [17] (fun v wc=>v=.bool (Ca ws)/\wc=q)
 case first =>
  have w0:=y.o q bR 0 (by omega)
  have j:Hid (Ca ws=(decide (Al ws 0=Eo) && (decide (ws.length=2) && decide (0<=Ae (Al ws 1))))):=rfl;obtain ⟨r0,M⟩:∃ r,Al ws 0=r:=⟨_,rfl⟩;rw [M] at w0 j
  by_cases hd:r0=Eo
  ·subst hd
   by_cases h2:ws.length=2
   ·have h9:((ws.length:Int) == 2)=true:=by simp;omega
    have i6:(1:Int)<(ws.length:Int):=by omega
    have w1:=y.o q bR 1 (by omega)
    have g6:=Ha (Al ws 1) q (C.o 1 (by omega))
    obtain ⟨r1,i2⟩:∃ r,Al ws 1=r:=⟨_,rfl⟩;rw [i2] at w1 j g6
    have f:Hid (Ca ws=decide (0<=Ae r1)):=by rw [Hid,j.o];simp [h2]
    unfold Eo at w0;clear h2
    go_wp2_with (go_at_call 140;refine g6.mono ?_;rintro e w' ⟨rfl,a6⟩;replace a6:=a6.symm;subst a6)
    go_meet
    exact ⟨by rw [f.o],rfl⟩
   ·have h9:((ws.length:Int) == 2)=false:=by simp;omega
    have f:Hid (Ca ws=false):=by rw [Hid,j.o];simp [h2]
    unfold Eo at w0;clear h2;go_wp2;go_meet
    exact ⟨by rw [f.o],rfl⟩
  ·have H:(r0 == Eo)=false:=by simpa using hd
   have f:Hid (Ca ws=false):=by rw [Hid,j.o];simp [hd]
   unfold Eo at H;go_wp2;go_meet
   exact ⟨by rw [f.o],rfl⟩
 case rest =>
  obtain ⟨rfl,m⟩:=hcut;replace m:=m.symm;subst m
  have b6:Hid (∀ r,LR r->r=(⟨td,t,az,cs,ls,lg⟩,1)->LR (⟨td,t,az,cs,ls,lg⟩,1)):=fun r h e=>e ▸ h
  cases hday:Ca ws
  case true=>exact absurd (hday.symm.trans B.o.1) (by decide)
  case false =>
   go_upto_region 4 with fail
   go_cut [42] (fun v wc=>v=.bool (Bq ws)/\wc=q)
   case first =>
    have w0:=y.o q bR 0 (by omega)
    have j:Hid (Bq ws=(decide (Al ws 0=Dy) && decide (ws.length=5))):=rfl;obtain ⟨r0,M⟩:∃ r,Al ws 0=r:=⟨_,rfl⟩;rw [M] at w0 j
    by_cases hd:r0=Dy
    ·subst hd
     by_cases h5:ws.length=5
     ·have a4:((ws.length:Int) == 5)=true:=by simp;omega
      have f:Hid (Bq ws=true):=by rw [Hid,j.o];simp [h5]
      unfold Dy at w0;clear h5;go_wp2;go_meet
      exact ⟨by rw [f.o],rfl⟩
     ·have a4:((ws.length:Int) == 5)=false:=by simp;omega
      have f:Hid (Bq ws=false):=by rw [Hid,j.o];simp [h5]
      unfold Dy at w0;clear h5;go_wp2;go_meet
      exact ⟨by rw [f.o],rfl⟩
    ·have H:(r0 == Dy)=false:=by simpa using hd
     have f:Hid (Bq ws=false):=by rw [Hid,j.o];simp [hd]
     unfold Dy at H;go_wp2;go_meet
     exact ⟨by rw [f.o],rfl⟩
   case rest =>
    obtain ⟨rfl,m⟩:=hcut;replace m:=m.symm;subst m
    cases hau:Bq ws
    case true=>exact absurd (hau.symm.trans B.o.2.1) (by decide)
    case false =>
     go_upto_region 13 with fail
     go_cut [88] (fun v wc=>v=.bool (Da ws)/\wc=q)
     case first =>
      have w0:=y.o q bR 0 (by omega)
      have j:Hid (Da ws=(decide (Al ws 0=I7) && decide (ws.length=5))):=rfl;obtain ⟨r0,M⟩:∃ r,Al ws 0=r:=⟨_,rfl⟩;rw [M] at w0 j
      by_cases hd:r0=I7
      ·subst hd
       by_cases h5:ws.length=5
       ·have a4:((ws.length:Int) == 5)=true:=by simp;omega
        have f:Hid (Da ws=true):=by rw [Hid,j.o];simp [h5]
        unfold I7 at w0;clear h5;go_wp2;go_meet
        exact ⟨by rw [f.o],rfl⟩
       ·have a4:((ws.length:Int) == 5)=false:=by simp;omega
        have f:Hid (Da ws=false):=by rw [Hid,j.o];simp [h5]
        unfold I7 at w0;clear h5;go_wp2;go_meet
        exact ⟨by rw [f.o],rfl⟩
      ·have H:(r0 == I7)=false:=by simpa using hd
       have f:Hid (Da ws=false):=by rw [Hid,j.o];simp [hd]
       unfold I7 at H;go_wp2;go_meet
       exact ⟨by rw [f.o],rfl⟩
     case rest =>
      obtain ⟨rfl,m⟩:=hcut;replace m:=m.symm;subst m
      cases hpa:Da ws
      case true =>
       have h5:ws.length=5:=by simp [Da] at hpa;exact hpa.2
       have c9:Hid (∀ r,(if Ap (ws.drop 1)=true then s ⟨td,t,az,cs,ls,lg⟩ (Ae (Al ws 1)) (Ae (Al ws 2)) (Ae (Al ws 3)) (Ae (Al ws 4)) r else r=(⟨td,t,az,cs,ls,lg⟩,1))->LR r):=fun r h=>by rw [A.o r,if_neg (by rw [hday];decide),if_neg (by rw [hau];decide),if_pos hpa];exact h
       match ws,h5 with
       | [x0,x1,x2,x3,x4],_ =>
       have i4:5<=wk:=by
        rcases b8.o.2 with ⟨h,_⟩ | ⟨g',cap,cQ,h,_,_,h1,_⟩
        ·cases h
        ·injection h with _ _ h
         subst h
         simpa using h1
       have d3:Hid (Bh q (some (qzA S 1)) [x1,x2,x3,x4]):=.inr ⟨S,1,rfl,World.block_lt_of_cell? q _ (y.o q bR 0 (by simp)),fun i hi=>by
        have:=y.o q bR (1+i) (by simp at hi ⊢;omega)
        rw [this]
        simp at hi
        rcases (show i=0\/i=1\/i=2\/i=3 by omega) with rfl | rfl | rfl | rfl <;> rfl⟩
       have b7:Hid (Calls prog 142 #[.slice (some (qzA S 1)) 4 (wk - 1)] q fun e w'=>∃ a k,e=.returned (.tuple #[.slice a (A7 [x1,x2,x3,x4]).length k,.bool (Ap [x1,x2,x3,x4])])/\w'.ownsRow q.heap.size 3 1 (.slice a (A7 [x1,x2,x3,x4]).length k) (A7 [x1,x2,x3,x4]).length ((A7 [x1,x2,x3,x4]).map (Value.int .i64))/\BW q w'):=Nw (some (qzA S 1)) (wk - 1) [x1,x2,x3,x4] q d3.o (by simp) (fun r hr=>by
        simp at hr
        rcases hr with rfl | rfl | rfl | rfl
        ·exact C.o 1 (by simp)
        ·exact C.o 2 (by simp)
        ·exact C.o 3 (by simp)
        ·exact C.o 4 (by simp))
       simp only [List.length_cons,List.length_nil,Nat.zero_add,Nat.reduceAdd] at g9 i1 ⊢
       have i0:(5:Int)<=(wk:Int):=by omega
       have Y:Hid (∀ r,(if Ap [x1,x2,x3,x4]=true then s ⟨td,t,az,cs,ls,lg⟩ (Ae x1) (Ae x2) (Ae x3) (Ae x4) r else r=(⟨td,t,az,cs,ls,lg⟩,1))->LR r):=c9.o
       clear c9 A y C d3 b6 b8 hau hday hpa;go_wp2_with fail
       refine Calls.mono b7.o ?_;rintro e U ⟨na,nk,rfl,on,b2⟩;have d6:Hid (Z6 w.heap.size (qzI td) (.slice o t.length oc) (.slice a az.length ac) (.slice c cs.length cc) (.slice l ls.length lc) (.slice g lg.length gc) U):=d5.o.below b2;have X:Hid (Z6 (w.heap.size+1) (qzI 0) (.slice none 0 0) (.slice none 0 0) (.slice none 0 0) (.slice none 0 0) (.slice none 0 0) U):=d0.o.below b2;have G:Hid (BW w U):=next b0.o b2
       have d2:Hid (w.heap.size+1<U.heap.size):=by have:=d1.o;have:=b2.size;rw [Hid];omega
       clear b2 d5 d0 b0 d1 b7
       cases hok:Ap [x1,x2,x3,x4]
       case false =>
        have HE:Hid (LR (⟨td,t,az,cs,ls,lg⟩,1)):=Y.o _ (by rw [if_neg (by rw [hok];decide)])
        obtain ⟨LN,g0⟩:∃ L,A7 [x1,x2,x3,x4]=L:=⟨_,rfl⟩;rw [g0];clear on g0;obtain ⟨t0,t1,t2,t3,t4,t5,s0,s1,s2,s3,s4,s5⟩:=d6.o;obtain ⟨q0,q1,q2,q3,q4,q5,p0,p1,p2,p3,p4,p5⟩:=X.o;go_wp2
        refine bodyPost_ret (by simp [results,results84,go_sem,q0,q1,q2,q3,q4,q5];try rfl) rfl ?_
        have bel:=Ax (R:=w.heap.size+1) (by omega) G.o
        exact ⟨(⟨td,t,az,cs,ls,lg⟩,1),HE.o,⟨o,oc,a,ac,c,cc,l,lc,g,gc⟩,rfl,HX.o _ (bel _ _ _ _ _ _),rfl,rfl,⟨rfl,.inl rfl,.inl rfl,.inl rfl⟩,bel _ _ _ _ _ _⟩
       case true =>
        have g7:A7 [x1,x2,x3,x4]=[Ae x1,Ae x2,Ae x3,Ae x4]:=if_pos hok;rw [g7] at on ⊢
        have HE:Hid (∀ r,s ⟨td,t,az,cs,ls,lg⟩ (Ae x1) (Ae x2) (Ae x3) (Ae x4) r->LR r):=fun r h=>Y.o r (by rw [if_pos hok];exact h)
        have z:=Ib x4;obtain ⟨n1,g3⟩:∃ n,Ae x1=n:=⟨_,rfl⟩;obtain ⟨n2,g4⟩:∃ n,Ae x2=n:=⟨_,rfl⟩;obtain ⟨n3,g5⟩:∃ n,Ae x3=n:=⟨_,rfl⟩;obtain ⟨n4,a5⟩:∃ n,Ae x4=n:=⟨_,rfl⟩;rw [g3,g4,g5,a5] at on HE;rw [a5] at z
        simp only [List.length_cons,List.length_nil,Nat.zero_add,Nat.reduceAdd] at on ⊢
        obtain ⟨ng,rfl⟩:∃ ng,na=some (qzA ng 0):=by
         rcases on.2 with ⟨h,_⟩ | ⟨g',cap,cQ,h,_⟩
         ·cases h
         ·injection h with h _ _
          exact ⟨g',h⟩
        have c0:=on.cellAt 0 (by omega)
        have c1:=on.cellAt 1 (by omega)
        have c2:=on.cellAt 2 (by omega)
        have c3:=on.cellAt 3 (by omega)
        simp at c0 c1 c2 c3
        have b9:Hid (Calls prog 144 #[.agg #[qzI td,.slice o t.length oc,.slice a az.length ac,.slice c cs.length cc,.slice l ls.length lc,.slice g lg.length gc],.slice (some (qzA ng 0)) 4 nk] U fun e w'=>∃ r,s ⟨td,t,az,cs,ls,lg⟩ n1 n2 n3 n4 r/\U8 U ⟨o,oc,a,ac,c,cc,l,lc,g,gc⟩ r.1 r.2 e w'):=ST.pay ⟨td,t,az,cs,ls,lg⟩ ⟨o,oc,a,ac,c,cc,l,lc,g,gc⟩ ng nk n1 n2 n3 n4 U (HX.o _ G.o) (V.o.mono G.o.size) c8.o c0 c1 c2 c3 z.2 z.1
        clear g3 g4 g5 a5 g7 Y on hok c0 c1 c2 c3 z;obtain ⟨t0,t1,t2,t3,t4,t5,s0,s1,s2,s3,s4,s5⟩:=d6.o;obtain ⟨q0,q1,q2,q3,q4,q5,p0,p1,p2,p3,p4,p5⟩:=X.o;go_wp2_with fail
        refine Calls.mono b9.o ?_;rintro e u4 ⟨⟨⟨h4,d9,d7,d8,h3,h0⟩,code⟩,g8,qq,rfl,z,I,x,J,b4⟩;have b3:Hid _:=z;have h6:Hid _:=And.intro I (And.intro x J);have b5:Hid (BW U u4):=b4;have h8:Hid (Z6 (w.heap.size+1) (qzI 0) (.slice none 0 0) (.slice none 0 0) (.slice none 0 0) (.slice none 0 0) (.slice none 0 0) u4):=X.o.below b4;have HL:Hid _:=HE.o _ g8;clear t0 t1 t2 t3 t4 t5 s0 s1 s2 s3 s4 s5 q0 q1 q2 q3 q4 q5 p0 p1 p2 p3 p4 p5 b4 z I x J g8 b9;obtain ⟨q0,q1,q2,q3,q4,q5,p0,p1,p2,p3,p4,p5⟩:=h8.o;unfold C5
        simp only
        go_wp2
        refine bodyPost_ret (by simp [results,results84,go_sem,q0,q1,q2,q3,q4,q5];try rfl) rfl ?_
        obtain ⟨I,x,J⟩:=h6.o
        first
         | exact ⟨⟨h4,d9,d7,d8,h3,h0⟩,code,HL.o,Qp V.o G.o (by omega) d2.o b3.o I x J b5.o _ _ _ _ _ _⟩
         | exact ⟨(⟨h4,d9,d7,d8,h3,h0⟩,code),HL.o,Qp V.o G.o (by omega) d2.o b3.o I x J b5.o _ _ _ _ _ _⟩
      case false=>exact absurd (hpa.symm.trans B.o.2.2) (by decide)
end Go.Proofs.YtomiclakhjncbaaGreatDoor
