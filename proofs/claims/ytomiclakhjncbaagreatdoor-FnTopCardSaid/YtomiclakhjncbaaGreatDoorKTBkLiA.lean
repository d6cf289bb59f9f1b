import Derived.Test.YtomiclakhjncbaaGreatDoorJT2a
namespace Go.Proofs.YtomiclakhjncbaaGreatDoor
open Go.RowKit Go.Proofs.Tryz
set_option maxRecDepth 100000
set_option maxHeartbeats 12800000
theorem Zd (F:Ff) (K:Nc F) {a4:Bk->Prop} (j3:∀ b,a4 b->D0 b) {I:Bk->Int->Int->Int->Int->Bk×Int->Prop} {Act:Bk->Int->Ac->Bk×Int} (_ST:Tp a4 I Act) (b:Bk) (p:Bp) (d:List UInt8) (w:World) (hx:Aq w b p) (h6:Vb p w.heap.size) (hp:a4 b) (hl:d.length<=1048575) (a6:Ca (Ab d)=false/\Bq (Ab d)=true) :
  Calls prog 84 #[C5 b p,.string ⟨d.toArray⟩] w fun e w'=>∃ r,Db F I Act b d r/\U8 w p r.1 r.2 e w':=by
 have hn:=j3 b hp;have j4:Hid (a4 b):=hp;have H:Hid (Ca (Ab d)=false/\Bq (Ab d)=true):=a6;clear a6;have j6:Hid (Vb p w.heap.size):=h6
 have z:Hid (∀ r,Db F I Act b d r=(if Ca (Ab d)=true then r=Fr F b (Ae (Al (Ab d) 1))
  else if Bq (Ab d)=true then (if Ap ((Ab d).drop 2)=true then r=Fq F b (Al (Ab d) 1) (Ae (Al (Ab d) 2)) (Ae (Al (Ab d) 3)) (Ae (Al (Ab d) 4)) else r=(b,1))
  else if Da (Ab d)=true then (if Ap ((Ab d).drop 1)=true then I b (Ae (Al (Ab d) 1)) (Ae (Al (Ab d) 2)) (Ae (Al (Ab d) 3)) (Ae (Al (Ab d) 4)) r else r=(b,1))
  else if Fl (Ab d)=true then (if Ap [Al (Ab d) 1,Al (Ab d) 3,Al (Ab d) 4]=true then r=Act b (Ae (Al (Ab d) 1)) ⟨Bz (Al (Ab d) 2),Ae (Al (Ab d) 3),Ae (Al (Ab d) 4)⟩ else r=(b,1))
  else r=(b,1))):=fun r=>rfl
 obtain ⟨LR,h4⟩:∃ L,Db F I Act b d=L:=⟨_,rfl⟩
 simp only [h4] at z ⊢
 clear hp h6 h4
 have a5:Hid (∀ n u,BW w u->Calls prog 141 #[C5 b p,qzI n] u (U8 u p (Fr F b n).1 (Fr F b n).2)):=fun n u h=>Mj F K b p n u (hx.below h) hn
 have HX:Hid (∀ u,BW w u->Aq u b p):=fun u h=>hx.below h
 have HN:Hid (D0 b):=hn;clear hx hn;obtain ⟨td,f,az,cs,ls,lg⟩:=b;obtain ⟨o,oc,a,ac,c,cc,l,lc,g,gc⟩:=p;unfold C5 at a5 ⊢
 simp only at a5 ⊢
 obtain ⟨u0,D⟩:∃ u,u=((w.alloc (.cells #[qzI td,.slice o f.length oc,.slice a az.length ac,.slice c cs.length cc,.slice l ls.length lc,.slice g lg.length gc] 31))).alloc (.cells qzB 31):=⟨_,rfl⟩
 have d5:Hid (BW w u0):=by rw [Hid,D];go_grown
 have b6:Hid ((w.heap.size+1)<u0.heap.size):=by rw [Hid,D];simp
 have c8:Hid (Z6 w.heap.size (qzI td) (.slice o f.length oc) (.slice a az.length ac) (.slice c cs.length cc) (.slice l ls.length lc) (.slice g lg.length gc) u0):=by
  rw [Hid,D];exact ((Z6.new w (qzI td) (.slice o f.length oc) (.slice a az.length ac) (.slice c cs.length cc) (.slice l ls.length lc) (.slice g lg.length gc) 31)).below (bR.alloc nL _)
 have b3:Hid (Z6 (w.heap.size+1) (qzI 0) (.slice none 0 0) (.slice none 0 0) (.slice none 0 0) (.slice none 0 0) (.slice none 0 0) u0):=by
  have h:=Z6.new ((w.alloc (.cells #[qzI td,.slice o f.length oc,.slice a az.length ac,.slice c cs.length cc,.slice l ls.length lc,.slice g lg.length gc] 31))) (qzI 0) (.slice none 0 0) (.slice none 0 0) (.slice none 0 0) (.slice none 0 0) (.slice none 0 0) 31
  rw [Hid,D];simpa using h
 have g8:Hid _:=D;clear D
 go_enter func84,ntmps84
 go_upto_region 1 with fail
 rw [<- g8.o];clear g8;obtain ⟨t0,t1,t2,t3,t4,t5,s0,s1,s2,s3,s4,s5⟩:=c8.o;obtain ⟨S,T,U,V,W,X,p0,p1,p2,p3,p4,p5⟩:=b3.o;have i3:=Fy d;have d4:=Ee d;go_wp2_with fail
 refine (I8 d _ (by omega)).mono ?_
 rintro e m ⟨wa,wk,rfl,ow,b1⟩;obtain ⟨ws,d3⟩:∃ ws,Ab d=ws:=⟨_,rfl⟩;rw [d3] at ow i3 d4 ⊢
 simp only [d3] at z H
 obtain ⟨A,rfl⟩:∃ A,wa=some (qzA A 0):=by
  rcases ow.2 with ⟨_,h⟩ | ⟨g,cap,cQ,h,_⟩
  ·omega
  ·injection h with h _ _
   exact ⟨g,h⟩
 have t:Hid (∀ u,BW m u->∀ i,i<ws.length->u.cell? (qzA A i)=some (.string ⟨(Al ws i).toArray⟩)):=fun u h i hi=>by
  have:=(Kq ((Ep ow).below h) hi).1
  simpa using this
 have C:Hid (∀ i,i<ws.length->(Al ws i).length<=1048576):=fun i hi=>by have:=d4 _ (F7 hi);omega
 have g2:Hid (m.ownsRow u0.heap.size 9 1 (.slice (some (qzA A 0)) ws.length wk) ws.length (Am ws)):=ow;have h0:Hid (Z6 w.heap.size (qzI td) (.slice o f.length oc) (.slice a az.length ac) (.slice c cs.length cc) (.slice l ls.length lc) (.slice g lg.length gc) m):=c8.o.below b1;have g4:Hid (Z6 (w.heap.size+1) (qzI 0) (.slice none 0 0) (.slice none 0 0) (.slice none 0 0) (.slice none 0 0) (.slice none 0 0) m):=b3.o.below b1;have d6:Hid (BW w m):=next d5.o b1
 have g5:Hid (w.heap.size+1<m.heap.size):=by have:=b6.o;have:=b1.size;rw [Hid];omega
 have j7:Hid (w.heap.size+1<u0.heap.size):=b6.o;clear t0 t1 t2 t3 t4 t5 s0 s1 s2 s3 s4 s5 S T U V W X p0 p1 p2 p3 p4 p5 c8 b3 d5 b6 b1 ow d4 d3
 have j1:(0:Int)<(ws.length:Int):=by omega
 go_upto_region 2 with fail
 go_cut [17] (fun v wc=>v=.bool (Ca ws)/\wc=m)
 case first =>
  have w0:=t.o m bR 0 (by omega)
  have q:Hid (Ca ws=(decide (Al ws 0=Eo) && (decide (ws.length=2) && decide (0<=Ae (Al ws 1))))):=rfl;obtain ⟨r0,d1⟩:∃ r,Al ws 0=r:=⟨_,rfl⟩;rw [d1] at w0 q
  by_cases hd:r0=Eo
  ·subst hd
   by_cases h2:ws.length=2
   ·have i8:((ws.length:Int) == 2)=true:=by simp;omega
    have j8:(1:Int)<(ws.length:Int):=by omega
    have w1:=t.o m bR 1 (by omega)
    have i1:=Ha (Al ws 1) m (C.o 1 (by omega))
    obtain ⟨r1,j2⟩:∃ r,Al ws 1=r:=⟨_,rfl⟩;rw [j2] at w1 q i1
    have j:Hid (Ca ws=decide (0<=Ae r1)):=by rw [Hid,q.o];simp [h2]
    unfold Eo at w0;clear h2
    go_wp2_with (go_at_call 140;refine i1.mono ?_;rintro e w' ⟨rfl,d2⟩;replace d2:=d2.symm;subst d2)
    go_meet
    exact ⟨by rw [j.o],rfl⟩
   ·have i8:((ws.length:Int) == 2)=false:=by simp;omega
    have j:Hid (Ca ws=false):=by rw [Hid,q.o];simp [h2]
    unfold Eo at w0;clear h2;go_wp2;go_meet
    exact ⟨by rw [j.o],rfl⟩
  ·have d0:(r0 == Eo)=false:=by simpa using hd
   have j:Hid (Ca ws=false):=by rw [Hid,q.o];simp [hd]
   unfold Eo at d0;go_wp2;go_meet
   exact ⟨by rw [j.o],rfl⟩
 case rest =>
  obtain ⟨rfl,y⟩:=hcut;replace y:=y.symm;subst y
  have d8:Hid (∀ r,LR r->r=(⟨td,f,az,cs,ls,lg⟩,1)->LR (⟨td,f,az,cs,ls,lg⟩,1)):=fun r h e=>e ▸ h
  cases hday:Ca ws
  case true=>exact absurd (hday.symm.trans H.o.1) (by decide)
  case false =>
   go_upto_region 4 with fail
   go_cut [42] (fun v wc=>v=.bool (Bq ws)/\wc=m)
   case first =>
    have w0:=t.o m bR 0 (by omega)
    have q:Hid (Bq ws=(decide (Al ws 0=Dy) && decide (ws.length=5))):=rfl;obtain ⟨r0,d1⟩:∃ r,Al ws 0=r:=⟨_,rfl⟩;rw [d1] at w0 q
    by_cases hd:r0=Dy
    ·subst hd
     by_cases h5:ws.length=5
     ·have i9:((ws.length:Int) == 5)=true:=by simp;omega
      have j:Hid (Bq ws=true):=by rw [Hid,q.o];simp [h5]
      unfold Dy at w0;clear h5;go_wp2;go_meet
      exact ⟨by rw [j.o],rfl⟩
     ·have i9:((ws.length:Int) == 5)=false:=by simp;omega
      have j:Hid (Bq ws=false):=by rw [Hid,q.o];simp [h5]
      unfold Dy at w0;clear h5;go_wp2;go_meet
      exact ⟨by rw [j.o],rfl⟩
    ·have d0:(r0 == Dy)=false:=by simpa using hd
     have j:Hid (Bq ws=false):=by rw [Hid,q.o];simp [hd]
     unfold Dy at d0;go_wp2;go_meet
     exact ⟨by rw [j.o],rfl⟩
   case rest =>
    obtain ⟨rfl,y⟩:=hcut;replace y:=y.symm;subst y
    cases hau:Bq ws
    case true =>
     have h5:ws.length=5:=by simp [Bq] at hau;exact hau.2
     have g3:Hid (∀ r,(if Ap (ws.drop 2)=true then r=Fq F ⟨td,f,az,cs,ls,lg⟩ (Al ws 1) (Ae (Al ws 2)) (Ae (Al ws 3)) (Ae (Al ws 4)) else r=(⟨td,f,az,cs,ls,lg⟩,1))->LR r):=fun r h=>by rw [z.o r,if_neg (by rw [hday];decide),if_pos hau];exact h
     match ws,h5 with
     | [x0,x1,x2,x3,x4],_ =>
     have j5:5<=wk:=by
      rcases g2.o.2 with ⟨h,_⟩ | ⟨g',cap,cQ,h,_,_,h1,_⟩
      ·cases h
      ·injection h with _ _ h
       subst h
       simpa using h1
     have g7:Hid (Bh m (some (qzA A 2)) [x2,x3,x4]):=.inr ⟨A,2,rfl,World.block_lt_of_cell? m _ (t.o m bR 0 (by simp)),fun i hi=>by
      have:=t.o m bR (2+i) (by simp at hi ⊢;omega)
      rw [this]
      simp at hi
      rcases (show i=0\/i=1\/i=2 by omega) with rfl | rfl | rfl <;> rfl⟩
     have d9:Hid (Calls prog 142 #[.slice (some (qzA A 2)) 3 (wk - 2)] m fun e w'=>∃ a k,e=.returned (.tuple #[.slice a (A7 [x2,x3,x4]).length k,.bool (Ap [x2,x3,x4])])/\w'.ownsRow m.heap.size 3 1 (.slice a (A7 [x2,x3,x4]).length k) (A7 [x2,x3,x4]).length ((A7 [x2,x3,x4]).map (Value.int .i64))/\BW m w'):=Nw (some (qzA A 2)) (wk - 2) [x2,x3,x4] m g7.o (by simp) (fun r hr=>by
      simp at hr
      rcases hr with rfl | rfl | rfl
      ·exact C.o 2 (by simp)
      ·exact C.o 3 (by simp)
      ·exact C.o 4 (by simp))
     simp only [List.length_cons,List.length_nil,Nat.zero_add,Nat.reduceAdd] at i3 j1 ⊢
     have j0:(5:Int)<=(wk:Int):=by omega
     have i4:x1.length<=1048576:=C.o 1 (by simp)
     have w1:=t.o m bR 1 (by simp)
     have b8:Hid (m.cell? (qzA A 1)=some (.string ⟨x1.toArray⟩)):=w1
     have b5:Hid (∀ r,(if Ap [x2,x3,x4]=true then r=Fq F ⟨td,f,az,cs,ls,lg⟩ x1 (Ae x2) (Ae x3) (Ae x4) else r=(⟨td,f,az,cs,ls,lg⟩,1))->LR r):=g3.o
     clear g3 z t C g7 d8 g2 w1 hau hday;go_wp2_with fail
     refine Calls.mono d9.o ?_;rintro e s ⟨na,nk,rfl,on,b2⟩;have a3:Hid (Z6 w.heap.size (qzI td) (.slice o f.length oc) (.slice a az.length ac) (.slice c cs.length cc) (.slice l ls.length lc) (.slice g lg.length gc) s):=h0.o.below b2;have Z:Hid (Z6 (w.heap.size+1) (qzI 0) (.slice none 0 0) (.slice none 0 0) (.slice none 0 0) (.slice none 0 0) (.slice none 0 0) s):=g4.o.below b2;have B:Hid (BW w s):=next d6.o b2
     have g6:Hid (w.heap.size+1<s.heap.size):=by have:=g5.o;have:=b2.size;rw [Hid];omega
     have g9:Hid (s.cell? (qzA A 1)=some (.string ⟨x1.toArray⟩)):=(b2.cell (p:=(qzA A 1)) (World.block_lt_of_cell? m _ b8.o)).trans b8.o;clear b2 h0 g4 d6 g5 b8 d9
     cases hok:Ap [x2,x3,x4]
     case false =>
      have HE:Hid (LR (⟨td,f,az,cs,ls,lg⟩,1)):=b5.o _ (by rw [if_neg (by rw [hok];decide)])
      obtain ⟨LN,h3⟩:∃ L,A7 [x2,x3,x4]=L:=⟨_,rfl⟩;rw [h3];clear on h3;obtain ⟨t0,t1,t2,t3,t4,t5,s0,s1,s2,s3,s4,s5⟩:=a3.o;obtain ⟨S,T,U,V,W,X,p0,p1,p2,p3,p4,p5⟩:=Z.o;go_wp2
      refine bodyPost_ret (by simp [results,results84,go_sem,S,T,U,V,W,X];try rfl) rfl ?_
      have bel:=Ax (R:=w.heap.size+1) (by omega) B.o
      exact ⟨(⟨td,f,az,cs,ls,lg⟩,1),HE.o,⟨o,oc,a,ac,c,cc,l,lc,g,gc⟩,rfl,HX.o _ (bel _ _ _ _ _ _),rfl,rfl,⟨rfl,.inl rfl,.inl rfl,.inl rfl⟩,bel _ _ _ _ _ _⟩
     case true =>
      have i2:A7 [x2,x3,x4]=[Ae x2,Ae x3,Ae x4]:=if_pos hok;rw [i2] at on ⊢
      have HE:Hid (LR (Fq F ⟨td,f,az,cs,ls,lg⟩ x1 (Ae x2) (Ae x3) (Ae x4))):=b5.o _ (by rw [if_pos hok])
      obtain ⟨n2,h8⟩:∃ n,Ae x2=n:=⟨_,rfl⟩;obtain ⟨n3,h9⟩:∃ n,Ae x3=n:=⟨_,rfl⟩;obtain ⟨n4,i0⟩:∃ n,Ae x4=n:=⟨_,rfl⟩;rw [h8,h9,i0] at on HE
      simp only [List.length_cons,List.length_nil,Nat.zero_add,Nat.reduceAdd] at on ⊢
      obtain ⟨N,rfl⟩:∃ N,na=some (qzA N 0):=by
       rcases on.2 with ⟨h,_⟩ | ⟨g',cap,cQ,h,_⟩
       ·cases h
       ·injection h with h _ _
        exact ⟨g',h⟩
      have c0:=on.cellAt 0 (by omega)
      have c1:=on.cellAt 1 (by omega)
      have c2:=on.cellAt 2 (by omega)
      simp at c0 c1 c2
      clear h8 h9 i0 i2 b5 on hok
      have Y:Hid (∀ u,BW w u->Calls prog 143 #[.slice a az.length ac,.agg #[.string ⟨x1.toArray⟩,qzI n2,qzI n3,qzI n4,qzI td,.bool false]] u (Pi u (F.add az ⟨x1,n2,n3,n4,td,false⟩) (F.addOk az ⟨x1,n2,n3,n4,td,false⟩))):=fun u h=>K.add a ac az ⟨x1,n2,n3,n4,td,false⟩ u (HX.o u h).az (by have:=HN.o.2.1;simpa using this) i4
      have a7:Hid (Fq F ⟨td,f,az,cs,ls,lg⟩ x1 n2 n3 n4=if F.addOk az ⟨x1,n2,n3,n4,td,false⟩=true then (⟨td,f,F.add az ⟨x1,n2,n3,n4,td,false⟩,cs,ls,lg⟩,0) else (⟨td,f,az,cs,ls,lg⟩,3)):=rfl
      obtain ⟨L,hL⟩:∃ L,F.add az ⟨x1,n2,n3,n4,td,false⟩=L:=⟨_,rfl⟩;obtain ⟨O,hO⟩:∃ O,F.addOk az ⟨x1,n2,n3,n4,td,false⟩=O:=⟨_,rfl⟩
      simp only [hL,hO] at Y a7
      rw [a7.o] at HE;have d7:Hid (BW w s.drew):=B.o.trans ((bR.drew).mono B.o.size);clear hL hO a7;have w1:=g9.o;obtain ⟨t0,t1,t2,t3,t4,t5,s0,s1,s2,s3,s4,s5⟩:=a3.o;obtain ⟨S,T,U,V,W,X,p0,p1,p2,p3,p4,p5⟩:=Z.o;go_upto_region 8 with fail
      go_cut [9,10] (fun v9 v10 wz=>∃ J M,v9=.slice J L.length M/\v10=.bool O/\wz.ownsRow s.heap.size 107 6 (.slice J L.length M) L.length (Ah L)/\BW s wz)
      case first =>
       have b7:Hid (∀ u,BW s u->u.cell? ⟨w.heap.size,2,none⟩=some (.slice a az.length ac)/\u.cell? (qzA A 1)=some (.string ⟨x1.toArray⟩)/\u.cell? (qzA N 0)=some (qzI n2)/\u.cell? (qzA N 1)=some (qzI n3)/\u.cell? (qzA N 2)=some (qzI n4)/\u.cell? ⟨w.heap.size,0,none⟩=some (qzI td)):=fun u h =>
        ⟨(h.cell (p:=⟨w.heap.size,2,none⟩) (World.block_lt_of_cell? s _ t2)).trans t2,(h.cell (p:=(qzA A 1)) (World.block_lt_of_cell? s _ w1)).trans w1,(h.cell (p:=(qzA N 0)) (World.block_lt_of_cell? s _ c0)).trans c0,(h.cell (p:=(qzA N 1)) (World.block_lt_of_cell? s _ c1)).trans c1,(h.cell (p:=(qzA N 2)) (World.block_lt_of_cell? s _ c2)).trans c2,(h.cell (p:=⟨w.heap.size,0,none⟩) (World.block_lt_of_cell? s _ t0)).trans t0⟩
       have k0:BW s s:=bR
       go_region_held3 (fun u=>u.cell? ⟨w.heap.size,2,none⟩=some (.slice a az.length ac)/\u.cell? (qzA A 1)=some (.string ⟨x1.toArray⟩)/\u.cell? (qzA N 0)=some (qzI n2)/\u.cell? (qzA N 1)=some (qzI n3)/\u.cell? (qzA N 2)=some (qzI n4)/\u.cell? ⟨w.heap.size,0,none⟩=some (qzI td)) (first | exact b7.o _ k1 | exact b7.o _ k0 | exact b7.o _ k0.drew) ((first
        | (go_at_call 143;(first | refine Calls.mono (Y.o _ B.o) ?_ | refine Calls.mono (Y.o _ d7.o) ?_);rintro e u4 ⟨J,M,rfl,o9,b9⟩;have k1:BW s u4:=(by first | exact b9 | exact (bR.drew).trans b9))))
       all_goals
        go_wp2_with fail
        go_meet
        exact ⟨J,M,rfl,rfl,by first | exact o9 | simpa using o9,k1⟩
      case rest =>
       obtain ⟨J,M,rfl,rfl,o9,b9⟩:=hcut;have c9:Hid (Z6 w.heap.size (qzI td) (.slice o f.length oc) (.slice a az.length ac) (.slice c cs.length cc) (.slice l ls.length lc) (.slice g lg.length gc) wc):=a3.o.below b9;have b4:Hid (Z6 (w.heap.size+1) (qzI 0) (.slice none 0 0) (.slice none 0 0) (.slice none 0 0) (.slice none 0 0) (.slice none 0 0) wc):=Z.o.below b9;have a8:Hid (BW w wc):=next B.o b9;have g0:Hid (wc.ownsRow (w.heap.size+2) 107 6 (.slice J L.length M) L.length (Ah L)):=Bi o9 g6.o;clear b9 o9 a3 Z B g6 g9 Y d7 w1 c0 c1 c2 t0 t1 t2 t3 t4 t5 s0 s1 s2 s3 s4 s5 S T U V W X p0 p1 p2 p3 p4 p5;obtain ⟨t0,t1,t2,t3,t4,t5,s0,s1,s2,s3,s4,s5⟩:=c9.o;obtain ⟨S,T,U,V,W,X,p0,p1,p2,p3,p4,p5⟩:=b4.o
       cases O
       case false =>
        have b0:Hid (LR (⟨td,f,az,cs,ls,lg⟩,3)):=by have:=HE.o;rwa [if_neg (by decide)] at this
        go_wp2
        refine bodyPost_ret (by simp [results,results84,go_sem,S,T,U,V,W,X];try rfl) rfl ?_
        have bel:=Ax (R:=w.heap.size+1) (by omega) a8.o
        exact ⟨(⟨td,f,az,cs,ls,lg⟩,3),b0.o,⟨o,oc,a,ac,c,cc,l,lc,g,gc⟩,rfl,HX.o _ (bel _ _ _ _ _ _),rfl,rfl,⟨rfl,.inl rfl,.inl rfl,.inl rfl⟩,bel _ _ _ _ _ _⟩
       case true =>
        have b0:Hid (LR (⟨td,f,L,cs,ls,lg⟩,0)):=by have:=HE.o;rwa [if_pos rfl] at this
        go_upto_region 12 with fail
        obtain ⟨u5,G⟩:∃ u,u=wc.setCell ⟨w.heap.size,2,none⟩ (.slice J L.length M):=⟨_,rfl⟩
        have i7:Hid (Z6 w.heap.size (qzI td) (.slice o f.length oc) (.slice J L.length M) (.slice c cs.length cc) (.slice l ls.length lc) (.slice g lg.length gc) u5):=by rw [Hid,G];exact c9.o.set2 _
        have i6:Hid (Z6 (w.heap.size+1) (qzI 0) (.slice none 0 0) (.slice none 0 0) (.slice none 0 0) (.slice none 0 0) (.slice none 0 0) u5):=by rw [Hid,G];exact b4.o.far (by omega)
        have i5:Hid (BW w u5):=by rw [Hid,G];exact a8.o.setCell nL _
        have g1:Hid (u5.ownsRow (w.heap.size+2) 107 6 (.slice J L.length M) L.length (Ah L)):=by rw [Hid,G];exact Ad g0.o (by omega)
        rw [<- G];clear G c9 b4 a8 g0 t0 t1 t2 t3 t4 t5 s0 s1 s2 s3 s4 s5 S T U V W X p0 p1 p2 p3 p4 p5;obtain ⟨t0,t1,t2,t3,t4,t5,s0,s1,s2,s3,s4,s5⟩:=i7.o;obtain ⟨S,T,U,V,W,X,p0,p1,p2,p3,p4,p5⟩:=i6.o;go_wp2
        refine bodyPost_ret (by simp [results,results84,go_sem,S,T,U,V,W,X];try rfl) rfl ?_
        have bel:=Ax (R:=w.heap.size+1) (by omega) i5.o
        have hX:=HX.o _ (bel (qzI td) (.slice o f.length oc) (.slice J L.length M) (.slice c cs.length cc) (.slice l ls.length lc) (.slice g lg.length gc))
        exact ⟨⟨td,f,L,cs,ls,lg⟩,0,b0.o,⟨o,oc,J,M,c,cc,l,lc,g,gc⟩,rfl,⟨hX.off,Fd (Ea g1.o (by omega) _ _ _ _ _ _),hX.cs,hX.ls,hX.log⟩,rfl,rfl,⟨rfl,.inr (fun x hx=>by have:=Cw g1.o x hx;omega),.inl rfl,.inl rfl⟩,bel _ _ _ _ _ _⟩
    case false=>exact absurd (hau.symm.trans H.o.2) (by decide)
end Go.Proofs.YtomiclakhjncbaaGreatDoor
