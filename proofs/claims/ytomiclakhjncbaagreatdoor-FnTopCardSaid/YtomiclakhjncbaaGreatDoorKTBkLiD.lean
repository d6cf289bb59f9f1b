import Derived.Test.YtomiclakhjncbaaGreatDoorJT2a
namespace Go.Proofs.YtomiclakhjncbaaGreatDoor
open Go.RowKit Go.Proofs.Tryz
set_option maxRecDepth 100000
set_option maxHeartbeats 12800000
theorem Xw (F:Ff) (K:Nc F) {G:Bk->Prop} (d5:∀ b,G b->D0 b) {A:Bk->Int->Int->Int->Int->Bk×Int->Prop} {Act:Bk->Int->Ac->Bk×Int} (_ST:Tp G A Act) (b:Bk) (p:Bp) (d:List UInt8) (w:World) (hx:Aq w b p) (a7:Vb p w.heap.size) (hp:G b) (hl:d.length<=1048575) (J:Ca (Ab d)=true) :
  Calls prog 84 #[C5 b p,.string ⟨d.toArray⟩] w fun e w'=>∃ r,Db F A Act b d r/\U8 w p r.1 r.2 e w':=by
 have hn:=d5 b hp;have g1:Hid (G b):=hp;have I:Hid (Ca (Ab d)=true):=J;clear J;have a9:Hid (Vb p w.heap.size):=a7
 have z:Hid (∀ r,Db F A Act b d r=(if Ca (Ab d)=true then r=Fr F b (Ae (Al (Ab d) 1))
  else if Bq (Ab d)=true then (if Ap ((Ab d).drop 2)=true then r=Fq F b (Al (Ab d) 1) (Ae (Al (Ab d) 2)) (Ae (Al (Ab d) 3)) (Ae (Al (Ab d) 4)) else r=(b,1))
  else if Da (Ab d)=true then (if Ap ((Ab d).drop 1)=true then A b (Ae (Al (Ab d) 1)) (Ae (Al (Ab d) 2)) (Ae (Al (Ab d) 3)) (Ae (Al (Ab d) 4)) r else r=(b,1))
  else if Fl (Ab d)=true then (if Ap [Al (Ab d) 1,Al (Ab d) 3,Al (Ab d) 4]=true then r=Act b (Ae (Al (Ab d) 1)) ⟨Bz (Al (Ab d) 2),Ae (Al (Ab d) 3),Ae (Al (Ab d) 4)⟩ else r=(b,1))
  else r=(b,1))):=fun r=>rfl
 obtain ⟨LR,a6⟩:∃ L,Db F A Act b d=L:=⟨_,rfl⟩
 simp only [a6] at z ⊢
 clear hp a7 a6
 have x:Hid (∀ n u,BW w u->Calls prog 141 #[C5 b p,qzI n] u (U8 u p (Fr F b n).1 (Fr F b n).2)):=fun n u h=>Mj F K b p n u (hx.below h) hn
 have HX:Hid (∀ u,BW w u->Aq u b p):=fun u h=>hx.below h
 have HN:Hid (D0 b):=hn;clear hx hn;obtain ⟨td,s,az,cs,ls,lg⟩:=b;obtain ⟨o,oc,a,ac,c,cc,l,lc,g,gc⟩:=p;unfold C5 at x ⊢
 simp only at x ⊢
 obtain ⟨u0,q⟩:∃ u,u=((w.alloc (.cells #[qzI td,.slice o s.length oc,.slice a az.length ac,.slice c cs.length cc,.slice l ls.length lc,.slice g lg.length gc] 31))).alloc (.cells qzB 31):=⟨_,rfl⟩
 have a3:Hid (BW w u0):=by rw [Hid,q];go_grown
 have R:Hid ((w.heap.size+1)<u0.heap.size):=by rw [Hid,q];simp
 have T:Hid (Z6 w.heap.size (qzI td) (.slice o s.length oc) (.slice a az.length ac) (.slice c cs.length cc) (.slice l ls.length lc) (.slice g lg.length gc) u0):=by
  rw [Hid,q];exact ((Z6.new w (qzI td) (.slice o s.length oc) (.slice a az.length ac) (.slice c cs.length cc) (.slice l ls.length lc) (.slice g lg.length gc) 31)).below (bR.alloc nL _)
 have O:Hid (Z6 (w.heap.size+1) (qzI 0) (.slice none 0 0) (.slice none 0 0) (.slice none 0 0) (.slice none 0 0) (.slice none 0 0) u0):=by
  have h:=Z6.new ((w.alloc (.cells #[qzI td,.slice o s.length oc,.slice a az.length ac,.slice c cs.length cc,.slice l ls.length lc,.slice g lg.length gc] 31))) (qzI 0) (.slice none 0 0) (.slice none 0 0) (.slice none 0 0) (.slice none 0 0) (.slice none 0 0) 31
  rw [Hid,q];simpa using h
 have a4:Hid _:=q;clear q
 go_enter func84,ntmps84
 go_upto_region 1 with fail
 rw [<- a4.o];clear a4;obtain ⟨t0,t1,t2,t3,t4,t5,s0,s1,s2,s3,s4,s5⟩:=T.o;obtain ⟨q0,q1,q2,q3,q4,q5,p0,p1,p2,p3,p4,p5⟩:=O.o;have d6:=Fy d;have Y:=Ee d;go_wp2_with fail
 refine (I8 d _ (by omega)).mono ?_
 rintro e f ⟨wa,wk,rfl,ow,b1⟩;obtain ⟨ws,X⟩:∃ ws,Ab d=ws:=⟨_,rfl⟩;rw [X] at ow d6 Y ⊢
 simp only [X] at z I
 obtain ⟨gw,rfl⟩:∃ gw,wa=some (qzA gw 0):=by
  rcases ow.2 with ⟨_,h⟩ | ⟨g,cap,cQ,h,_⟩
  ·omega
  ·injection h with h _ _
   exact ⟨g,h⟩
 have S:Hid (∀ u,BW f u->∀ i,i<ws.length->u.cell? (qzA gw i)=some (.string ⟨(Al ws i).toArray⟩)):=fun u h i hi=>by
  have:=(Kq ((Ep ow).below h) hi).1
  simpa using this
 have a5:Hid (∀ i,i<ws.length->(Al ws i).length<=1048576):=fun i hi=>by have:=Y _ (F7 hi);omega
 have g2:Hid (f.ownsRow u0.heap.size 9 1 (.slice (some (qzA gw 0)) ws.length wk) ws.length (Am ws)):=ow;have b9:Hid (Z6 w.heap.size (qzI td) (.slice o s.length oc) (.slice a az.length ac) (.slice c cs.length cc) (.slice l ls.length lc) (.slice g lg.length gc) f):=T.o.below b1;have b7:Hid (Z6 (w.heap.size+1) (qzI 0) (.slice none 0 0) (.slice none 0 0) (.slice none 0 0) (.slice none 0 0) (.slice none 0 0) f):=O.o.below b1;have D:Hid (BW w f):=next a3.o b1
 have b8:Hid (w.heap.size+1<f.heap.size):=by have:=R.o;have:=b1.size;rw [Hid];omega
 have g3:Hid (w.heap.size+1<u0.heap.size):=R.o;clear t0 t1 t2 t3 t4 t5 s0 s1 s2 s3 s4 s5 q0 q1 q2 q3 q4 q5 p0 p1 p2 p3 p4 p5 T O a3 R b1 ow Y X
 have g4:(0:Int)<(ws.length:Int):=by omega
 go_upto_region 2 with fail
 go_cut [17] (fun v wc=>v=.bool (Ca ws)/\wc=f)
 case first =>
  have w0:=S.o f bR 0 (by omega)
  have y:Hid (Ca ws=(decide (Al ws 0=Eo) && (decide (ws.length=2) && decide (0<=Ae (Al ws 1))))):=rfl;obtain ⟨r0,d4⟩:∃ r,Al ws 0=r:=⟨_,rfl⟩;rw [d4] at w0 y
  by_cases hd:r0=Eo
  ·subst hd
   by_cases h2:ws.length=2
   ·have d2:((ws.length:Int) == 2)=true:=by simp;omega
    have d1:(1:Int)<(ws.length:Int):=by omega
    have w1:=S.o f bR 1 (by omega)
    have m:=Ha (Al ws 1) f (a5.o 1 (by omega))
    obtain ⟨Z,V⟩:∃ r,Al ws 1=r:=⟨_,rfl⟩;rw [V] at w1 y m
    have t:Hid (Ca ws=decide (0<=Ae Z)):=by rw [Hid,y.o];simp [h2]
    unfold Eo at w0;clear h2
    go_wp2_with (go_at_call 140;refine m.mono ?_;rintro e w' ⟨rfl,j⟩;replace j:=j.symm;subst j)
    go_meet
    exact ⟨by rw [t.o],rfl⟩
   ·have d2:((ws.length:Int) == 2)=false:=by simp;omega
    have t:Hid (Ca ws=false):=by rw [Hid,y.o];simp [h2]
    unfold Eo at w0;clear h2;go_wp2;go_meet
    exact ⟨by rw [t.o],rfl⟩
  ·have d3:(r0 == Eo)=false:=by simpa using hd
   have t:Hid (Ca ws=false):=by rw [Hid,y.o];simp [hd]
   unfold Eo at d3;go_wp2;go_meet
   exact ⟨by rw [t.o],rfl⟩
 case rest =>
  obtain ⟨rfl,W⟩:=hcut;replace W:=W.symm;subst W
  have g0:Hid (∀ r,LR r->r=(⟨td,s,az,cs,ls,lg⟩,1)->LR (⟨td,s,az,cs,ls,lg⟩,1)):=fun r h e=>e ▸ h
  cases hday:Ca ws
  case true =>
   have N:Hid (∀ r,r=Fr F ⟨td,s,az,cs,ls,lg⟩ (Ae (Al ws 1))->LR r):=fun r h=>by rw [z.o r,if_pos hday];exact h
   have h2:ws.length=2:=by simp [Ca] at hday;exact hday.2.1
   have d1:(1:Int)<(ws.length:Int):=by omega
   have w1:=S.o f bR 1 (by omega)
   have m:=fun u=>Ha (Al ws 1) u (a5.o 1 (by omega))
   obtain ⟨Z,V⟩:∃ r,Al ws 1=r:=⟨_,rfl⟩;rw [V] at w1 m N;have b6:Hid _:=m
   have M:Hid (∀ u,BW w u->Calls prog 141 #[.agg #[qzI td,.slice o s.length oc,.slice a az.length ac,.slice c cs.length cc,.slice l ls.length lc,.slice g lg.length gc],qzI (Ae Z)] u (U8 u ⟨o,oc,a,ac,c,cc,l,lc,g,gc⟩ (Fr F ⟨td,s,az,cs,ls,lg⟩ (Ae Z)).1 (Fr F ⟨td,s,az,cs,ls,lg⟩ (Ae Z)).2)):=fun u h=>x.o (Ae Z) u h
   obtain ⟨⟨⟨d9,d0,c8,c9,d8,d7⟩,code⟩,hD⟩:∃ r,Fr F ⟨td,s,az,cs,ls,lg⟩ (Ae Z)=r:=⟨_,rfl⟩
   simp only [hD] at M N
   have b3:Hid (BW w f.drew):=D.o.trans ((bR.drew).mono D.o.size);clear hday h2 m hD;obtain ⟨t0,t1,t2,t3,t4,t5,s0,s1,s2,s3,s4,s5⟩:=b9.o;go_upto_region 3 with fail
   go_region_with (first
    | (go_at_call 140;refine (b6.o _).mono ?_;rintro e w' ⟨rfl,j⟩;replace j:=j.symm;subst j)
    | (go_at_call 141;(first | refine (M.o _ D.o).mono ?_ | refine (M.o _ b3.o).mono ?_);rintro e u4 ⟨C,rfl,a8,H,k,B,U⟩;have b4:BW f u4:=(by first | exact U | exact (bR.drew).trans U);have b5:Hid (C.g=g/\C.gc=gc/\(C.o=o/\(C.a=a\/Cm C.a f.heap.size)/\(C.c=c\/Cm C.c f.heap.size)/\(C.l=l\/Cm C.l f.heap.size))):=⟨H,k,by first | exact B | simpa using B⟩;have b0:Hid _:=a8;have b2:Hid _:=b4;clear H k B a8 U;obtain ⟨qo,g9,qa,g5,qc,g6,ql,g8,qg,g7⟩:=C;unfold C5;simp only;obtain ⟨q0,q1,q2,q3,q4,q5,p0,p1,p2,p3,p4,p5⟩:=b7.o.below b4))
   all_goals
    clear b4;go_wp2
    refine bodyPost_ret (by simp [results,results84,go_sem,q0,q1,q2,q3,q4,q5];try rfl) rfl ?_
    obtain ⟨H,k,B⟩:=b5.o
    exact ⟨(⟨d9,d0,c8,c9,d8,d7⟩,code),N.o _ rfl,Qp a9.o D.o (by omega) b8.o b0.o H k B b2.o _ _ _ _ _ _⟩
  case false=>exact absurd (hday.symm.trans I.o) (by decide)
end Go.Proofs.YtomiclakhjncbaaGreatDoor
