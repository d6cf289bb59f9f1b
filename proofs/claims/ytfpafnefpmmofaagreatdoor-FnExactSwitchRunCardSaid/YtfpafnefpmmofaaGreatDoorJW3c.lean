import Derived.Test.YtfpafnefpmmofaaGreatDoorJW3b
set_option maxRecDepth 100000
set_option maxHeartbeats 12800000
namespace Go.Proofs.YtfpafnefpmmofaaGreatDoor
open Go.RowKit Go.Proofs.Tryz
theorem PB.grown {s:Nat} {ao:qm} {cap n:Nat} {a b c m:Int} {u u':ql} {g:Nat} (h:PB s ao cap n a b c m u) (O:u.grownBy u' (some g)) (i7:s+1+1<g):PB s ao cap n a b c m u':=by
 have G:=h.sz
 exact ⟨(O.cell_far (qzA s 0) (by show s<u.heap.size;omega) (by simp;omega)).t h.l0,(O.cell_far ⟨s+1,0,none⟩ (by show s+1<u.heap.size;omega) (by simp;omega)).t h.e0,(O.cell_far ⟨s+1,1,none⟩ (by show s+1<u.heap.size;omega) (by simp;omega)).t h.e1,
  (O.cell_far ⟨s+1,2,none⟩ (by show s+1<u.heap.size;omega) (by simp;omega)).t h.e2,(O.cell_far ⟨s+1,3,none⟩ (by show s+1<u.heap.size;omega) (by simp;omega)).t h.e3,(O.cell_far ⟨s+1+1,0,none⟩ G (by simp;omega)).t h.r0,(O.frozen_far ⟨s+1+1,0,none⟩ G (by simp;omega)).t h.rf,jd G O.size⟩
theorem Aaa {ls:List Ln} (h:∀ x ∈ ls,-4000000000000<=x.2.2/\x.2.2<=4000000000000) (a c:Int):-4000000000000<=(look ls a c).getD 0/\(look ls a c).getD 0<=4000000000000:=by
 cases hl:look ls a c with
 | none=>simp
 | some v=>have:=h _ (R9 hl);simpa using this
theorem qQ {ls:List Ln} {a c m:Int} (h:∀ x ∈ ls,N3 x) (hb:∀ x ∈ ls,-4000000000000<=x.2.2/\x.2.2<=4000000000000) (ha:Bs a) (hc:Bs c) (hm:-1000000000000<=m/\m<=1000000000000):∀ x ∈ Dj ls a c m,N3 x:=by
 intro x hx
 have hk:Bs x.1/\Bs x.2.1:=by
  rcases jM hx with G|⟨G,h2⟩
  ·exact ⟨(h x G).1,(h x G).2.1⟩
  ·rw [G,h2];exact ⟨ha,hc⟩
 refine ⟨hk.1,hk.2,WalkArith.wf_i64 ?_⟩
 rcases V7 x hx with G|G|⟨y,hy,G⟩
 ·have:=hb x G;omega
 ·omega
 ·have:=hb y hy;omega
theorem Oy (ao:qm) (cap:Nat) (ls:List Ln) (a b c m:Int) (w:ql) (hz:Ar w ao ls) (hn:ls.length<=1048576) (D:∀ x ∈ ls,N3 x) (d9:Xz (a,b,c,m)) :
  qi 289 #[.agg #[qf ao ls.length cap],.agg #[qzI a,qzI b,qzI c,qzI m]] w (Nd w (Nb ls (a,b,c,m)) (Cz ls (a,b,c,m))):=by
 obtain ⟨W,hW⟩:=A0 (((w.alloc (.cells #[qf ao ls.length cap] 38)).alloc (.cells #[qzI a,qzI b,qzI c,qzI m] 217)).alloc (.cells #[qe] 38))
 have bW:BW w W:=by rw [hW];go_grown
 have PW:PB w.heap.size ao cap ls.length a b c m W:=by
  rw [hW];exact ⟨by simp [go_sem],by simp [go_sem],by simp [go_sem],by simp [go_sem],by simp [go_sem],by simp [go_sem],by simp [go_sem],by simp⟩
 have d7:=Aa hz;have HZ:=Aa (hz.below bW);have HW:=Aa hW;have l0:=PW.l0;have a8:=Aa PW;have U:=Aa D;have f:=Aa d9;clear hz hW PW D d9
 cases hL:A6 ls
 ·have d:Cz ls (a,b,c,m)=false:=by simp [Cz,hL]
  have r:=Aa (Jq d);rw [d]
  have HC:qj (qi 314 #[.agg #[qf ao ls.length cap]] W (qp (.bool false) W)):=by
   have h:=Lc ao cap ls W HZ.o (by omega) U.o
   rw [hL] at h;exact h
  clear d hL
  go_enter func289,ntmps289
  go_upto_region 1 with fail
  rw [<- HW.o];go_wp2_with fail
  refine HC.o.m ?_;rintro e w1 ⟨rfl,C⟩;have k:=a8.o.below C;have q1:=next bW C;have b0:=Aa (HZ.o.below C);have j0:=k.l0;have B:=Aa k;clear HC C k l0;go_wp2_with fail
  refine (Jc ao cap ls w1 b0.o (by omega)).m ?_
  rintro e w2 ⟨g2,c2,rfl,o2,F⟩;have M:=B.o.below F;have r0:=M.r0;have rf:=M.rf;have HE:=Aa (Ic (w:=w) (ok:=false) r.o o2 B.o.sz (next q1 F));clear o2 F M j0;go_wp2
  refine bodyPost_ret (by simp [results,results289,go_sem,r0];try rfl) rfl ?_
  exact HE.o
 have T:qj (qi 314 #[.agg #[qf ao ls.length cap]] W (qp (.bool true) W)):=by
  have h:=Lc ao cap ls W HZ.o (by omega) U.o
  rw [hL] at h;exact h
 cases hE:B7 (a,b,c,m)
 ·have d:Cz ls (a,b,c,m)=false:=by simp [Cz,hE]
  have r:=Aa (Jq d);rw [d];have a5:=Aa hE;clear d hL hE
  go_enter func289,ntmps289
  go_upto_region 1 with fail
  rw [<- HW.o];go_wp2_with fail
  refine T.o.m ?_;rintro e w1 ⟨rfl,C⟩;have k:=a8.o.below C;have q1:=next bW C;have b0:=Aa (HZ.o.below C);have k0:=k.e0;have k1:=k.e1;have k2:=k.e2;have k3:=k.e3
  have H:qj (qi 315 #[.agg #[qzI a,qzI b,qzI c,qzI m]] w1 (qp (.bool false) w1)):=by
   have h:=Ry a b c m w1 f.o.2.2.1;rw [a5.o] at h;exact h
  have B:=Aa k;clear T C k l0;go_wp2_with fail
  refine H.o.m ?_;rintro e w2 ⟨rfl,F⟩;have M:=B.o.below F;have q2:=next q1 F;have b4:=Aa (b0.o.below F);have j0:=M.l0;have J:=Aa M;clear H F M k0 k1 k2 k3;go_wp2_with fail
  refine (Jc ao cap ls w2 b4.o (by omega)).m ?_
  rintro e w3 ⟨g3,c3,rfl,o3,b3⟩;have Y:=J.o.below b3;have r0:=Y.r0;have rf:=Y.rf;have HE:=Aa (Ic (w:=w) (ok:=false) r.o o3 J.o.sz (next q2 b3));clear o3 b3 Y j0;go_wp2
  refine bodyPost_ret (by simp [results,results289,go_sem,r0];try rfl) rfl ?_
  exact HE.o
 ·obtain ⟨Z,h8,_⟩:=Et hL
  obtain ⟨_,_,_,_,h9,i4⟩:=Qi hE
  simp only at h9 i4
  have q:=Vy Z;have g7:=Y1 Z
  have N:∀ x ∈ ls,-1000000000000<=x.2.2/\x.2.2<=1000000000000:=λx hx=>(Ks (Ew Z x hx)).2.2.1
  have h0:qj (∀ x ∈ ls,-4000000000000<=x.2.2/\x.2.2<=4000000000000):=λx hx=>by have:=N x hx;omega
  have a3:qj (∀ x ∈ Dj ls a c (-m),-4000000000000<=x.2.2/\x.2.2<=4000000000000):=λx hx=>by
   rcases V7 x hx with h|h|⟨y,hy,h⟩
   ·have:=N x h;omega
   ·omega
   ·have:=N y hy;omega
  have g1:=Rs ls a c (-m);have D:=Rs (Dj ls a c (-m)) b c m;have a7:qj (I5 ls (a,b,c,m)=Dj (Dj ls a c (-m)) b c m):=rfl
  have X:qj (Cz ls (a,b,c,m)=A6 (Dj (Dj ls a c (-m)) b c m)):=by rw [qj,Cz,hL,hE];rfl
  have I:=Aa (Zv q a c (show -m≠0 by omega))
  have z:=Aa (Zv (Yf q a c (-m)) b c (show m≠0 by omega))
  have a9:=Aa (Yf (Yf q a c (-m)) b c m)
  have a4:qj (∀ x ∈ Dj (Dj ls a c (-m)) b c m,N3 x):=qQ (qQ U.o h0.o f.o.1 f.o.2.2.1 ⟨by omega,by omega⟩) a3.o f.o.2.1 f.o.2.2.1 ⟨by omega,by omega⟩
  obtain ⟨A1,d8⟩:=Ae (Dj ls a c (-m));rw [d8] at a3 g1 D a7 X I z a9 a4;obtain ⟨A,hA⟩:=Ae (Dj A1 b c m);rw [hA] at D a7 X z a9 a4;have a5:=Aa hE;have HS:=Aa q;have h3:=Aa g7;have b5:=Aa N
  have i6:A.length<=402:=by omega
  clear hL hE Z N g1 D d8 hA q g7
  have i8:IntKind.i64.wrap (-m) = -m:=by simp [IntKind.wrap,IntKind.bits,IntKind.signed];omega
  go_enter func289,ntmps289
  go_upto_region 1 with fail
  rw [<- HW.o];go_wp2_with fail
  refine T.o.m ?_;rintro e w1 ⟨rfl,C⟩;have k:=a8.o.below C;have q1:=next bW C;have k0:=k.e0;have k1:=k.e1;have k2:=k.e2;have k3:=k.e3
  have H:qj (qi 315 #[.agg #[qzI a,qzI b,qzI c,qzI m]] w1 (qp (.bool true) w1)):=by
   have h:=Ry a b c m w1 f.o.2.2.1;rw [a5.o] at h;exact h
  have B:=Aa k;clear T C k l0;go_wp2_with fail
  refine H.o.m ?_;rintro e w2 ⟨rfl,F⟩;have M:=B.o.below F;have q2:=next q1 F;have b4:=Aa (d7.o.below q2);have j0:=M.l0;have J:=Aa M;clear H F M k0 k1 k2 k3;go_wp2_with fail
  refine (dZ ao cap ls w2 b4.o h8 HS.o h3.o b5.o U.o).m ?_;rintro e w3 ⟨g,rfl,O,m3,b3⟩;have Y:=J.o.below b3;have q3:=next q2 b3;have g0:=jd J.o.sz O;have b9:=Aa m3;have i0:=Y.e0;have i2:=Y.e2;have i3:=Y.e3;have d2:=Aa Y;have h4:=Aa (qB b5.o a c);clear m3 b3 Y j0 O;go_wp2_with fail
  refine (dH g ls.length (look ls) a c (-m) _ w3 b9.o f.o.1 f.o.2.2.1 rfl (by have:=h4.o;omega) (by unfold maxLen;omega)).m ?_
  rintro e w4 ⟨rfl,m4,g4⟩;have P4:=d2.o.grown g4 g0
  have q4:=q3.grown g4 q3.size (λj hj=>by cases hj;omega)
  have c9:qj (J2 w4 g (ls.length+1) (look A1)):=by rw [I.o];exact m4
  have i1:=P4.e1;have i2:=P4.e2;have i3:=P4.e3;have d3:=Aa P4;have h5:=Aa (Aaa a3.o b c);clear m4 g4 P4 i0 b9 d2;go_wp2_with fail
  refine (dH g (ls.length+1) (look A1) b c m _ w4 c9.o f.o.2.1 f.o.2.2.1 rfl (by have:=h5.o;omega) (by unfold maxLen;omega)).m ?_
  rintro e w5 ⟨rfl,m5,g5⟩;have P5:=d3.o.grown g5 g0
  have q5:=q4.grown g5 q4.size (λj hj=>by cases hj;omega)
  have d0:qj (J2 w5 g (ls.length+1+1) (look A)):=by rw [z.o];exact m5
  have d4:=Aa P5;clear m5 g5 P5 i1 i2 i3 c9 d3 q3 q4;go_wp2_with fail
  refine (lG g (ls.length+1+1) (look A) w5 d0.o (by omega)).m ?_
  rintro e w6 ⟨g6,k6,L,rfl,s6,g9,_,o6,b6⟩
  have l:=lA s6 a9.o (λx y=>by rw [g9])
  subst l;have P6:=d4.o.below b6;have q6:=next q5 b6;obtain ⟨V,hV⟩:=A0 (w6.alloc (.cells #[qf g6 L.length k6] 38))
  have bV:BW w6 V:=by rw [hV];go_grown
  have v0:V.cell? ⟨w6.heap.size,0,none⟩=some (qf g6 L.length k6):=by rw [hV];simp
  have PV:=P6.below bV;have qV:=next q6 bV;have d1:=Aa (A5 o6 bV);have h7:=Aa (d7.o.below qV);have d6:=Aa PV
  have i:=Aa (Lc g6 k6 L V (Eb d1.o) (by omega) a4.o)
  have i5:=d4.o.sz;clear s6 g9 o6 b6 bV P6 PV q6 d0 I z;go_upto_region 7 with fail
  rw [<- hV];clear hV
  cases l:A6 L
  ·have d:=X.o.t l
   have r:=Aa (Jq d);have a6:=Aa d;rw [l] at i;clear d l;go_wp2_with fail
   refine i.o.m ?_;rintro e w7 ⟨rfl,S⟩;have P7:=d6.o.below S;have q7:=next qV S;have h6:=Aa (h7.o.below S);have j0:=P7.l0;have d5:=Aa P7;clear i S P7 v0;go_wp2_with fail
   refine (Jc ao cap ls w7 h6.o (by omega)).m ?_
   rintro e w8 ⟨g8,c8,rfl,o8,b8⟩;have P8:=d5.o.below b8;have r0:=P8.r0;have rf:=P8.rf;have HE:=Aa (Ic (w:=w) (ok:=false) r.o o8 d5.o.sz (next q7 b8));clear o8 b8 P8 j0;go_wp2
   refine bodyPost_ret (by simp [results,results289,go_sem,r0];try rfl) rfl ?_
   rw [a6.o];exact HE.o
  ·have R:=X.o.t l
   have r:=Aa ((Te R).t a7.o);have a6:=Aa R;rw [l] at i;clear R l;go_wp2_with fail
   refine i.o.m ?_;rintro e w7 ⟨rfl,S⟩;have P7:=d6.o.below S;have q7:=next qV S;have v7:=(S.cell (p:=⟨w6.heap.size,0,none⟩) (qs V _ v0)).t v0;have r0:=P7.r0;have rf:=P7.rf;have HE:=Aa (Ic (w:=w) (ok:=true) r.o (A5 d1.o S) i5 q7);clear i S P7 v0;go_wp2
   refine bodyPost_ret (by simp [results,results289,go_sem,r0];try rfl) rfl ?_
   rw [a6.o];exact HE.o
theorem dC (ao:qm) (cap:Nat) (ls:List Ln) (eo:qm) (ec:Nat) (es:List En) (w:ql) (hz:Ar w ao ls) (hn:ls.length<=1048576) (M:∀ x ∈ ls,N3 x) (hy:Fg w eo es) (hm:es.length<=1048576) (L:∀ x ∈ es,Xz x) :
  qi 259 #[.agg #[qf ao ls.length cap],qf eo es.length ec] w (Nd w (Ke ls es) (allOk ls es)):=by
 obtain ⟨W,z⟩:=A0 ((w.alloc (.cells #[qf ao ls.length cap] 38)).alloc (.cells #[qe] 38))
 have bW:BW w W:=by rw [z];go_grown
 have H:W.heap.size=w.heap.size+2:=by rw [z];simp
 have l0:W.cell? ⟨w.heap.size,0,none⟩=some (qf ao ls.length cap):=by rw [z];simp [go_sem]
 have r0:W.cell? ⟨w.heap.size+1,0,none⟩=some qe:=by rw [z];simp [go_sem]
 have rf:W.frozen? ⟨w.heap.size+1,0,none⟩=false:=by rw [z];simp [go_sem]
 have b0:=Aa l0;have b6:=Aa r0;have b7:=Aa rf;have HZ:=Aa hz;have HY:=Aa hy;have b2:=Aa M;have a8:=Aa L;have D:=Aa bW;have b8:=Aa H;clear hz hy M L r0 rf bW H
 go_enter func259,ntmps259
 go_upto_region 1 with fail
 rw [<- z];clear z;go_wp2_with fail
 refine (Jc ao cap ls W (HZ.o.below D.o) (by omega)).m ?_
 rintro e Y ⟨a1,R,rfl,o1,G⟩;have d2:=b8.o
 have P1:PA w.heap.size Y.heap.size ao cap ls.length ls a1 R (Y.alloc (.cells #[qf a1 ls.length R] 38)):=fH ((G.cell (p:=⟨w.heap.size,0,none⟩) (by show w.heap.size<W.heap.size;omega)).t b0.o) ((G.cell (p:=⟨w.heap.size+1,0,none⟩) (by show w.heap.size+1<W.heap.size;omega)).t b6.o) ((G.frozen (p:=⟨w.heap.size+1,0,none⟩) (by show w.heap.size+1<W.heap.size;omega)).t b7.o) (Bz o1 (by omega))
 have q1:=next D.o G;obtain ⟨V,hV⟩:=A0 (Y.alloc (.cells #[qf a1 ls.length R] 38))
 have qV:BW w V:=by rw [hV];exact q1.alloc q1.size _
 have u:qj (PA w.heap.size Y.heap.size ao cap ls.length ls a1 R V):=by rw [qj,hV];exact P1
 obtain ⟨B,v⟩:=A0 Y.heap.size;clear P1 q1 o1 G l0 d2;go_upto_region 2 with fail
 rw [<- hV,<- v];rw [<- v] at u;clear hV v;go_wp2
 go_loopw [7,14] (λv7 i wr=>∃ (k:Nat) (d:List Ln) (a2:qm) (S:Nat),k<=es.length/\i=qzI k/\v7=.bool true/\Dk ls es=Dk d (es.drop k)/\PA w.heap.size B ao cap ls.length d a2 S wr/\(d.length<=1048576/\∀ x ∈ d,N3 x)/\BW w wr) (λ_ i _=>es.length - (intOf i).toNat)
 case atStart=>exact ⟨0,ls,a1,R,qw _,rfl,rfl,rfl,u.o,⟨hn,b2.o⟩,qV⟩
 case round =>
  obtain ⟨k,d,a2,S,hk,rfl,rfl,O,N,⟨c9,J⟩,q⟩:=hrel;have h:=Aa N;have a7:=Aa J;have r:=Aa O;clear N J O u qV
  by_cases hlt:k<es.length
  ·have d1:(k:Int)<(es.length:Int):=by omega
   obtain ⟨b,off,rfl,d3,y1,y2,y3,y4⟩:=(HY.o.below q).at hlt;have C:=Xa d es k hlt;have A:=a8.o _ (Aba hlt);obtain ⟨⟨a,n,c,m⟩,hx⟩:∃ x,Mn es k=x:=⟨_,rfl⟩;rw [hx] at y1 y2 y3 y4 C A
   simp only at y1 y2 y3 y4
   have j:=Aa (r.o.t C);have a9:=Aa A;obtain ⟨U,y⟩:=A0 (wr.alloc (.cells #[qzI a,qzI n,qzI c,qzI m] 217))
   have bU:BW wr U:=by rw [y];go_grown
   have u0:U.cell? ⟨wr.heap.size,0,none⟩=some (qzI a):=by rw [y];simp
   have u1:U.cell? ⟨wr.heap.size,1,none⟩=some (qzI n):=by rw [y];simp
   have u2:U.cell? ⟨wr.heap.size,2,none⟩=some (qzI c):=by rw [y];simp
   have u3:U.cell? ⟨wr.heap.size,3,none⟩=some (qzI m):=by rw [y];simp
   have s:=Aa (h.o.below bU);have c6:=s.o.c6;have qU:=next q bU;have a6:=Aa (qs U _ c6);clear C A hx bU q;go_upto_region 5 with fail
   rw [<- y];clear y y1 y2 y3 y4;go_wp2_with fail
   refine (Oy a2 S d a n c m U (Eb s.o.own) c9 a7.o a9.o).m ?_;rintro e w2 ⟨a3,k3,rfl,o3,b3⟩;have Z:=s.o.below b3;have d6:=Z.c6;have f6:=Z.f6;have q3:=next qU b3;have I:=a6.o;have g:=Aa (Z.put o3 I);have c8:=h.o.hB
   have T:Below w.heap.size w (w2.setCell (qzA B 0) (qf a3 (Nb d (a,n,c,m)).length k3)):=q3.setCell (by show w.heap.size<=B;omega) _
   clear Z o3 b3 q3 I c6 u0 u1 u2 u3 qU c8
   cases hok:Cz d (a,n,c,m)
   ·rw [hok] at j
    have F:=Aa j.o;have b4:=Aa (Jq hok);rw [b4.o] at g T ⊢;clear j hok;obtain ⟨X,hX⟩:=A0 (w2.setCell (qzA B 0) (qf a3 d.length k3));rw [<- hX] at g T;have l4:=g.o.l0;have b9:=Aa (HZ.o.below T);go_upto_region 7 with fail
    rw [<- hX];clear hX d6 f6;go_wp2_with fail
    refine (Jc ao cap ls X b9.o (by omega)).m ?_
    rintro e w5 ⟨a5,k5,rfl,o5,b5⟩;have P5:=g.o.below b5;have r5:=P5.r0;have d4:=P5.rf
    have HE:qj (Nd w (Ke ls es) (allOk ls es) (.returned (.tuple #[.agg #[qf a5 ls.length k5],.bool false])) (w5.setCell ⟨w.heap.size+1,0,none⟩ (qf a5 ls.length k5))):=by
     have h1:allOk ls es=false:=by unfold allOk;rw [F.o];rfl
     have h2:Ke ls es=ls:=by unfold Ke;rw [F.o];rfl
     rw [qj,h1];exact Vl (w:=w) h2 o5 (qs X _ g.o.r0) (next T b5)
    clear o5 b5 P5 l4;go_wp2
    refine bodyPost_ret (by simp [results,results259,go_sem,r5];try rfl) rfl ?_
    exact HE.o
   ·have l:=S4 hok
    rw [hok] at j
    have HN:qj (Dk ls es=Dk (Nb d (a,n,c,m)) (es.drop (k+1))):=by rw [qj,j.o,l.1];rfl
    have a4:qj ((Nb d (a,n,c,m)).length<=1048576/\∀ x ∈ Nb d (a,n,c,m),N3 x):=by
     rw [l.1]
     exact ⟨by have:=(Et l.2).2.1;omega,fP l.2⟩
    clear j hok l
    generalize Nb d (a,n,c,m)=nxt at *
    go_wp2
    go_roundw
    case rel=>exact ⟨k+1,nxt,a3,k3,by omega,by go_num,rfl,HN.o,g.o,a4.o,T⟩
    case measure=>simp [intOf];omega
  ·have d0:k=es.length:=by omega
   subst d0
   have d1:¬ (es.length:Int)<(es.length:Int):=by omega
   have f:Dk ls es=some d:=by rw [r.o,Zw]
   have c6:=h.o.c6;have r0:=h.o.r0;have rf:=h.o.rf
   have HE:qj (Nd w (Ke ls es) (allOk ls es) (.returned (.tuple #[.agg #[qf a2 d.length S],.bool true])) (wr.setCell ⟨w.heap.size+1,0,none⟩ (qf a2 d.length S))):=by
    have h1:allOk ls es=true:=by unfold allOk;rw [f];rfl
    have h2:Ke ls es=d:=by unfold Ke;rw [f];rfl
    rw [qj,h1]
    exact Vl (w:=w) h2 h.o.own (by omega) q
   clear f r;go_wp2
   refine bodyPost_ret (by simp [results,results259,go_sem,r0];try rfl) rfl ?_
   exact HE.o
namespace Kb
theorem zJ {u:ql} {base n size:Nat} {t:TypeId} {v:Value} {xs:List Value} (h:u.ownsRow base t size v n xs):∃ a c,v=qf a n c:=by
 rcases h.2 with ⟨T,h0⟩|⟨g,cap,cw,T,_⟩
 ·exact ⟨none,0,by rw [T,h0]⟩
 ·exact ⟨_,_,T⟩
theorem xJ (g:Nat) (ao:qm) (cap:Nat) (cs:List Cs) (w:ql) (hc:w.cell? (qzA g 0)=some (qf ao cs.length cap)) (D:Cf w ao cs) (hn:cs.length<=1048577) :
  qi 75 #[qf (some (qzA g 0)) 1 1] w λe w'=>∃ a2 H,e=.returned (qf a2 cs.length H) /\
   w'.ownsRow w.heap.size 111 12 (qf a2 cs.length H) cs.length (Am cs)/\BW w w':=by
 have X:=Aa D;clear D
 go_enter func75,ntmps75
 go_wp2;refine wp_loop_rounds 2 ?_;rw [rounds_succ]
 go_wp2_with (at_builtin;refine F5 _ rfl (.tmp 12) (.tmp 13) rfl w.heap.size _ 0 [] rfl (jh _ _ _ _) ao cap cs rfl X.o (by omega) nL ?_;intro v2 J I Z _)
 have q2:=bR.grown Z nL (λk hk=>by cases hk)
 rw [qu,List.nil_append] at I;obtain ⟨a2,H,U⟩:=zJ I;subst U;have S:=Aa I;clear I Z X hc;go_wp2;rw [rounds_succ];go_wp2;go_ret;exact ⟨a2,H,rfl,S.o,q2⟩
theorem Zf {F:Ii} {E:ql->Prop} {G:Nat} (Y:qJ F E G) (ao:qm) (cap:Nat) (rs:Bn) (w:ql) (D:Bw w ao rs) (hn:rs.length<=1048576) (hd:∀ r ∈ rs,r.length<=1048576) :
  qi 76 #[qf ao rs.length cap] w λe w'=>e=.returned (qf (some ⟨w.heap.size,0,none⟩) rs.length rs.length) /\
   w'.ownsRow w.heap.size 9 1 (qf (some ⟨w.heap.size,0,none⟩) rs.length rs.length) rs.length (At rs)/\BW w w':=by
 obtain ⟨i0,hi,z,A,B⟩:=info_parts Zk;have y:=Vt rs.length
 rcases D with rfl|⟨b,off,rfl,hb,f⟩
 ·go_enter func76,ntmps76
  go_wp2_with (refine wpList_make_full _ rfl (.tmp 7) (.tmp 7) 28 rfl w.heap.size 9 i0 _ 1 underlying28 hi z A .i64 .i64 _ _ 0 rfl rfl rfl rfl (by rw [B];omega) (by unfold maxLen;omega) nL ?_;intro w1 d C)
  refine wp_loop_rounds 1 ?_;rw [rounds_succ];go_wp2;go_ret
  exact ⟨rfl,by simpa [madeCells,At] using d,bR.grown C nL (λk hk=>by cases hk)⟩
 ·have HC:=Aa f
  have O:=Aa λ(i:Nat) (u:ql) (h:i<rs.length)=>Y.clone _ u (hd _ (Iz h))
  clear f Y hd
  go_enter func76,ntmps76
  go_wp2_with (refine wpList_make_full _ rfl (.tmp 7) (.tmp 7) 28 rfl w.heap.size 9 i0 _ 1 underlying28 hi z A .i64 .i64 _ _ rs.length rfl rfl rfl rfl (by rw [B];omega) (by unfold maxLen;omega) nL ?_;intro w1 d C)
  rw [y,show List.replicate rs.length ([]:qn)=F9 rs 0 from by simp [F9]] at d
  have x:=bR.grown C nL (λk hk=>by cases hk)
  clear y C
  go_loopw [11] (λi wr=>∃ k:Nat,k<=rs.length/\i=qzI k/\wr.ownsRow w.heap.size 9 1 (qf (some ⟨w.heap.size,0,none⟩) rs.length rs.length) rs.length (At (F9 rs k))/\BW w wr) (λi _=>rs.length - (intOf i).toNat)
  case atStart=>exact ⟨0,qw _,rfl,d,x⟩
  case round =>
   obtain ⟨k,hk,rfl,ho,j⟩:=hrel;clear d x
   by_cases hlt:k<rs.length
   ·have c1:=(j.c b (off+k) hb).t (HC.o k hlt)
    have a3:(k:Int)<(rs.length:Int):=by omega
    have V:=Aa (X6 rs k hlt);have W:=Aa (Qr (F9 rs k) k (Ao rs k))
    have p:=Jj (F9 rs k) k (by rw [aH rs k hk];exact hlt)
    rw [eV rs k hlt] at p
    have q:=Aa λu=>O.o k u hlt
    obtain ⟨s,hf⟩:=Ae (Ao rs k);rw [hf] at c1 V W q;have HO:=Aa ho;have N:=Aa j;have L:=Aa p;clear ho hf j p;go_wp2_with fail
    refine Calls.m (q.o wr) ?_;rintro e J ⟨rfl,p2⟩;have l:=gT HO.o p2
    have c3:J.cell? ⟨w.heap.size,k,none⟩=some (.string ⟨#[]⟩):=by rw [l.cellAt k (by omega)];exact L.o
    have c5:J.frozen? ⟨w.heap.size,k,none⟩=false:=l.frozenAt _
    have HR:qj ((J.setCell ⟨w.heap.size,k,none⟩ (qd s)).ownsRow w.heap.size 9 1 (qf (some ⟨w.heap.size,0,none⟩) rs.length rs.length) rs.length (At (F9 rs (k+1)))):=by
     have R:=(l.stored k (qd s)).1;rw [W.o,V.o] at R;exact R
    have M:=Aa (next N.o p2);clear l p2 c1;go_wp2
    go_roundw
    case rel=>exact ⟨k+1,by omega,by go_num,HR.o,M.o.setCell nL _⟩
    case measure=>simp [intOf];omega
   ·have:k=rs.length:=by omega
    subst this;rw [aT] at ho;go_wp2;go_ret;exact ⟨rfl,ho,j⟩
end Kb
def gK (m:Nat):Cs:=⟨((m:Int)),((m:Int)+1),((m:Int)+1+1),((m:Int)+1+1+1),((m:Int)+1+1+1+1),((m:Int)+1+1+1+1+1),((m:Int)+1+1+1+1+1+1),((m:Int)+1+1+1+1+1+1+1),((m:Int)+1+1+1+1+1+1+1+1),((((m:Int)+1+1+1+1+1+1+1+1+1) % 3 == 0)),((m:Int)+1+1+1+1+1+1+1+1+1+1),((m:Int)+1+1+1+1+1+1+1+1+1+1+1)⟩
def mkC (k n:Nat):List Cs:=(List.range n).map λi=>gK (k+12*i)
theorem Vr (k n:Nat):(mkC k n).length=n:=by simp [mkC]
theorem Ag0 (k n i:Nat) (h:i<n):Bm (mkC k n) i=gK (k+12*i):=by simp [Bm,mkC,h]
def Le (az:List Cs) (k j:Nat):List Cs:=mkC k j++az.drop j
theorem uK (az:List Cs) (k j:Nat) (h:j<=az.length):(Le az k j).length=az.length:=by simp [Le,Vr];omega
theorem oS (az:List Cs) (k:Nat):Le az k 0=az:=by simp [Le,mkC]
theorem uD (az:List Cs) (k:Nat):Le az k az.length=mkC k az.length:=by simp [Le]
theorem nE (az:List Cs) (k j:Nat) (h:j<az.length):(Le az k j).set j (gK (k+12*j))=Le az k (j+1):=by
 unfold Le
 rw [List.set_append,if_neg (by rw [Vr];omega),Vr,Nat.sub_self,jc h,List.set_cons_zero]
 simp [mkC,List.range_succ]
theorem Ac5 (u:ql) (g k:Nat) (D:Cs):u.grownBy (Kq u g k D) (some g):=by
 unfold Kq;exact ((((((((((((An _ g (k*12) _).t (An _ g (k*12+1) _)).t (An _ g (k*12+2) _)).t (An _ g (k*12+3) _)).t (An _ g (k*12+4) _)).t (An _ g (k*12+5) _)).t (An _ g (k*12+6) _)).t (An _ g (k*12+7) _)).t (An _ g (k*12+8) _)).t (An _ g (k*12+9) _)).t (An _ g (k*12+10) _)).t (An _ g (k*12+11) _))
theorem cL (ao:qm) (cap base k:Nat) (cs:List Cs) (w:ql) (ho:w.ownsRow base 111 12 (qf ao cs.length cap) cs.length (Am cs)) (hn:cs.length<=1048576) (W:k<=1099511627) :
  qi 45 #[qf ao cs.length cap,qzI k] w λe w'=>e=.returned (qzI ((k+12*cs.length:Nat):Int))/\w'.ownsRow base 111 12 (qf ao cs.length cap) cs.length (Am (mkC k cs.length))/\w.grownBy w' (Value.slice ao cs.length cap).ownBlock:=by
 rcases ho.2 with ⟨z,M⟩|⟨g,x,cw,z,q⟩
 ·obtain rfl:cs=[]:=qz M
  obtain ⟨rfl,rfl⟩:ao=none/\cap=0:=by simpa using z
  clear z M
  go_enter func45,ntmps45
  go_wp2;refine wp_loop_rounds 1 ?_;rw [rounds_succ];go_wp2;go_ret;exact ⟨rfl,ho,jm _ _⟩
 ·obtain ⟨rfl,rfl⟩:ao=some (qzA g 0)/\cap=x:=by simpa using z
  clear z q
  have s:qj (w.ownsRow base 111 12 (qf (some (qzA g 0)) cs.length cap) cs.length (Am (Le cs k 0))):=by rw [qj,oS];exact ho
  clear ho
  go_enter func45,ntmps45
  go_wp2
  go_loopw [1,5] (λc i wr=>∃ (j:Nat),j<=cs.length/\i=qzI j/\c=qzI ((k+12*j:Nat):Int)/\wr.ownsRow base 111 12 (qf (some (qzA g 0)) cs.length cap) cs.length (Am (Le cs k j))/\w.grownBy wr (some g)) (λ_ i _=>cs.length - (intOf i).toNat)
  case atStart=>exact ⟨0,qw _,rfl,by simp,s.o,jm _ _⟩
  case round =>
   obtain ⟨j,O,rfl,rfl,ho,N⟩:=hrel;clear s;have L:=Aa N;clear N
   by_cases hlt:j<cs.length
   ·have y:(j:Int)<(cs.length:Int):=by omega
    have f:=uK cs k j O
    have d:qj ((Kq wr g j (gK (k+12*j))).ownsRow base 111 12 (qf (some (qzA g 0)) cs.length cap) cs.length (Am (Le cs k (j+1)))):=by
     have h:=ho;rw [<- f] at h
     have r:=Sz (gK (k+12*j)) (k:=j) (by omega) h
     rw [nE cs k j hlt,f] at r;exact r
    have a:qj (wr.grownBy (Kq wr g j (gK (k+12*j))) (some g)):=Ac5 wr g j _;obtain ⟨m,hm⟩:∃ m:Nat,m=k+12*j:=⟨_,rfl⟩
    have H:m<=7696581390:=by omega
    have C:=Aa hm;rw [<- hm] at d a ⊢;unfold Kq gK at d a;clear hm;obtain ⟨ys,A⟩:=Ae (Am (Le cs k j));rw [A] at ho
    have J:ys.length=cs.length*12:=by simpa using ho.1
    have hex:∀ p,p<cs.length*12->∃ v,wr.cell? (qzA g p)=some v:=λp hp=>by
     rw [ho.cellAt p (by omega)]
     exact ⟨_,List.getElem?_eq_getElem (by omega)⟩
    obtain ⟨o0,y0⟩:=hex (j*12) (by omega)
    have z0:wr.frozen? (qzA g (j*12))=false:=ho.frozenAt _
    obtain ⟨o1,y1⟩:=hex (j*12+1) (by omega)
    have z1:wr.frozen? (qzA g (j*12+1))=false:=ho.frozenAt _
    obtain ⟨o2,y2⟩:=hex (j*12+2) (by omega)
    have z2:wr.frozen? (qzA g (j*12+2))=false:=ho.frozenAt _
    obtain ⟨o3,y3⟩:=hex (j*12+3) (by omega)
    have z3:wr.frozen? (qzA g (j*12+3))=false:=ho.frozenAt _
    obtain ⟨o4,y4⟩:=hex (j*12+4) (by omega)
    have z4:wr.frozen? (qzA g (j*12+4))=false:=ho.frozenAt _
    obtain ⟨o5,y5⟩:=hex (j*12+5) (by omega)
    have z5:wr.frozen? (qzA g (j*12+5))=false:=ho.frozenAt _
    obtain ⟨o6,y6⟩:=hex (j*12+6) (by omega)
    have z6:wr.frozen? (qzA g (j*12+6))=false:=ho.frozenAt _
    obtain ⟨o7,y7⟩:=hex (j*12+7) (by omega)
    have z7:wr.frozen? (qzA g (j*12+7))=false:=ho.frozenAt _
    obtain ⟨o8,y8⟩:=hex (j*12+8) (by omega)
    have z8:wr.frozen? (qzA g (j*12+8))=false:=ho.frozenAt _
    obtain ⟨o9,y9⟩:=hex (j*12+9) (by omega)
    have z9:wr.frozen? (qzA g (j*12+9))=false:=ho.frozenAt _
    obtain ⟨X,Z⟩:=hex (j*12+10) (by omega)
    have z10:wr.frozen? (qzA g (j*12+10))=false:=ho.frozenAt _
    obtain ⟨Y,a3⟩:=hex (j*12+11) (by omega)
    have z11:wr.frozen? (qzA g (j*12+11))=false:=ho.frozenAt _;clear hex J ho A f;go_wp2
    go_roundw
    case rel=>exact ⟨j+1,by omega,by go_num,by have:=C.o;congr 1;omega,d.o,L.o.t a.o⟩
    case measure=>simp [intOf];omega
   ·have l:j=cs.length:=by omega
    have y:¬ (j:Int)<(cs.length:Int):=by omega
    subst l
    have S:qj (wr.ownsRow base 111 12 (qf (some (qzA g 0)) cs.length cap) cs.length (Am (mkC k cs.length))):=by rw [qj,<- uD];exact ho
    clear ho;go_wp2;go_ret;exact ⟨rfl,S.o,L.o⟩
theorem Y3 (ao:qm) (cap n k:Nat) (w:ql) (R:Cf w ao (mkC k n)) (hn:n<=1048576) (W:k<=1099511627) :
  qi 51 #[qf ao n cap,qzI k] w (qr (qzI ((k+12*n:Nat):Int)) w):=by
 have T:=Aa R;clear R
 go_enter func51,ntmps51
 go_wp2
 go_loopw [1,5] (λc i wr=>∃ j:Nat,j<=n/\i=qzI j/\c=qzI ((k+12*j:Nat):Int)/\wr=w) (λ_ i _=>n - (intOf i).toNat)
 case atStart=>exact ⟨0,qw _,rfl,rfl,rfl⟩
 case round =>
  obtain ⟨j,O,rfl,rfl,I⟩:=hrel;subst I
  by_cases hlt:j<n
  ·have y:(j:Int)<(n:Int):=by omega
   obtain ⟨b,off,rfl,hb,B⟩:=T.o.at (k:=j) (by rw [Vr];exact hlt)
   rw [Ag0 k n j hlt] at B;obtain ⟨m,hm⟩:∃ m:Nat,k+12*j=m:=⟨_,rfl⟩;rw [hm] at B ⊢;unfold gK at B;obtain ⟨c0,c1,c2,c3,c4,c5,c6,c7,U,V,F,G⟩:=B
   simp only at c0 c1 c2 c3 c4 c5 c6 c7 U V F G
   have H:m<=7696581390:=by omega
   have C:qj (k+12 * (j+1)=m+1+1+1+1+1+1+1+1+1+1+1+1):=by rw [qj];omega
   have n0:(((m:Int)) != ((m:Int)))=false:=by simp
   have n1:(((m:Int)+1) != ((m:Int)+1))=false:=by simp
   have n2:(((m:Int)+1+1) != ((m:Int)+1+1))=false:=by simp
   have n3:(((m:Int)+1+1+1) != ((m:Int)+1+1+1))=false:=by simp
   have n4:(((m:Int)+1+1+1+1) != ((m:Int)+1+1+1+1))=false:=by simp
   have n5:(((m:Int)+1+1+1+1+1) != ((m:Int)+1+1+1+1+1))=false:=by simp
   have n6:(((m:Int)+1+1+1+1+1+1) != ((m:Int)+1+1+1+1+1+1))=false:=by simp
   have n7:(((m:Int)+1+1+1+1+1+1+1) != ((m:Int)+1+1+1+1+1+1+1))=false:=by simp
   have n8:(((m:Int)+1+1+1+1+1+1+1+1) != ((m:Int)+1+1+1+1+1+1+1+1))=false:=by simp
   have n9:(((((m:Int)+1+1+1+1+1+1+1+1+1) % 3 == 0)) != ((((m:Int)+1+1+1+1+1+1+1+1+1) % 3 == 0)))=false:=by simp
   have n10:(((m:Int)+1+1+1+1+1+1+1+1+1+1) != ((m:Int)+1+1+1+1+1+1+1+1+1+1))=false:=by simp
   have n11:(((m:Int)+1+1+1+1+1+1+1+1+1+1+1) != ((m:Int)+1+1+1+1+1+1+1+1+1+1+1))=false:=by simp
   clear hm;go_wp2
   go_roundw
   case rel=>exact ⟨j+1,by omega,by go_num,by rw [C.o];go_num,trivial⟩
   case measure=>simp [intOf];omega
  ·have l:j=n:=by omega
   subst l;go_wp2;go_ret;exact ⟨rfl,rfl⟩
structure FrB (q:Bp) (n:Nat):Prop where
 o:Df q.o n
 a:Df q.a n
 c:Df q.c n
 l:Df q.l n
 g:Df q.g n
theorem Mo {a:qm} {n m:Nat} (h:Df a n) (hm:m<=n):Df a m:=λx hx=>by have:=h x hx;omega
theorem dK {a a1:qm} {n m:Nat} (h:a=a1\/Df a n) (h1:Df a1 m) (hm:m<=n):Df a m:=by
 rcases h with rfl|h
 ·exact h1
 ·exact Mo h hm
def BoF (Rel:Bk->qn->Bk×Int->Prop) (b:Bk) (d:qn) (w:ql) (e:Ending) (w':ql):Prop :=
 ∃ r q,Ia Rel b d r/\e=.returned (.tuple #[Fx r.1 q,qzI r.2])/\Az w' r.1 q/\BW w w'/\FrB q w.heap.size
theorem dY {j1:Bk->Prop} {Rel:Bk->qn->Bk×Int->Prop} {Ln:qn->Prop} (D:qC j1 Rel Ln) (b:Bk) (p:Bp) (d:qn) (w:ql) (hx:Az w b p) (hp:j1 b) (hl:d.length<=1048575) (hL:Ln d) :
  qi 26 #[Fx b p,qd d] w (BoF Rel b d w):=by
 have hn:=D.small b hp;have i4:=Aa hp;clear hp
 have HX:=Aa λu (h:BW w u)=>hx.below h
 have HN:=Aa hn
 have a9:=Aa λu (h:BW w u)=>Uu b p u (hx.below h) hn
 clear hx hn;obtain ⟨td,fo,az,cs,ls,G⟩:=b;obtain ⟨o,oc,a,ac,c,cc,l,lc,g,gc⟩:=p;unfold Fx at a9 ⊢
 simp only at a9 ⊢
 obtain ⟨u0,a6⟩:=A0 (((w.alloc (.cells #[qzI td,qf o fo.length oc,qf a az.length ac,qf c cs.length cc,qf l ls.length lc,qf g G.length gc] 40))).alloc (.cells qzB 40))
 have c8:qj (BW w u0):=by rw [qj,a6];go_grown
 have i5:qj ((w.heap.size+1)<u0.heap.size):=by rw [qj,a6];simp
 have g0:qj (Z6 w.heap.size (qzI td) (qf o fo.length oc) (qf a az.length ac) (qf c cs.length cc) (qf l ls.length lc) (qf g G.length gc) u0):=by
  rw [qj,a6];exact ((Z6.new w (qzI td) (qf o fo.length oc) (qf a az.length ac) (qf c cs.length cc) (qf l ls.length lc) (qf g G.length gc) 40)).below (bR.alloc nL _)
 have d5:qj (Z6 (w.heap.size+1) (qzI 0) qe qe qe qe qe u0):=by
  have h:=Z6.new ((w.alloc (.cells #[qzI td,qf o fo.length oc,qf a az.length ac,qf c cs.length cc,qf l ls.length lc,qf g G.length gc] 40))) (qzI 0) qe qe qe qe qe 40
  rw [qj,a6];simpa using h
 have i7:=Aa a6;clear a6
 go_enter func26,ntmps26
 go_upto_region 1 with fail
 rw [<- i7.o];clear i7
 have m6:G.length<=1048576:=by have:=HN.o.2.2.2.2;simpa using this
 obtain ⟨t0,t1,t2,t3,t4,t5,s0,s1,s2,s3,s4,s5⟩:=g0.o;obtain ⟨q0,q1,q2,q3,q4,q5,p0,p1,p2,p3,p4,p5⟩:=d5.o;go_wp2_with fail
 refine Calls.m (a9.o _ c8.o) ?_;rintro e u1 ⟨⟨q1,base,rfl,j3,g7,k9,j4,J,i⟩,b1⟩;obtain ⟨o1,C,a1,v,c1,y,l1,A,g1,z⟩:=q1;unfold Fx
 simp only at g7 J i ⊢
 have g3:=Aa (g0.o.below b1);have d6:=Aa (d5.o.below b1);have h0:=Aa (next c8.o b1);have h5:=Aa j3;have h8:=Aa g7;have a4:=i5.o
 have k4:qj (iD ⟨o1,C,a1,v,c1,y,l1,A,g1,z⟩ w.heap.size):=⟨Bb i.1 (by omega),Bb i.2.1 (by omega),Bb i.2.2.1 (by omega),Bb i.2.2.2.1 (by omega),Bb i.2.2.2.2 (by omega)⟩
 have d4:qj (iD ⟨o1,C,a1,v,c1,y,l1,A,g1,z⟩ (w.heap.size+1)):=⟨Bb i.1 a4,Bb i.2.1 a4,Bb i.2.2.1 a4,Bb i.2.2.2.1 a4,Bb i.2.2.2.2 a4⟩;have a7:=Aa J
 have d2:qj (FrB ⟨o1,C,a1,v,c1,y,l1,A,g1,z⟩ w.heap.size):=⟨Mo i.1 (by omega),Mo i.2.1 (by omega),Mo i.2.2.1 (by omega),Mo i.2.2.2.1 (by omega),Mo i.2.2.2.2 (by omega)⟩
 have d0:qj (w.heap.size+1<base/\base<=u1.heap.size):=⟨by omega,j4⟩
 clear t0 t1 t2 t3 t4 t5 s0 s1 s2 s3 s4 s5 q0 q1 q2 q3 q4 q5 p0 p1 p2 p3 p4 p5 g0 d5 c8 i5 a9 b1 j3 g7 J i k9 j4 a4;obtain ⟨t0,t1,t2,t3,t4,t5,s0,s1,s2,s3,s4,s5⟩:=g3.o;obtain ⟨q0,q1,q2,q3,q4,q5,p0,p1,p2,p3,p4,p5⟩:=d6.o;go_upto_region 2 with fail
 obtain ⟨u2,M⟩:=A0 ((((((u1.setCell ⟨w.heap.size,0,none⟩ (qzI td)).setCell ⟨w.heap.size,1,none⟩ (qf o1 fo.length C)).setCell ⟨w.heap.size,2,none⟩ (qf a1 az.length v)).setCell ⟨w.heap.size,3,none⟩ (qf c1 cs.length y)).setCell ⟨w.heap.size,4,none⟩ (qf l1 ls.length A)).setCell ⟨w.heap.size,5,none⟩ (qf g1 G.length z))
 have g4:qj (Z6 w.heap.size (qzI td) (qf o1 fo.length C) (qf a1 az.length v) (qf c1 cs.length y) (qf l1 ls.length A) (qf g1 G.length z) u2):=by rw [qj,M];exact g3.o.put6 _ _ _ _ _ _
 have d7:qj (Z6 (w.heap.size+1) (qzI 0) qe qe qe qe qe u2):=by rw [qj,M];exact d6.o.far6 (by omega) _ _ _ _ _ _
 have c9:qj (BW w u2):=by rw [qj,M];exact Bj nL h0.o _ _ _ _ _ _
 have b0:qj (Az u2 ⟨td,fo,az,cs,ls,G⟩ ⟨o1,C,a1,v,c1,y,l1,A,g1,z⟩):=by rw [qj,M];exact h5.o.put6 k4.o _ _ _ _ _ _
 have b4:qj (u2.ownsRow base 9 1 (qf g1 G.length z) G.length (At G)):=by rw [qj,M];exact Es h8.o (by have:=d0.o;omega) _ _ _ _ _ _
 have k:qj (w.heap.size+1<base/\base<=u2.heap.size):=by rw [qj,M];simpa using d0.o
 rw [<- M];clear M g3 d6 h0 h5 h8 d0 t0 t1 t2 t3 t4 t5 s0 s1 s2 s3 s4 s5 q0 q1 q2 q3 q4 q5 p0 p1 p2 p3 p4 p5;obtain ⟨t0,t1,t2,t3,t4,t5,s0,s1,s2,s3,s4,s5⟩:=g4.o;obtain ⟨q0,q1,q2,q3,q4,q5,p0,p1,p2,p3,p4,p5⟩:=d7.o
 by_cases hfull:600<=G.length
 ·have l3:(600:Int)<=(G.length:Int):=by omega
  go_wp2
  refine bodyPost_ret (by simp [results,results26,go_sem,q0,q1,q2,q3,q4,q5];try rfl) rfl ?_
  exact ⟨(⟨td,fo,az,cs,ls,G⟩,2),⟨o1,C,a1,v,c1,y,l1,A,g1,z⟩,.inl ⟨hfull,rfl⟩,rfl,b0.o.put6 d4.o _ _ _ _ _ _,Bj (by omega) c9.o _ _ _ _ _ _,d2.o⟩
 have l3:¬ (600:Int)<=(G.length:Int):=by omega
 have g9:rO ⟨o1,C,a1,v,c1,y,l1,A,g1,z⟩ u2.heap.size:=⟨a7.o.1.m k.o.2,a7.o.2.1.m k.o.2,a7.o.2.2.1.m k.o.2,a7.o.2.2.2.m k.o.2,Jh b4.o nL⟩;have HD:=Aa (D.calls ⟨td,fo,az,cs,ls,G⟩ ⟨o1,C,a1,v,c1,y,l1,A,g1,z⟩ d u2 b0.o g9 i4.o hl hL);clear g9;have h7:=Aa (D.log ⟨td,fo,az,cs,ls,G⟩ d);unfold Fx at HD
 simp only at HD
 go_wp2_with fail
 refine Calls.m HD.o ?_;rintro e F ⟨⟨⟨X,T,R,S,W,f⟩,code⟩,hrel,q2,rfl,g6,j6,b8,g8,b3⟩;obtain ⟨o2,O,a2,H,c2,I,l2,N,g2,j⟩:=q2
 simp only at j6 b8 g8 hrel g6
 obtain rfl:f=G:=h7.o _ hrel;subst j6;subst b8;unfold Fx
 simp only
 have b7:=Aa hrel;have k3:=Aa g6;have k6:=Aa g8;obtain ⟨V,hV⟩:=A0 (F.alloc (.cells #[qzI X,qf o2 T.length O,qf a2 R.length H,qf c2 S.length I,qf l2 W.length N,qf g2 f.length j] 40))
 have bV:BW F V:=by rw [hV];exact bR.alloc nL _
 have HT:qj (Z6 F.heap.size (qzI X) (qf o2 T.length O) (qf a2 R.length H) (qf c2 S.length I) (qf l2 W.length N) (qf g2 f.length j) V):=by rw [qj,hV];exact Z6.new F (qzI X) (qf o2 T.length O) (qf a2 R.length H) (qf c2 S.length I) (qf l2 W.length N) (qf g2 f.length j) 40
 have i6:qj (∃ cw,V.heap[F.heap.size]?=some (.cells cw 40)):=by rw [qj,hV];exact ⟨_,heap_alloc_new F _⟩
 have a3:=next b3 bV;have i8:=Aa (g4.o.below a3);have d8:=Aa (d7.o.below a3);have a8:=Aa (next c9.o a3);have h6:=Aa (b0.o.below a3);have h9:=Aa (A5 b4.o a3)
 have b2:qj (∀ B,(Value.slice g2 f.length j).ownBlock=some B->base<=B/\B<u2.heap.size):=λB h=>b4.o.lt B h
 have k1:qj (∀ row,F.grownBy V row):=λrow=>by rw [hV];exact World.grownBy_alloc F _ row
 have d9:qj (w.heap.size+1<base/\base<=u2.heap.size/\u2.heap.size<=F.heap.size/\F.heap.size<V.heap.size):=⟨k.o.1,k.o.2,b3.size,HT.o.lt⟩;have HV:qj _:=hV;clear hV bV b3 a3 g6 g8 hrel g4 d7 c9 b0 b4 k HD t0 t1 t2 t3 t4 t5 s0 s1 s2 s3 s4 s5 q0 q1 q2 q3 q4 q5 p0 p1 p2 p3 p4 p5;go_upto_region 5 with fail
 rw [<- HV.o];clear HV
 by_cases hcode:code=0
 case neg =>
  have m5:(code != 0)=true:=by simpa using hcode
  obtain ⟨t0,t1,t2,t3,t4,t5,s0,s1,s2,s3,s4,s5⟩:=i8.o;obtain ⟨q0,q1,q2,q3,q4,q5,p0,p1,p2,p3,p4,p5⟩:=d8.o;go_wp2
  refine bodyPost_ret (by simp [results,results26,go_sem,q0,q1,q2,q3,q4,q5];try rfl) rfl ?_
  exact ⟨(⟨td,fo,az,cs,ls,f⟩,code),⟨o1,C,a1,v,c1,y,l1,A,g2,j⟩,.inr ⟨by show f.length<600;omega,_,b7.o,.inl ⟨hcode,rfl⟩⟩,rfl,h6.o.put6 d4.o _ _ _ _ _ _,Bj (by omega) a8.o _ _ _ _ _ _,d2.o⟩
 subst hcode;obtain ⟨i0,hi,l6,l7,l8⟩:=info_parts Zk;have t5:=(HT.o.below (bR.alloc nL (.cells #[qd d] 9))).c5;have l9:=HT.o.c5;obtain ⟨Y,j2⟩:=Ae (f++[d]);have d1:=Aa j2;clear j2
 have HP:qj (∀ v5 w5,w5.ownsRow base 9 1 v5 (f.length+1) (At f++[qd d])->(V.alloc (.cells #[qd d] 9)).grownBy w5 (Value.slice g2 f.length j).ownBlock ->
   ∃ Z k5,v5=qf Z Y.length k5/\w5.ownsRow base 9 1 (qf Z Y.length k5) Y.length (At Y)/\Z6 F.heap.size (qzI X) (qf o2 T.length O) (qf a2 R.length H) (qf c2 S.length I) (qf l2 W.length N) (qf g2 f.length j) w5/\Z6 (w.heap.size+1) (qzI 0) qe qe qe qe qe w5/\F.grownBy w5 (Value.slice g2 f.length j).ownBlock/\BW w w5/\Ir Z F.heap.size):=by
  intro v5 w5 o5 g5;have j9:=d9.o
  have j7:some F.heap.size≠(Value.slice g2 f.length j).ownBlock:=λe=>by have:=b2.o _ e.s;omega
  have j8:some (w.heap.size+1)≠(Value.slice g2 f.length j).ownBlock:=λe=>by have:=b2.o _ e.s;omega
  have ga:=World.grownBy_alloc V (.cells #[qd d] 9) (Value.slice g2 f.length j).ownBlock;have gv:=ga.t g5
  have e1:f.length+1=Y.length:=by rw [<- d1.o];simp
  have e2:At f++[qd d]=At Y:=by rw [<- d1.o,H0];rfl
  rw [e1,e2] at o5;obtain ⟨Z,k5,hv⟩:=Jd o5;subst hv
  refine ⟨Z,k5,rfl,o5,HT.o.grown gv j7,d8.o.grown gv j8,(k1.o _).t gv,a8.o.grown gv a8.o.size (λB hB=>by have:=b2.o B hB;omega),?_⟩
  intro x hx e;subst hx;obtain ⟨cw,j5⟩:=i6.o;have hT:w5.heap[F.heap.size]?=some (.cells cw 40):=(gv.block _ j9.2.2.2 j7).t j5
  rcases o5.2 with ⟨h,_⟩|⟨g,cap,cr,h,_,hg,_⟩
  ·cases h
  ·have l5:x.block=g:=by
     injection h with h _ _
     injection h with h
     rw [h]
   rw [<- l5,e,hT] at hg
   injection hg with hg
   injection hg with _ h2
   exact absurd h2 (by decide)
 have i2:qj ((V.alloc (.cells #[qd d] 9)).ownsRow base 9 1 (qf g2 f.length j) f.length (At f)):=h9.o.alloc _
 go_upto_region 8 with (at_builtin;refine wpList_append_own _ rfl (.tmp 26) (.tmp 28) 28 rfl base 9 i0 (.string ⟨#[]⟩) 1 16 underlying28 hi l6 l7 l8 rfl (by decide) _ _ _ rfl i2.o ⟨V.heap.size,0,none⟩ 1 1 [qd d] rfl rfl (World.news_of_block (heap_alloc_new V _)) (W9 _) (by unfold maxLen;omega) (by omega) (by have:=d9.o;simp;omega) ?_;intro v5 w5 o5 g5 _;obtain ⟨Z,k5,l4,o6,zt,zr,gg,bb,b9⟩:=HP.o v5 w5 o5 g5;subst l4;have y5:=zt.c5;have f5:=zt.z5;have i1:qj _:=o6;have j0:qj _:=zt;have i9:qj _:=zr;have h4:qj _:=gg;have h3:qj _:=bb;have i3:qj _:=b9;clear o5 g5 o6 zt zr gg bb b9)
 obtain ⟨u6,U⟩:=A0 (w5.setCell ⟨F.heap.size,5,none⟩ (qf Z Y.length k5));have j9:=d9.o
 have k8:qj (Z6 F.heap.size (qzI X) (qf o2 T.length O) (qf a2 R.length H) (qf c2 S.length I) (qf l2 W.length N) (qf Z Y.length k5) u6):=by rw [qj,U];exact j0.o.set5 _
 have k7:qj (Z6 (w.heap.size+1) (qzI 0) qe qe qe qe qe u6):=by rw [qj,U];exact i9.o.far (by omega)
 have k0:qj (BW w u6):=by rw [qj,U];exact h3.o.setCell (show w.heap.size<=F.heap.size by omega) _
 have k2:qj (F.grownBy u6 (Value.slice g2 f.length j).ownBlock):=by rw [qj,U];exact nR h4.o nL
 have d3:qj (u6.ownsRow base 9 1 (qf Z Y.length k5) Y.length (At Y)):=by
  rw [qj,U];refine World.ownsRow.kept i1.o (An _ _ _ _) ?_
  by_cases e:(Value.slice Z Y.length k5).ownBlock=none
  ·exact .inl e
  ·refine .inr λe2=>?_
   cases Z with
   | none=>simp [Value.ownBlock] at e
   | some x =>
    have hx:x.block=F.heap.size:=by simpa [Value.ownBlock] using e2
    exact i3.o x rfl hx
 rw [<- U];clear U j0 i9 h3 h4 i1 i3 i2 HP y5 f5 t5 l9 HT i6 i8 d8 a8 h6 h9;obtain ⟨t0,t1,t2,t3,t4,t5,-,-,-,-,-,-⟩:=k8.o;obtain ⟨q0,q1,q2,q3,q4,q5,p0,p1,p2,p3,p4,p5⟩:=k7.o;go_wp2
 refine bodyPost_ret (by simp [results,results26,go_sem,q0,q1,q2,q3,q4,q5];try rfl) rfl ?_
 obtain ⟨pe,pa,pc,pl⟩:=k6.o;have hK:=k3.o;have J:=a7.o;have b6:=d4.o;have b5:=k2.o;have L:=b2.o
 have HF:Az u6 ⟨X,T,R,S,W,Y⟩ ⟨o2,O,a2,H,c2,I,l2,N,Z,k5⟩ :=
  ⟨hK.off.far b5 (λB e=>Sm (.inl pe) J.1 (L B e).1 (L B e).2),hK.az.far b5 (λB e=>Sm pa J.2.1 (L B e).1 (L B e).2),hK.cs.far b5 (λB e=>Sm pc J.2.2.1 (L B e).1 (L B e).2),hK.ls.far b5 (λB e=>Sm pl J.2.2.2 (L B e).1 (L B e).2),G5 d3.o⟩
 have HQ:iD ⟨o2,O,a2,H,c2,I,l2,N,Z,k5⟩ (w.heap.size+1) :=
  ⟨Pa (n:=u2.heap.size) (.inl pe) b6.o (by omega),Pa pa b6.a (by omega),Pa pc b6.c (by omega),Pa pl b6.l (by omega),Bb (D9 d3.o) (by omega)⟩
 refine ⟨(⟨X,T,R,S,W,Y⟩,0),⟨o2,O,a2,H,c2,I,l2,N,Z,k5⟩,.inr ⟨by show f.length<600;omega,_,b7.o,.inr ⟨rfl,by rw [<- d1.o]⟩⟩,rfl,HF.put6 HQ _ _ _ _ _ _,Bj (by omega) k0.o _ _ _ _ _ _,?_⟩
 have i:=d2.o
 exact ⟨pe ▸ i.o,dK pa i.a (by omega),dK pc i.c (by omega),dK pl i.l (by omega),Mo (D9 d3.o) (by omega)⟩
end Go.Proofs.YtfpafnefpmmofaaGreatDoor
