import Derived.Test.YtfpafnefpmmofaaGreatDoorJW6a
namespace Go.Proofs.YtfpafnefpmmofaaGreatDoor
open Go.RowKit Go.Proofs.Tryz
set_option maxRecDepth 100000
set_option maxHeartbeats 12800000
theorem DB.new (w:ql) (c:Cs) (a:Ac) (t:Int) (o e:Value) (ty:TypeId):DB w.heap.size c a t o e (w.alloc (.cells #[qzI c.iss,qzI c.acq,qzI c.cur,qzI c.am,qzI c.st,qzI c.rsn,qzI c.cl,qzI c.bk,qzI c.fee,.bool c.cop,qzI c.sta,qzI c.due,qzI a.kind,qzI a.am,qzI a.rsn,qzI t,o,e] ty)):=by
 exact ⟨⟨by simp,by simp,by simp,by simp,by simp,by simp,by simp,by simp,by simp,by simp,by simp,by simp⟩,by simp,by simp,by simp,by simp,by simp,by simp,(by constructor<;>simp [go_sem, *]),by simp [go_sem]⟩
theorem iDo_any (c:Cs) (a:Ac) (t:Int) (ao:qm) (cp:Nat) (zs:List Int) (w:ql) (hx:Bg w ao zs) (hn:zs.length<=1099511627776) (ht:Fn w) (hg:14<w.heap.size) (hc:(Lit.int .i64 c.cur).wf=true) :
  qi 223 #[cv c,av a,qzI t,qf ao zs.length cp] w (DoR w (doC c a t zs) (doE c a t zs) (doV c a t zs)):=by
 obtain ⟨W,hW⟩:=A0 (((w.alloc (.cells #[qzI c.iss,qzI c.acq,qzI c.cur,qzI c.am,qzI c.st,qzI c.rsn,qzI c.cl,qzI c.bk,qzI c.fee,.bool c.cop,qzI c.sta,qzI c.due] 111)).alloc (.cells #[qzI a.kind,qzI a.am,qzI a.rsn] 149)).alloc (.cells #[qzI 0,qzI 0,qzI 0,qzI 0,qzI 0,qzI 0,qzI 0,qzI 0,qzI 0,.bool false,qzI 0,qzI 0] 111))
 have HX:qj (BX w.heap.size c a W):=by rw [qj,hW];exact BX.new w c a _ _ _
 have d2:qj (BW w W):=by rw [qj,hW];go_grown
 have HI:=Aa hx;have HT:=Aa ht;have HG:=Aa hg
 have a8:qj (∀ u,qi 258 #[cv c] u λe w'=>e=.returned (.bool (Aq c))/\BW u w'):=λu=>N5 c u hc
 have d3:=Aa hc;obtain ⟨l,i,h,am,st,p,cl,bk,f,j,d,k⟩:=c;unfold cv av;unfold cv at a8
 simp only at hW a8 d3 ⊢
 have HW:qj _:=hW;clear hx ht hg hc hW
 go_enter func223,ntmps223
 go_upto_region 1 with fail
 rw [<- HW.o];clear HW;obtain ⟨⟨f0,f1,f2,f3,f4,f5,f6,f7,f8,f9,f10,f11⟩,H,k1,k2,⟨J,L,M,N,O,R,S,T,U,X,y,z⟩,⟨z0,z1,z2,z3,z4,z5,z6,z7,z8,z9,z10,z11⟩⟩:=HX.o
 simp only [qu,Ct] at f0 f1 f2 f3 f4 f5 f6 f7 f8 f9 f10 f11 J L M N O R S T U X y z z0 z1 z2 z3 z4 z5 z6 z7 z8 z9 z10 z11
 go_wp2_with fail
 refine (a8.o _).m ?_;rintro e w1 ⟨rfl,A⟩;have a9:=Aa (HX.o.below A);have Y:=Aa (next d2.o A);clear A f0 f1 f2 f3 f4 f5 f6 f7 f8 f9 f10 f11 J L M N O R S T U X y z z0 z1 z2 z3 z4 z5 z6 z7 z8 z9 z10 z11 H k1 k2 HX d2;obtain ⟨⟨f0,f1,f2,f3,f4,f5,f6,f7,f8,f9,f10,f11⟩,H,k1,k2,⟨J,L,M,N,O,R,S,T,U,X,y,z⟩,⟨z0,z1,z2,z3,z4,z5,z6,z7,z8,z9,z10,z11⟩⟩:=a9.o
 simp only [qu,Ct] at f0 f1 f2 f3 f4 f5 f6 f7 f8 f9 f10 f11 J L M N O R S T U X y z z0 z1 z2 z3 z4 z5 z6 z7 z8 z9 z10 z11
 cases h1:Aq ⟨l,i,h,am,st,p,cl,bk,f,j,d,k⟩
 ·have C:qj (doV ⟨l,i,h,am,st,p,cl,bk,f,j,d,k⟩ a t zs=5):=if_pos (by simp [Fm,h1])
  have Z:qj (doC ⟨l,i,h,am,st,p,cl,bk,f,j,d,k⟩ a t zs=⟨l,i,h,am,st,p,cl,bk,f,j,d,k⟩):=if_neg (by rw [C.o];decide)
  have HE:qj (doE ⟨l,i,h,am,st,p,cl,bk,f,j,d,k⟩ a t zs=[]):=if_neg (by rw [C.o];decide)
  clear h1;go_wp2
  refine bodyPost_ret (by simp [results,results223,go_sem,J,L,M,N,O,R,S,T,U,X,y,z];try rfl) rfl ?_
  rw [Z.o,HE.o,C.o]
  exact Fy (c:=⟨l,i,h,am,st,p,cl,bk,f,j,d,k⟩) (es:=[]) (base:=w.heap.size+1+1+1) (by omega) (jh _ _ _ _) Y.o
 go_wp2_with fail
 refine (Ci t _).m ?_;rintro e w2 ⟨rfl,hw⟩;rw [hw];clear hw
 cases h2:Fh t
 ·have C:qj (doV ⟨l,i,h,am,st,p,cl,bk,f,j,d,k⟩ a t zs=5):=if_pos (by simp [Fm,h2])
  have Z:qj (doC ⟨l,i,h,am,st,p,cl,bk,f,j,d,k⟩ a t zs=⟨l,i,h,am,st,p,cl,bk,f,j,d,k⟩):=if_neg (by rw [C.o];decide)
  have HE:qj (doE ⟨l,i,h,am,st,p,cl,bk,f,j,d,k⟩ a t zs=[]):=if_neg (by rw [C.o];decide)
  clear h1 h2;go_wp2
  refine bodyPost_ret (by simp [results,results223,go_sem,J,L,M,N,O,R,S,T,U,X,y,z];try rfl) rfl ?_
  rw [Z.o,HE.o,C.o]
  exact Fy (c:=⟨l,i,h,am,st,p,cl,bk,f,j,d,k⟩) (es:=[]) (base:=w.heap.size+1+1+1) (by omega) (jh _ _ _ _) Y.o
 by_cases h3:t<d
 ·have C:qj (doV ⟨l,i,h,am,st,p,cl,bk,f,j,d,k⟩ a t zs=5):=if_pos (by have g:¬ d<=t:=(by omega);simp [Fm,g])
  have Z:qj (doC ⟨l,i,h,am,st,p,cl,bk,f,j,d,k⟩ a t zs=⟨l,i,h,am,st,p,cl,bk,f,j,d,k⟩):=if_neg (by rw [C.o];decide)
  have HE:qj (doE ⟨l,i,h,am,st,p,cl,bk,f,j,d,k⟩ a t zs=[]):=if_neg (by rw [C.o];decide)
  clear h1 h2;go_wp2
  refine bodyPost_ret (by simp [results,results223,go_sem,J,L,M,N,O,R,S,T,U,X,y,z];try rfl) rfl ?_
  rw [Z.o,HE.o,C.o]
  exact Fy (c:=⟨l,i,h,am,st,p,cl,bk,f,j,d,k⟩) (es:=[]) (base:=w.heap.size+1+1+1) (by omega) (jh _ _ _ _) Y.o
 have i0:¬ t<d:=h3;go_wp2_with fail
 refine (Ve ao cp zs _ (HI.o.below Y.o) hn).m ?_;rintro e w3 ⟨rfl,hw⟩;rw [hw];clear hw
 cases h4:Dy zs
 ·have C:qj (doV ⟨l,i,h,am,st,p,cl,bk,f,j,d,k⟩ a t zs=5):=if_pos (by simp [Fm,h4])
  have Z:qj (doC ⟨l,i,h,am,st,p,cl,bk,f,j,d,k⟩ a t zs=⟨l,i,h,am,st,p,cl,bk,f,j,d,k⟩):=if_neg (by rw [C.o];decide)
  have HE:qj (doE ⟨l,i,h,am,st,p,cl,bk,f,j,d,k⟩ a t zs=[]):=if_neg (by rw [C.o];decide)
  clear h1 h2 h3 h4;go_wp2
  refine bodyPost_ret (by simp [results,results223,go_sem,J,L,M,N,O,R,S,T,U,X,y,z];try rfl) rfl ?_
  rw [Z.o,HE.o,C.o]
  exact Fy (c:=⟨l,i,h,am,st,p,cl,bk,f,j,d,k⟩) (es:=[]) (base:=w.heap.size+1+1+1) (by omega) (jh _ _ _ _) Y.o
 have a3:qj (Fm ⟨l,i,h,am,st,p,cl,bk,f,j,d,k⟩ t zs=true):=by
  have g:d<=t:=by omega
  simp [qj,Fm,h1,h2,g,h4]
 have d6:=Aa h1;clear h1 h2 h3 h4;go_wp2_with fail
 clear i0;refine (Abo a.kind st _).m ?_;rintro e w3 ⟨rfl,hw⟩;rw [hw];clear hw
 cases h5:Fi st a.kind
 ·have C:qj (doV ⟨l,i,h,am,st,p,cl,bk,f,j,d,k⟩ a t zs=1):=by rw [qj,doV,if_neg (by rw [a3.o];decide),if_pos h5]
  have Z:qj (doC ⟨l,i,h,am,st,p,cl,bk,f,j,d,k⟩ a t zs=⟨l,i,h,am,st,p,cl,bk,f,j,d,k⟩):=if_neg (by rw [C.o];decide)
  have HE:qj (doE ⟨l,i,h,am,st,p,cl,bk,f,j,d,k⟩ a t zs=[]):=if_neg (by rw [C.o];decide)
  clear h5;go_wp2
  refine bodyPost_ret (by simp [results,results223,go_sem,J,L,M,N,O,R,S,T,U,X,y,z];try rfl) rfl ?_
  rw [Z.o,HE.o,C.o]
  exact Fy (c:=⟨l,i,h,am,st,p,cl,bk,f,j,d,k⟩) (es:=[]) (base:=w.heap.size+1+1+1) (by omega) (jh _ _ _ _) Y.o
 have a7:=Aa h5;clear h5;obtain ⟨V,hV⟩:=A0 (w1.alloc (.cells #[qzI l,qzI i,qzI h,qzI am,qzI st,qzI p,qzI cl,qzI bk,qzI f,.bool j,qzI d,qzI k,qzI a.kind,qzI a.am,qzI a.rsn,qzI t,qf ao zs.length cp,qe] 320))
 have bV:BW w1 V:=by rw [hV];exact bR.alloc nL _
 have b4:=Aa Y.o.size;have b9:=Aa a9.o.rb.lt
 have q:qj (DS w1.heap.size ao cp zs a t ⟨l,i,h,am,st,p,cl,bk,f,j,d,k⟩ [] qe V):=by
  refine ⟨by rw [hV];exact DB.new w1 ⟨l,i,h,am,st,p,cl,bk,f,j,d,k⟩ a t _ _ _,jh _ _ _ _,⟨(HI.o.below Y.o).in.keep bV,(HT.o.below Y.o).below bV,by have:=HG.o;have:=b4.o;omega⟩⟩
 have d9:=Aa (a9.o.below bV);have h8:=Aa (next Y.o bV);have d7:qj _:=hV;clear hV bV;go_upto_region 6 with fail
 rw [<- d7.o];clear d7 f0 f1 f2 f3 f4 f5 f6 f7 f8 f9 f10 f11 J L M N O R S T U X y z z0 z1 z2 z3 z4 z5 z6 z7 z8 z9 z10 z11 H k1 k2;have H:=d9.o.a0;obtain ⟨B,hB⟩:=A0 w1.heap.size;rw [<- hB] at q b9 b4 ⊢;clear hB a9 Y;obtain ⟨r,hr⟩:=Ae (Cj ⟨l,i,h,am,st,p,cl,bk,f,j,d,k⟩ a t zs);have h7:=Mz d6.o
 simp only at h7
 obtain ⟨_,_,_,_,i1,_,_,i2,i3,i4,_,_⟩:=h7
 have hb:0<=bk/\bk<=1000000000000:=⟨by omega,by omega⟩
 have hc:0<=cl/\cl<=1000000000000:=⟨by omega,by omega⟩
 have hf:0<=f/\f<=1000000:=⟨by omega,by omega⟩
 clear i1 i2 i3 i4;have F:qj _:=hr;clear hr
 go_cut [12] (λv wc=>v=qzI r/\(∃ vv,DS B ao cp zs a t (if r=0 then Ca ⟨l,i,h,am,st,p,cl,bk,f,j,d,k⟩ a t zs else ⟨l,i,h,am,st,p,cl,bk,f,j,d,k⟩) (if r=0 then Cc ⟨l,i,h,am,st,p,cl,bk,f,j,d,k⟩ a else []) vv wc)/\Below B V wc)
 case first =>
  have a5:=Aa hb;have a6:=Aa hc;have d5:=Aa hf;clear hb hc hf
  have hk:a.kind=0\/a.kind=1\/a.kind=2\/a.kind=3\/a.kind=4\/a.kind=5\/a.kind=6\/a.kind=7\/a.kind=8\/a.kind=9:=by have:=Ol a7.o;omega
  rcases hk with hk|hk|hk|hk|hk|hk|hk|hk|hk|hk
  ·rw [hk] at H
   have I:qj _:=hk;clear hk;go_wp2_with fail
   refine (Ae2 _).m ?_;rintro e u1 ⟨rfl,A⟩;have b:=Aa A;clear A;go_wp2_with fail
   refine (Aik (q.o.below b.o) hn I.o).m ?_;unfold F6;rw [F.o];rintro e u2 ⟨rfl,D,G⟩;have x:qj _:=D;have s:=Aa ((b.o.m (jb q.o.lt)).t G);clear D G;go_wp2;go_meet;exact ⟨rfl,x.o,s.o⟩
  ·rw [hk] at H
   have I:qj _:=hk;clear hk;go_wp2_with fail
   refine (Ad9 _).m ?_;rintro e u1 ⟨rfl,A⟩;have b:=Aa A;clear A;go_wp2_with fail
   refine (Ah2 (q.o.below b.o) I.o).m ?_;unfold F6;rw [F.o];rintro e u2 ⟨rfl,D,G⟩;have x:qj _:=D;have s:=Aa ((b.o.m (jb q.o.lt)).t G);clear D G;go_wp2;go_meet;exact ⟨rfl,x.o,s.o⟩
  ·rw [hk] at H
   have I:qj _:=hk;clear hk;go_wp2_with fail
   refine (Afn _).m ?_;rintro e u1 ⟨rfl,A⟩;have b:=Aa A;clear A;go_wp2_with fail
   refine (Aie (q.o.below b.o) hn I.o).m ?_;unfold F6;rw [F.o];rintro e u2 ⟨rfl,D,G⟩;have x:qj _:=D;have s:=Aa ((b.o.m (jb q.o.lt)).t G);clear D G;go_wp2;go_meet;exact ⟨rfl,x.o,s.o⟩
  ·rw [hk] at H
   have I:qj _:=hk;clear hk;go_wp2_with fail
   refine (Afh _).m ?_;rintro e u1 ⟨rfl,A⟩;have b:=Aa A;clear A;go_wp2_with fail
   refine (Ahv (q.o.below b.o) hn a5.o a6.o I.o).m ?_;unfold F6;rw [F.o];rintro e u2 ⟨rfl,D,G⟩;have x:qj _:=D;have s:=Aa ((b.o.m (jb q.o.lt)).t G);clear D G;go_wp2;go_meet;exact ⟨rfl,x.o,s.o⟩
  ·rw [hk] at H
   have I:qj _:=hk;clear hk;go_wp2_with fail
   refine (Ae9 _).m ?_;rintro e u1 ⟨rfl,A⟩;have b:=Aa A;clear A;go_wp2_with fail
   refine (Aia (q.o.below b.o) hn I.o).m ?_;unfold F6;rw [F.o];rintro e u2 ⟨rfl,D,G⟩;have x:qj _:=D;have s:=Aa ((b.o.m (jb q.o.lt)).t G);clear D G;go_wp2;go_meet;exact ⟨rfl,x.o,s.o⟩
  ·rw [hk] at H
   have I:qj _:=hk;clear hk;go_wp2_with fail
   refine (Adr _).m ?_;rintro e u1 ⟨rfl,A⟩;have b:=Aa A;clear A;go_wp2_with fail
   refine (Aiv (q.o.below b.o) a5.o a6.o I.o).m ?_;unfold F6;rw [F.o];rintro e u2 ⟨rfl,D,G⟩;have x:qj _:=D;have s:=Aa ((b.o.m (jb q.o.lt)).t G);clear D G;go_wp2;go_meet;exact ⟨rfl,x.o,s.o⟩
  ·rw [hk] at H
   have I:qj _:=hk;clear hk;go_wp2_with fail
   refine (Adv _).m ?_;rintro e u1 ⟨rfl,A⟩;have b:=Aa A;clear A;go_wp2_with fail
   refine (Air (q.o.below b.o) hn I.o).m ?_;unfold F6;rw [F.o];rintro e u2 ⟨rfl,D,G⟩;have x:qj _:=D;have s:=Aa ((b.o.m (jb q.o.lt)).t G);clear D G;go_wp2;go_meet;exact ⟨rfl,x.o,s.o⟩
  ·rw [hk] at H
   have I:qj _:=hk;clear hk;go_wp2_with fail
   refine (Aew _).m ?_;rintro e u1 ⟨rfl,A⟩;have b:=Aa A;clear A;go_wp2_with fail
   refine (Ahu (q.o.below b.o) a5.o a6.o d5.o I.o).m ?_;unfold F6;rw [F.o];rintro e u2 ⟨rfl,D,G⟩;have x:qj _:=D;have s:=Aa ((b.o.m (jb q.o.lt)).t G);clear D G;go_wp2;go_meet;exact ⟨rfl,x.o,s.o⟩
  ·rw [hk] at H
   have I:qj _:=hk;clear hk;go_wp2_with fail
   refine (Afm _).m ?_;rintro e u1 ⟨rfl,A⟩;have b:=Aa A;clear A;go_wp2_with fail
   refine (Aij (q.o.below b.o) a5.o a6.o d5.o I.o).m ?_;unfold F6;rw [F.o];rintro e u2 ⟨rfl,D,G⟩;have x:qj _:=D;have s:=Aa ((b.o.m (jb q.o.lt)).t G);clear D G;go_wp2;go_meet;exact ⟨rfl,x.o,s.o⟩
  ·rw [hk] at H
   have I:qj _:=hk;clear hk;go_wp2_with fail
   refine (Adj _).m ?_;rintro e u1 ⟨rfl,A⟩;have b:=Aa A;clear A;go_wp2_with fail
   refine (Ah8 (q.o.below b.o) I.o).m ?_;unfold F6;rw [F.o];rintro e u2 ⟨rfl,D,G⟩;have x:qj _:=D;have s:=Aa ((b.o.m (jb q.o.lt)).t G);clear D G;go_wp2;go_meet;exact ⟨rfl,x.o,s.o⟩
 case rest =>
  obtain ⟨rfl,⟨v5,D5⟩,b5⟩:=hcut;have c8:=Aa (d9.o.under b5 b9.o);have Y:=Aa (h8.o.t (b5.m b4.o));clear b5 H hb hc hf
  by_cases h0:r=0
  ·rw [if_pos h0,if_pos h0] at D5
   subst h0;have b8:qj ((Ca ⟨l,i,h,am,st,p,cl,bk,f,j,d,k⟩ a t zs).cur=h):=tT _ _ _ _;obtain ⟨n,b0⟩:=Ae (Ca ⟨l,i,h,am,st,p,cl,bk,f,j,d,k⟩ a t zs);obtain ⟨E,c9⟩:=Ae (Cc ⟨l,i,h,am,st,p,cl,bk,f,j,d,k⟩ a);rw [b0,c9] at D5;rw [b0] at b8;have b7:qj _:=b0;have h9:qj _:=c9
   have a4:qj (∀ u,qi 258 #[cv n] u λe w'=>e=.returned (.bool (Aq n))/\BW u w'):=λu=>N5 n u (by rw [b8.o];exact d3.o)
   clear b0 c9 b8 a8;obtain ⟨ae,ke,i5,-,-⟩:=Ik D5.own;subst i5;obtain ⟨m0,m1,m2,m3,m4,m5,m6,m7,m8,m9,d0,d1⟩:=n;unfold cv at a4
   simp only at a4
   have d4:=Aa D5;obtain ⟨f0,f1,f2,f3,f4,f5,f6,f7,f8,f9,f10,f11⟩:=D5.db.cb
   simp only [qu] at f0 f1 f2 f3 f4 f5 f6 f7 f8 f9 f10 f11
   clear D5;go_wp2_with fail
   refine (a4.o _).m ?_;rintro e w6 ⟨rfl,b6⟩;have b3:=Aa (d4.o.below b6);have d8:=Aa (c8.o.below b6);replace Y:qj (BW w w6):=next Y.o b6;clear b6 f0 f1 f2 f3 f4 f5 f6 f7 f8 f9 f10 f11 c8 d4 a4
   cases h6:Aq ⟨m0,m1,m2,m3,m4,m5,m6,m7,m8,m9,d0,d1⟩
   ·have C:qj (doV ⟨l,i,h,am,st,p,cl,bk,f,j,d,k⟩ a t zs=1):=by rw [qj,doV,if_neg (by rw [a3.o];decide),if_neg (by rw [a7.o];decide),if_neg (by rw [F.o];decide),b7.o,if_neg (by rw [h6];decide)]
    have Z:qj (doC ⟨l,i,h,am,st,p,cl,bk,f,j,d,k⟩ a t zs=⟨l,i,h,am,st,p,cl,bk,f,j,d,k⟩):=if_neg (by rw [C.o];decide)
    have HE:qj (doE ⟨l,i,h,am,st,p,cl,bk,f,j,d,k⟩ a t zs=[]):=if_neg (by rw [C.o];decide)
    clear h6;obtain ⟨⟨f0,f1,f2,f3,f4,f5,f6,f7,f8,f9,f10,f11⟩,H,k1,k2,⟨J,L,M,N,O,R,S,T,U,X,y,z⟩,⟨z0,z1,z2,z3,z4,z5,z6,z7,z8,z9,z10,z11⟩⟩:=d8.o
    simp only [qu,Ct] at f0 f1 f2 f3 f4 f5 f6 f7 f8 f9 f10 f11 J L M N O R S T U X y z z0 z1 z2 z3 z4 z5 z6 z7 z8 z9 z10 z11
    clear k1 k2 H;go_wp2
    refine bodyPost_ret (by simp [results,results223,go_sem,J,L,M,N,O,R,S,T,U,X,y,z];try rfl) rfl ?_
    rw [Z.o,HE.o,C.o]
    exact Fy (c:=⟨l,i,h,am,st,p,cl,bk,f,j,d,k⟩) (es:=[]) (base:=w.heap.size+1+1+1) (by omega) (jh _ _ _ _) Y.o
   ·have C:qj (doV ⟨l,i,h,am,st,p,cl,bk,f,j,d,k⟩ a t zs=0):=by rw [qj,doV,if_neg (by rw [a3.o];decide),if_neg (by rw [a7.o];decide),if_neg (by rw [F.o];decide),b7.o,if_pos h6]
    have Z:qj (doC ⟨l,i,h,am,st,p,cl,bk,f,j,d,k⟩ a t zs=⟨m0,m1,m2,m3,m4,m5,m6,m7,m8,m9,d0,d1⟩):=by rw [qj,doC,if_pos C.o,b7.o]
    have HE:qj (doE ⟨l,i,h,am,st,p,cl,bk,f,j,d,k⟩ a t zs=E):=by rw [qj,doE,if_pos C.o,h9.o]
    clear h6;obtain ⟨⟨f0,f1,f2,f3,f4,f5,f6,f7,f8,f9,f10,f11⟩,H,k1,k2,⟨J,L,M,N,O,R,S,T,U,X,y,z⟩,⟨z0,z1,z2,z3,z4,z5,z6,z7,z8,z9,z10,z11⟩⟩:=d8.o
    simp only [qu,Ct] at f0 f1 f2 f3 f4 f5 f6 f7 f8 f9 f10 f11 J L M N O R S T U X y z z0 z1 z2 z3 z4 z5 z6 z7 z8 z9 z10 z11
    clear H k1 k2 f0 f1 f2 f3 f4 f5 f6 f7 f8 f9 f10 f11;obtain ⟨f0,f1,f2,f3,f4,f5,f6,f7,f8,f9,f10,f11⟩:=b3.o.db.cb
    simp only [qu] at f0 f1 f2 f3 f4 f5 f6 f7 f8 f9 f10 f11
    have i7:=b3.o.db.he;go_wp2
    go_region
    all_goals
     go_wp2
     refine bodyPost_ret (by simp [results,results223,go_sem,J,L,M,N,O,R,S,T,U,X,y,z];try rfl) rfl ?_
     rw [Z.o,HE.o,C.o]
     exact Ae7 (Fy (c:=⟨m0,m1,m2,m3,m4,m5,m6,m7,m8,m9,d0,d1⟩) (es:=E) (base:=B+1) (by have:=b9.o;omega) b3.o.own Y.o)
  ·have C:qj (doV ⟨l,i,h,am,st,p,cl,bk,f,j,d,k⟩ a t zs=r):=by rw [qj,doV,if_neg (by rw [a3.o];decide),if_neg (by rw [a7.o];decide),if_pos (by rw [F.o];exact h0),F.o]
   have Z:qj (doC ⟨l,i,h,am,st,p,cl,bk,f,j,d,k⟩ a t zs=⟨l,i,h,am,st,p,cl,bk,f,j,d,k⟩):=if_neg (by rw [C.o];exact h0)
   have HE:qj (doE ⟨l,i,h,am,st,p,cl,bk,f,j,d,k⟩ a t zs=[]):=if_neg (by rw [C.o];exact h0)
   have i6:(r != 0)=true:=by simpa using h0
   clear h0 D5;obtain ⟨⟨f0,f1,f2,f3,f4,f5,f6,f7,f8,f9,f10,f11⟩,H,k1,k2,⟨J,L,M,N,O,R,S,T,U,X,y,z⟩,⟨z0,z1,z2,z3,z4,z5,z6,z7,z8,z9,z10,z11⟩⟩:=c8.o
   simp only [qu,Ct] at f0 f1 f2 f3 f4 f5 f6 f7 f8 f9 f10 f11 J L M N O R S T U X y z z0 z1 z2 z3 z4 z5 z6 z7 z8 z9 z10 z11
   clear H k1 k2;go_wp2
   refine bodyPost_ret (by simp [results,results223,go_sem,J,L,M,N,O,R,S,T,U,X,y,z];try rfl) rfl ?_
   rw [Z.o,HE.o,C.o]
   exact Fy (c:=⟨l,i,h,am,st,p,cl,bk,f,j,d,k⟩) (es:=[]) (base:=w.heap.size+1+1+1) (by omega) (jh _ _ _ _) Y.o
end Go.Proofs.YtfpafnefpmmofaaGreatDoor
