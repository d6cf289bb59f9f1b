import Derived.Test.YtomiclakhjncbaaGreatDoorJT6a
namespace Go.Proofs.YtomiclakhjncbaaGreatDoor
open Go.RowKit Go.Proofs.Tryz
set_option maxRecDepth 100000
set_option maxHeartbeats 12800000
theorem DB.new (w:World) (c:Cs) (a:Ac) (t:Int) (o e:Value) (ty:TypeId):DB w.heap.size c a t o e (w.alloc (.cells #[qzI c.iss,qzI c.acq,qzI c.cur,qzI c.am,qzI c.st,qzI c.rsn,qzI c.cl,qzI c.bk,qzI c.fee,.bool c.cop,qzI c.sta,qzI c.due,qzI a.kind,qzI a.am,qzI a.rsn,qzI t,o,e] ty)):=by
 exact ⟨⟨by simp,by simp,by simp,by simp,by simp,by simp,by simp,by simp,by simp,by simp,by simp,by simp⟩,by simp,by simp,by simp,by simp,by simp,by simp,(by constructor<;>simp [go_sem, *]),by simp [go_sem]⟩
theorem iDo_any (c:Cs) (a:Ac) (t:Int) (ao:Option Addr) (cp:Nat) (zs:List Int) (w:World) (hx:Aw w ao zs) (hn:zs.length<=1099511627776) (ht:Di w) (hg:16<w.heap.size) (hc:(Lit.int .i64 c.cur).wf=true) :
  Calls prog 214 #[cv c,av a,qzI t,.slice ao zs.length cp] w (pM w (doC c a t zs) (doE c a t zs) (doV c a t zs)):=by
 obtain ⟨W,hW⟩:∃ W,W=((w.alloc (.cells #[qzI c.iss,qzI c.acq,qzI c.cur,qzI c.am,qzI c.st,qzI c.rsn,qzI c.cl,qzI c.bk,qzI c.fee,.bool c.cop,qzI c.sta,qzI c.due] 61)).alloc (.cells #[qzI a.kind,qzI a.am,qzI a.rsn] 165)).alloc (.cells #[qzI 0,qzI 0,qzI 0,qzI 0,qzI 0,qzI 0,qzI 0,qzI 0,qzI 0,.bool false,qzI 0,qzI 0] 61):=⟨_,rfl⟩
 have HX:Hid (BX w.heap.size c a W):=by rw [Hid,hW];exact BX.new w c a _ _ _
 have d2:Hid (BW w W):=by rw [Hid,hW];go_grown
 have HI:Hid (Aw w ao zs):=hx;have HT:Hid (Di w):=ht;have HG:Hid (16<w.heap.size):=hg
 have b0:Hid (∀ u,Calls prog 254 #[cv c] u fun e w'=>e=.returned (.bool (Ao c))/\BW u w'):=fun u=>Jr c u hc
 have d3:Hid ((Lit.int .i64 c.cur).wf=true):=hc;obtain ⟨l,i,h,am,st,m,cl,bk,d,j,f,k⟩:=c;unfold cv av;unfold cv at b0
 simp only at hW b0 d3 ⊢
 have HW:Hid _:=hW;clear hx ht hg hc hW
 go_enter func214,ntmps214
 go_upto_region 1 with fail
 rw [<- HW.o];clear HW;obtain ⟨⟨f0,f1,f2,f3,f4,f5,f6,f7,f8,f9,f10,f11⟩,H,k1,k2,⟨J,L,M,N,O,R,S,T,U,X,y,z⟩,⟨z0,z1,z2,z3,z4,z5,z6,z7,z8,z9,z10,z11⟩⟩:=HX.o
 simp only [Nat.zero_add,Br] at f0 f1 f2 f3 f4 f5 f6 f7 f8 f9 f10 f11 J L M N O R S T U X y z z0 z1 z2 z3 z4 z5 z6 z7 z8 z9 z10 z11
 go_wp2_with fail
 refine (b0.o _).mono ?_;rintro e w1 ⟨rfl,A⟩;have b3:Hid (BX w.heap.size ⟨l,i,h,am,st,m,cl,bk,d,j,f,k⟩ a w1):=HX.o.below A;have HB:Hid (BW w w1):=next d2.o A;clear A f0 f1 f2 f3 f4 f5 f6 f7 f8 f9 f10 f11 J L M N O R S T U X y z z0 z1 z2 z3 z4 z5 z6 z7 z8 z9 z10 z11 H k1 k2 HX d2;obtain ⟨⟨f0,f1,f2,f3,f4,f5,f6,f7,f8,f9,f10,f11⟩,H,k1,k2,⟨J,L,M,N,O,R,S,T,U,X,y,z⟩,⟨z0,z1,z2,z3,z4,z5,z6,z7,z8,z9,z10,z11⟩⟩:=b3.o
 simp only [Nat.zero_add,Br] at f0 f1 f2 f3 f4 f5 f6 f7 f8 f9 f10 f11 J L M N O R S T U X y z z0 z1 z2 z3 z4 z5 z6 z7 z8 z9 z10 z11
 cases h1:Ao ⟨l,i,h,am,st,m,cl,bk,d,j,f,k⟩
 ·have C:Hid (doV ⟨l,i,h,am,st,m,cl,bk,d,j,f,k⟩ a t zs=5):=if_pos (by simp [D7,h1])
  have HC:Hid (doC ⟨l,i,h,am,st,m,cl,bk,d,j,f,k⟩ a t zs=⟨l,i,h,am,st,m,cl,bk,d,j,f,k⟩):=if_neg (by rw [C.o];decide)
  have HE:Hid (doE ⟨l,i,h,am,st,m,cl,bk,d,j,f,k⟩ a t zs=[]):=if_neg (by rw [C.o];decide)
  clear h1;go_wp2
  refine bodyPost_ret (by simp [results,results214,go_sem,J,L,M,N,O,R,S,T,U,X,y,z];try rfl) rfl ?_
  rw [HC.o,HE.o,C.o]
  exact Ek (c:=⟨l,i,h,am,st,m,cl,bk,d,j,f,k⟩) (es:=[]) (base:=w.heap.size+1+1+1) (by omega) (World.ownsRow_nil _ _ _ _) HB.o
 go_wp2_with fail
 refine (Bm t _).mono ?_;rintro e w2 ⟨rfl,hw⟩;rw [hw];clear hw
 cases h2:Dn t
 ·have C:Hid (doV ⟨l,i,h,am,st,m,cl,bk,d,j,f,k⟩ a t zs=5):=if_pos (by simp [D7,h2])
  have HC:Hid (doC ⟨l,i,h,am,st,m,cl,bk,d,j,f,k⟩ a t zs=⟨l,i,h,am,st,m,cl,bk,d,j,f,k⟩):=if_neg (by rw [C.o];decide)
  have HE:Hid (doE ⟨l,i,h,am,st,m,cl,bk,d,j,f,k⟩ a t zs=[]):=if_neg (by rw [C.o];decide)
  clear h1 h2;go_wp2
  refine bodyPost_ret (by simp [results,results214,go_sem,J,L,M,N,O,R,S,T,U,X,y,z];try rfl) rfl ?_
  rw [HC.o,HE.o,C.o]
  exact Ek (c:=⟨l,i,h,am,st,m,cl,bk,d,j,f,k⟩) (es:=[]) (base:=w.heap.size+1+1+1) (by omega) (World.ownsRow_nil _ _ _ _) HB.o
 by_cases h3:t<f
 ·have C:Hid (doV ⟨l,i,h,am,st,m,cl,bk,d,j,f,k⟩ a t zs=5):=if_pos (by have g:¬ f<=t:=(by omega);simp [D7,g])
  have HC:Hid (doC ⟨l,i,h,am,st,m,cl,bk,d,j,f,k⟩ a t zs=⟨l,i,h,am,st,m,cl,bk,d,j,f,k⟩):=if_neg (by rw [C.o];decide)
  have HE:Hid (doE ⟨l,i,h,am,st,m,cl,bk,d,j,f,k⟩ a t zs=[]):=if_neg (by rw [C.o];decide)
  clear h1 h2;go_wp2
  refine bodyPost_ret (by simp [results,results214,go_sem,J,L,M,N,O,R,S,T,U,X,y,z];try rfl) rfl ?_
  rw [HC.o,HE.o,C.o]
  exact Ek (c:=⟨l,i,h,am,st,m,cl,bk,d,j,f,k⟩) (es:=[]) (base:=w.heap.size+1+1+1) (by omega) (World.ownsRow_nil _ _ _ _) HB.o
 have i1:¬ t<f:=h3;go_wp2_with fail
 refine (Pp ao cp zs _ (HI.o.below HB.o) hn).mono ?_;rintro e w3 ⟨rfl,hw⟩;rw [hw];clear hw
 cases h4:Ct zs
 ·have C:Hid (doV ⟨l,i,h,am,st,m,cl,bk,d,j,f,k⟩ a t zs=5):=if_pos (by simp [D7,h4])
  have HC:Hid (doC ⟨l,i,h,am,st,m,cl,bk,d,j,f,k⟩ a t zs=⟨l,i,h,am,st,m,cl,bk,d,j,f,k⟩):=if_neg (by rw [C.o];decide)
  have HE:Hid (doE ⟨l,i,h,am,st,m,cl,bk,d,j,f,k⟩ a t zs=[]):=if_neg (by rw [C.o];decide)
  clear h1 h2 h3 h4;go_wp2
  refine bodyPost_ret (by simp [results,results214,go_sem,J,L,M,N,O,R,S,T,U,X,y,z];try rfl) rfl ?_
  rw [HC.o,HE.o,C.o]
  exact Ek (c:=⟨l,i,h,am,st,m,cl,bk,d,j,f,k⟩) (es:=[]) (base:=w.heap.size+1+1+1) (by omega) (World.ownsRow_nil _ _ _ _) HB.o
 have a3:Hid (D7 ⟨l,i,h,am,st,m,cl,bk,d,j,f,k⟩ t zs=true):=by
  have g:f<=t:=by omega
  simp [Hid,D7,h1,h2,g,h4]
 have d6:Hid (Ao ⟨l,i,h,am,st,m,cl,bk,d,j,f,k⟩=true):=h1;clear h1 h2 h3 h4;go_wp2_with fail
 clear i1;refine (mO a.kind st _).mono ?_;rintro e w3 ⟨rfl,hw⟩;rw [hw];clear hw
 cases h5:Dx st a.kind
 ·have C:Hid (doV ⟨l,i,h,am,st,m,cl,bk,d,j,f,k⟩ a t zs=1):=by rw [Hid,doV,if_neg (by rw [a3.o];decide),if_pos h5]
  have HC:Hid (doC ⟨l,i,h,am,st,m,cl,bk,d,j,f,k⟩ a t zs=⟨l,i,h,am,st,m,cl,bk,d,j,f,k⟩):=if_neg (by rw [C.o];decide)
  have HE:Hid (doE ⟨l,i,h,am,st,m,cl,bk,d,j,f,k⟩ a t zs=[]):=if_neg (by rw [C.o];decide)
  clear h5;go_wp2
  refine bodyPost_ret (by simp [results,results214,go_sem,J,L,M,N,O,R,S,T,U,X,y,z];try rfl) rfl ?_
  rw [HC.o,HE.o,C.o]
  exact Ek (c:=⟨l,i,h,am,st,m,cl,bk,d,j,f,k⟩) (es:=[]) (base:=w.heap.size+1+1+1) (by omega) (World.ownsRow_nil _ _ _ _) HB.o
 have a9:Hid (Dx st a.kind=true):=h5;clear h5;obtain ⟨V,hV⟩:∃ V,V=w1.alloc (.cells #[qzI l,qzI i,qzI h,qzI am,qzI st,qzI m,qzI cl,qzI bk,qzI d,.bool j,qzI f,qzI k,qzI a.kind,qzI a.am,qzI a.rsn,qzI t,.slice ao zs.length cp,.slice none 0 0] 299):=⟨_,rfl⟩
 have bV:BW w1 V:=by rw [hV];exact bR.alloc nL _
 have b8:Hid (w.heap.size<=w1.heap.size):=HB.o.size;have c9:Hid (w.heap.size+1+1<w1.heap.size):=b3.o.rb.lt
 have p:Hid (DS w1.heap.size ao cp zs a t ⟨l,i,h,am,st,m,cl,bk,d,j,f,k⟩ [] (.slice none 0 0) V):=by
  refine ⟨by rw [hV];exact DB.new w1 ⟨l,i,h,am,st,m,cl,bk,d,j,f,k⟩ a t _ _ _,World.ownsRow_nil _ _ _ _,⟨(HI.o.below HB.o).in.keep bV,(HT.o.below HB.o).below bV,by have:=HG.o;have:=b8.o;omega⟩⟩
 have d9:Hid (BX w.heap.size ⟨l,i,h,am,st,m,cl,bk,d,j,f,k⟩ a V):=b3.o.below bV;have h9:Hid (BW w V):=next HB.o bV;have d7:Hid _:=hV;clear hV bV;go_upto_region 6 with fail
 rw [<- d7.o];clear d7 f0 f1 f2 f3 f4 f5 f6 f7 f8 f9 f10 f11 J L M N O R S T U X y z z0 z1 z2 z3 z4 z5 z6 z7 z8 z9 z10 z11 H k1 k2;have H:=d9.o.a0;obtain ⟨B,hB⟩:∃ B,B=w1.heap.size:=⟨_,rfl⟩;rw [<- hB] at p c9 b8 ⊢;clear hB b3 HB;obtain ⟨r,hr⟩:∃ r,B4 ⟨l,i,h,am,st,m,cl,bk,d,j,f,k⟩ a t zs=r:=⟨_,rfl⟩;have h8:=Jb d6.o
 simp only at h8
 obtain ⟨_,_,_,_,i2,_,_,i3,i4,i5,_,_⟩:=h8
 have hb:0<=bk/\bk<=1000000000000:=⟨by omega,by omega⟩
 have hc:0<=cl/\cl<=1000000000000:=⟨by omega,by omega⟩
 have hf:0<=d/\d<=1000000:=⟨by omega,by omega⟩
 clear i2 i3 i4 i5;have F:Hid _:=hr;clear hr
 go_cut [12] (fun v wc=>v=qzI r/\(∃ vv,DS B ao cp zs a t (if r=0 then Bx ⟨l,i,h,am,st,m,cl,bk,d,j,f,k⟩ a t zs else ⟨l,i,h,am,st,m,cl,bk,d,j,f,k⟩) (if r=0 then Bw ⟨l,i,h,am,st,m,cl,bk,d,j,f,k⟩ a else []) vv wc)/\Below B V wc)
 case first =>
  have a7:Hid (0<=bk/\bk<=1000000000000):=hb;have a8:Hid (0<=cl/\cl<=1000000000000):=hc;have d5:Hid (0<=d/\d<=1000000):=hf;clear hb hc hf
  have q:a.kind=0\/a.kind=1\/a.kind=2\/a.kind=3\/a.kind=4\/a.kind=5\/a.kind=6\/a.kind=7\/a.kind=8\/a.kind=9:=by have:=Jt a9.o;omega
  rcases q with q | q | q | q | q | q | q | q | q | q
  ·rw [q] at H
   have I:Hid _:=q;clear q;go_wp2_with fail
   refine (oN _).mono ?_;rintro e Y ⟨rfl,A⟩;have b:Hid (BW V Y):=A;clear A;go_wp2_with fail
   refine (tC (p.o.below b.o) hn I.o).mono ?_;unfold Eu;rw [F.o];rintro e Z ⟨rfl,D,G⟩;have x:Hid _:=D;have s:Hid (Below B V Z):=(b.o.mono (Nat.le_of_lt p.o.lt)).trans G;clear D G;go_wp2;go_meet;exact ⟨rfl,x.o,s.o⟩
  ·rw [q] at H
   have I:Hid _:=q;clear q;go_wp2_with fail
   refine (pL _).mono ?_;rintro e Y ⟨rfl,A⟩;have b:Hid (BW V Y):=A;clear A;go_wp2_with fail
   refine (sT (p.o.below b.o) I.o).mono ?_;unfold Eu;rw [F.o];rintro e Z ⟨rfl,D,G⟩;have x:Hid _:=D;have s:Hid (Below B V Z):=(b.o.mono (Nat.le_of_lt p.o.lt)).trans G;clear D G;go_wp2;go_meet;exact ⟨rfl,x.o,s.o⟩
  ·rw [q] at H
   have I:Hid _:=q;clear q;go_wp2_with fail
   refine (nN _).mono ?_;rintro e Y ⟨rfl,A⟩;have b:Hid (BW V Y):=A;clear A;go_wp2_with fail
   refine (tD (p.o.below b.o) hn I.o).mono ?_;unfold Eu;rw [F.o];rintro e Z ⟨rfl,D,G⟩;have x:Hid _:=D;have s:Hid (Below B V Z):=(b.o.mono (Nat.le_of_lt p.o.lt)).trans G;clear D G;go_wp2;go_meet;exact ⟨rfl,x.o,s.o⟩
  ·rw [q] at H
   have I:Hid _:=q;clear q;go_wp2_with fail
   refine (nF _).mono ?_;rintro e Y ⟨rfl,A⟩;have b:Hid (BW V Y):=A;clear A;go_wp2_with fail
   refine (sD (p.o.below b.o) hn a7.o a8.o I.o).mono ?_;unfold Eu;rw [F.o];rintro e Z ⟨rfl,D,G⟩;have x:Hid _:=D;have s:Hid (Below B V Z):=(b.o.mono (Nat.le_of_lt p.o.lt)).trans G;clear D G;go_wp2;go_meet;exact ⟨rfl,x.o,s.o⟩
  ·rw [q] at H
   have I:Hid _:=q;clear q;go_wp2_with fail
   refine (pE _).mono ?_;rintro e Y ⟨rfl,A⟩;have b:Hid (BW V Y):=A;clear A;go_wp2_with fail
   refine (tB (p.o.below b.o) hn I.o).mono ?_;unfold Eu;rw [F.o];rintro e Z ⟨rfl,D,G⟩;have x:Hid _:=D;have s:Hid (Below B V Z):=(b.o.mono (Nat.le_of_lt p.o.lt)).trans G;clear D G;go_wp2;go_meet;exact ⟨rfl,x.o,s.o⟩
  ·rw [q] at H
   have I:Hid _:=q;clear q;go_wp2_with fail
   refine (nH _).mono ?_;rintro e Y ⟨rfl,A⟩;have b:Hid (BW V Y):=A;clear A;go_wp2_with fail
   refine (sE (p.o.below b.o) a7.o a8.o I.o).mono ?_;unfold Eu;rw [F.o];rintro e Z ⟨rfl,D,G⟩;have x:Hid _:=D;have s:Hid (Below B V Z):=(b.o.mono (Nat.le_of_lt p.o.lt)).trans G;clear D G;go_wp2;go_meet;exact ⟨rfl,x.o,s.o⟩
  ·rw [q] at H
   have I:Hid _:=q;clear q;go_wp2_with fail
   refine (nM _).mono ?_;rintro e Y ⟨rfl,A⟩;have b:Hid (BW V Y):=A;clear A;go_wp2_with fail
   refine (sX (p.o.below b.o) hn I.o).mono ?_;unfold Eu;rw [F.o];rintro e Z ⟨rfl,D,G⟩;have x:Hid _:=D;have s:Hid (Below B V Z):=(b.o.mono (Nat.le_of_lt p.o.lt)).trans G;clear D G;go_wp2;go_meet;exact ⟨rfl,x.o,s.o⟩
  ·rw [q] at H
   have I:Hid _:=q;clear q;go_wp2_with fail
   refine (oS _).mono ?_;rintro e Y ⟨rfl,A⟩;have b:Hid (BW V Y):=A;clear A;go_wp2_with fail
   refine (sM (p.o.below b.o) a7.o a8.o d5.o I.o).mono ?_;unfold Eu;rw [F.o];rintro e Z ⟨rfl,D,G⟩;have x:Hid _:=D;have s:Hid (Below B V Z):=(b.o.mono (Nat.le_of_lt p.o.lt)).trans G;clear D G;go_wp2;go_meet;exact ⟨rfl,x.o,s.o⟩
  ·rw [q] at H
   have I:Hid _:=q;clear q;go_wp2_with fail
   refine (pN _).mono ?_;rintro e Y ⟨rfl,A⟩;have b:Hid (BW V Y):=A;clear A;go_wp2_with fail
   refine (tA (p.o.below b.o) a7.o a8.o d5.o I.o).mono ?_;unfold Eu;rw [F.o];rintro e Z ⟨rfl,D,G⟩;have x:Hid _:=D;have s:Hid (Below B V Z):=(b.o.mono (Nat.le_of_lt p.o.lt)).trans G;clear D G;go_wp2;go_meet;exact ⟨rfl,x.o,s.o⟩
  ·rw [q] at H
   have I:Hid _:=q;clear q;go_wp2_with fail
   refine (oY _).mono ?_;rintro e Y ⟨rfl,A⟩;have b:Hid (BW V Y):=A;clear A;go_wp2_with fail
   refine (sA (p.o.below b.o) I.o).mono ?_;unfold Eu;rw [F.o];rintro e Z ⟨rfl,D,G⟩;have x:Hid _:=D;have s:Hid (Below B V Z):=(b.o.mono (Nat.le_of_lt p.o.lt)).trans G;clear D G;go_wp2;go_meet;exact ⟨rfl,x.o,s.o⟩
 case rest =>
  obtain ⟨rfl,⟨v5,D5⟩,b5⟩:=hcut;have d0:Hid (BX w.heap.size ⟨l,i,h,am,st,m,cl,bk,d,j,f,k⟩ a wc):=d9.o.under b5 c9.o;have HB:Hid (BW w wc):=h9.o.trans (b5.mono b8.o);clear b5 H hb hc hf
  by_cases h0:r=0
  ·rw [if_pos h0,if_pos h0] at D5
   subst h0;have c8:Hid ((Bx ⟨l,i,h,am,st,m,cl,bk,d,j,f,k⟩ a t zs).cur=h):=dU _ _ _ _;obtain ⟨n,b4⟩:∃ n,Bx ⟨l,i,h,am,st,m,cl,bk,d,j,f,k⟩ a t zs=n:=⟨_,rfl⟩;obtain ⟨E,d1⟩:∃ E,Bw ⟨l,i,h,am,st,m,cl,bk,d,j,f,k⟩ a=E:=⟨_,rfl⟩;rw [b4,d1] at D5;rw [b4] at c8;have b9:Hid _:=b4;have i0:Hid _:=d1
   have a4:Hid (∀ u,Calls prog 254 #[cv n] u fun e w'=>e=.returned (.bool (Ao n))/\BW u w'):=fun u=>Jr n u (by rw [c8.o];exact d3.o)
   clear b4 d1 c8 b0;obtain ⟨ae,ke,i6,-,-⟩:=Gh D5.own;subst i6;obtain ⟨m0,m1,m2,m3,m4,m5,m6,m7,m8,m9,a5,a6⟩:=n;unfold cv at a4
   simp only at a4
   have d4:Hid (DS B ao cp zs a t ⟨m0,m1,m2,m3,m4,m5,m6,m7,m8,m9,a5,a6⟩ E (.slice ae E.length ke) wc):=D5;obtain ⟨f0,f1,f2,f3,f4,f5,f6,f7,f8,f9,f10,f11⟩:=D5.db.cb
   simp only [Nat.zero_add] at f0 f1 f2 f3 f4 f5 f6 f7 f8 f9 f10 f11
   clear D5;go_wp2_with fail
   refine (a4.o _).mono ?_;rintro e w6 ⟨rfl,b6⟩;have b7:Hid (DS B ao cp zs a t ⟨m0,m1,m2,m3,m4,m5,m6,m7,m8,m9,a5,a6⟩ E (.slice ae E.length ke) w6):=d4.o.below b6;have d8:Hid (BX w.heap.size ⟨l,i,h,am,st,m,cl,bk,d,j,f,k⟩ a w6):=d0.o.below b6;replace HB:Hid (BW w w6):=next HB.o b6;clear b6 f0 f1 f2 f3 f4 f5 f6 f7 f8 f9 f10 f11 d0 d4 a4
   cases h6:Ao ⟨m0,m1,m2,m3,m4,m5,m6,m7,m8,m9,a5,a6⟩
   ·have C:Hid (doV ⟨l,i,h,am,st,m,cl,bk,d,j,f,k⟩ a t zs=1):=by rw [Hid,doV,if_neg (by rw [a3.o];decide),if_neg (by rw [a9.o];decide),if_neg (by rw [F.o];decide),b9.o,if_neg (by rw [h6];decide)]
    have HC:Hid (doC ⟨l,i,h,am,st,m,cl,bk,d,j,f,k⟩ a t zs=⟨l,i,h,am,st,m,cl,bk,d,j,f,k⟩):=if_neg (by rw [C.o];decide)
    have HE:Hid (doE ⟨l,i,h,am,st,m,cl,bk,d,j,f,k⟩ a t zs=[]):=if_neg (by rw [C.o];decide)
    clear h6;obtain ⟨⟨f0,f1,f2,f3,f4,f5,f6,f7,f8,f9,f10,f11⟩,H,k1,k2,⟨J,L,M,N,O,R,S,T,U,X,y,z⟩,⟨z0,z1,z2,z3,z4,z5,z6,z7,z8,z9,z10,z11⟩⟩:=d8.o
    simp only [Nat.zero_add,Br] at f0 f1 f2 f3 f4 f5 f6 f7 f8 f9 f10 f11 J L M N O R S T U X y z z0 z1 z2 z3 z4 z5 z6 z7 z8 z9 z10 z11
    clear k1 k2 H;go_wp2
    refine bodyPost_ret (by simp [results,results214,go_sem,J,L,M,N,O,R,S,T,U,X,y,z];try rfl) rfl ?_
    rw [HC.o,HE.o,C.o]
    exact Ek (c:=⟨l,i,h,am,st,m,cl,bk,d,j,f,k⟩) (es:=[]) (base:=w.heap.size+1+1+1) (by omega) (World.ownsRow_nil _ _ _ _) HB.o
   ·have C:Hid (doV ⟨l,i,h,am,st,m,cl,bk,d,j,f,k⟩ a t zs=0):=by rw [Hid,doV,if_neg (by rw [a3.o];decide),if_neg (by rw [a9.o];decide),if_neg (by rw [F.o];decide),b9.o,if_pos h6]
    have HC:Hid (doC ⟨l,i,h,am,st,m,cl,bk,d,j,f,k⟩ a t zs=⟨m0,m1,m2,m3,m4,m5,m6,m7,m8,m9,a5,a6⟩):=by rw [Hid,doC,if_pos C.o,b9.o]
    have HE:Hid (doE ⟨l,i,h,am,st,m,cl,bk,d,j,f,k⟩ a t zs=E):=by rw [Hid,doE,if_pos C.o,i0.o]
    clear h6;obtain ⟨⟨f0,f1,f2,f3,f4,f5,f6,f7,f8,f9,f10,f11⟩,H,k1,k2,⟨J,L,M,N,O,R,S,T,U,X,y,z⟩,⟨z0,z1,z2,z3,z4,z5,z6,z7,z8,z9,z10,z11⟩⟩:=d8.o
    simp only [Nat.zero_add,Br] at f0 f1 f2 f3 f4 f5 f6 f7 f8 f9 f10 f11 J L M N O R S T U X y z z0 z1 z2 z3 z4 z5 z6 z7 z8 z9 z10 z11
    clear H k1 k2 f0 f1 f2 f3 f4 f5 f6 f7 f8 f9 f10 f11;obtain ⟨f0,f1,f2,f3,f4,f5,f6,f7,f8,f9,f10,f11⟩:=b7.o.db.cb
    simp only [Nat.zero_add] at f0 f1 f2 f3 f4 f5 f6 f7 f8 f9 f10 f11
    have i8:=b7.o.db.he;go_wp2
    go_region
    all_goals
     go_wp2
     refine bodyPost_ret (by simp [results,results214,go_sem,J,L,M,N,O,R,S,T,U,X,y,z];try rfl) rfl ?_
     rw [HC.o,HE.o,C.o]
     exact tQ (Ek (c:=⟨m0,m1,m2,m3,m4,m5,m6,m7,m8,m9,a5,a6⟩) (es:=E) (base:=B+1) (by have:=c9.o;omega) b7.o.own HB.o)
  ·have C:Hid (doV ⟨l,i,h,am,st,m,cl,bk,d,j,f,k⟩ a t zs=r):=by rw [Hid,doV,if_neg (by rw [a3.o];decide),if_neg (by rw [a9.o];decide),if_pos (by rw [F.o];exact h0),F.o]
   have HC:Hid (doC ⟨l,i,h,am,st,m,cl,bk,d,j,f,k⟩ a t zs=⟨l,i,h,am,st,m,cl,bk,d,j,f,k⟩):=if_neg (by rw [C.o];exact h0)
   have HE:Hid (doE ⟨l,i,h,am,st,m,cl,bk,d,j,f,k⟩ a t zs=[]):=if_neg (by rw [C.o];exact h0)
   have i7:(r != 0)=true:=by simpa using h0
   clear h0 D5;obtain ⟨⟨f0,f1,f2,f3,f4,f5,f6,f7,f8,f9,f10,f11⟩,H,k1,k2,⟨J,L,M,N,O,R,S,T,U,X,y,z⟩,⟨z0,z1,z2,z3,z4,z5,z6,z7,z8,z9,z10,z11⟩⟩:=d0.o
   simp only [Nat.zero_add,Br] at f0 f1 f2 f3 f4 f5 f6 f7 f8 f9 f10 f11 J L M N O R S T U X y z z0 z1 z2 z3 z4 z5 z6 z7 z8 z9 z10 z11
   clear H k1 k2;go_wp2
   refine bodyPost_ret (by simp [results,results214,go_sem,J,L,M,N,O,R,S,T,U,X,y,z];try rfl) rfl ?_
   rw [HC.o,HE.o,C.o]
   exact Ek (c:=⟨l,i,h,am,st,m,cl,bk,d,j,f,k⟩) (es:=[]) (base:=w.heap.size+1+1+1) (by omega) (World.ownsRow_nil _ _ _ _) HB.o
end Go.Proofs.YtomiclakhjncbaaGreatDoor
