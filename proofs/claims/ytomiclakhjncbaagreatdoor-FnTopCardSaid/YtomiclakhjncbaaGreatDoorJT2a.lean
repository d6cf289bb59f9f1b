import Derived.Test.YtomiclakhjncbaaGreatDoorKTAuLaw
import Derived.Test.YtomiclakhjncbaaGreatDoorKTSLed2
import Derived.Test.YtomiclakhjncbaaGreatDoorKTHpOps
import Derived.Test.YtomiclakhjncbaaGreatDoorKTFLed2
import Derived.Lib.Join
set_option maxRecDepth 100000
set_option maxHeartbeats 12800000
namespace Go.Proofs.YtomiclakhjncbaaGreatDoor
open Go.RowKit Go.Proofs.Tryz
structure Bk where
 today:Int
 off:List Int
 az:List Au
 cs:List Cs
 ls:List Ln
 log:Be
structure Bp where
 o:Option Addr
 oc:Nat
 a:Option Addr
 ac:Nat
 c:Option Addr
 cc:Nat
 l:Option Addr
 lc:Nat
 g:Option Addr
 gc:Nat
def C5 (b:Bk) (p:Bp):Value:=.agg #[qzI b.today,.slice p.o b.off.length p.oc,.slice p.a b.az.length p.ac,.slice p.c b.cs.length p.cc,.slice p.l b.ls.length p.lc,.slice p.g b.log.length p.gc]
structure Aq (u:World) (b:Bk) (p:Bp):Prop where
 off:Aw u p.o b.off
 az:Ar u p.a b.az
 cs:A0 u p.c b.cs
 ls:Ai u p.l b.ls
 log:Bh u p.g b.log
theorem Aq.below {u d:World} {b:Bk} {p:Bp} (h:Aq u b p) (hb:BW u d):Aq d b p:=⟨h.off.below hb,h.az.below hb,h.cs.below hb,h.ls.below hb,h.log.below hb⟩
def D0 (b:Bk):Prop:=b.off.length<=1048576/\b.az.length<=1048576/\b.cs.length<=1048576/\b.ls.length<=1048576/\b.log.length<=1048576
structure S6 (B:Nat) (b:Bk) (p:Bp) (u:World):Prop where
 c0:u.cell? (qzA B 0)=some (qzI b.today)
 c1:u.cell? (qzA B 1)=some (.slice p.o b.off.length p.oc)
 c2:u.cell? (qzA B 2)=some (.slice p.a b.az.length p.ac)
 c3:u.cell? (qzA B 3)=some (.slice p.c b.cs.length p.cc)
 c4:u.cell? (qzA B 4)=some (.slice p.l b.ls.length p.lc)
 c5:u.cell? (qzA B 5)=some (.slice p.g b.log.length p.gc)
theorem S6.lt {B:Nat} {b:Bk} {p:Bp} {u:World} (h:S6 B b p u):B<u.heap.size:=World.block_lt_of_cell? u _ h.c0
theorem S6.below {B:Nat} {b:Bk} {p:Bp} {u d:World} (h:S6 B b p u) (hb:BW u d):S6 B b p d:=by
 have l:=h.lt;exact ⟨(hb.cell (p:=(qzA B 0)) l).trans h.c0,(hb.cell (p:=(qzA B 1)) l).trans h.c1,(hb.cell (p:=(qzA B 2)) l).trans h.c2,(hb.cell (p:=(qzA B 3)) l).trans h.c3,(hb.cell (p:=(qzA B 4)) l).trans h.c4,(hb.cell (p:=(qzA B 5)) l).trans h.c5⟩
theorem S6.new (w:World) (b:Bk) (p:Bp) (f:TypeId):S6 w.heap.size b p (w.alloc (.cells #[qzI b.today,.slice p.o b.off.length p.oc,.slice p.a b.az.length p.ac,.slice p.c b.cs.length p.cc,.slice p.l b.ls.length p.lc,.slice p.g b.log.length p.gc] f)):=⟨by simp,by simp,by simp,by simp,by simp,by simp⟩
abbrev qcB(b:Bk)(p:Bp):Array Value:=#[qzI b.today,.slice p.o b.off.length p.oc,.slice p.a b.az.length p.ac,.slice p.c b.cs.length p.cc,.slice p.l b.ls.length p.lc,.slice p.g b.log.length p.gc]
abbrev qzB:Array Value:=#[qzI 0,.slice none 0 0,.slice none 0 0,.slice none 0 0,.slice none 0 0,.slice none 0 0]
structure Z6 (B:Nat) (d f k m n r:Value) (u:World):Prop where
 c0:u.cell? (qzA B 0)=some d
 c1:u.cell? (qzA B 1)=some f
 c2:u.cell? (qzA B 2)=some k
 c3:u.cell? (qzA B 3)=some m
 c4:u.cell? (qzA B 4)=some n
 c5:u.cell? (qzA B 5)=some r
 z0:u.frozen? (qzA B 0)=false
 z1:u.frozen? (qzA B 1)=false
 z2:u.frozen? (qzA B 2)=false
 z3:u.frozen? (qzA B 3)=false
 z4:u.frozen? (qzA B 4)=false
 z5:u.frozen? (qzA B 5)=false
theorem Z6.lt {B:Nat} {d f k m n r:Value} {u:World} (h:Z6 B d f k m n r u):B<u.heap.size:=World.block_lt_of_cell? u _ h.c0
theorem Z6.below {B:Nat} {d f k m n r:Value} {u t:World} (h:Z6 B d f k m n r u) (b:BW u t):Z6 B d f k m n r t:=by
 have l:=h.lt;exact ⟨(b.cell (p:=(qzA B 0)) l).trans h.c0,(b.cell (p:=(qzA B 1)) l).trans h.c1,(b.cell (p:=(qzA B 2)) l).trans h.c2,(b.cell (p:=(qzA B 3)) l).trans h.c3,(b.cell (p:=(qzA B 4)) l).trans h.c4,(b.cell (p:=(qzA B 5)) l).trans h.c5,(b.frozen (p:=(qzA B 0)) l).trans h.z0,(b.frozen (p:=(qzA B 1)) l).trans h.z1,(b.frozen (p:=(qzA B 2)) l).trans h.z2,(b.frozen (p:=(qzA B 3)) l).trans h.z3,(b.frozen (p:=(qzA B 4)) l).trans h.z4,(b.frozen (p:=(qzA B 5)) l).trans h.z5⟩
theorem Z6.far {B B' i:Nat} {d f k m n r:Value} {u:World} {x:Value} (h:Z6 B d f k m n r u) (s:B'≠B):Z6 B d f k m n r (u.setCell (qzA B' i) x):=by
 have l:=h.lt
 have gr:u.grownBy (u.setCell (qzA B' i) x) (some B'):=⟨rfl,rfl,rfl,by simp,fun j _ hj=>Below.heap_setCell _ _ _ _ (fun e=>hj (by rw [e]))⟩
 have hs:some B≠some B':=fun e=>s (by injection e with e;exact e.symm)
 exact ⟨(gr.cell_far (qzA B 0) l hs).trans h.c0,(gr.cell_far (qzA B 1) l hs).trans h.c1,(gr.cell_far (qzA B 2) l hs).trans h.c2,(gr.cell_far (qzA B 3) l hs).trans h.c3,(gr.cell_far (qzA B 4) l hs).trans h.c4,(gr.cell_far (qzA B 5) l hs).trans h.c5,by simp [h.z0],by simp [h.z1],by simp [h.z2],by simp [h.z3],by simp [h.z4],by simp [h.z5]⟩
theorem Z6.set0 {B:Nat} {d f k m n r:Value} {u:World} (h:Z6 B d f k m n r u) (x:Value):Z6 B x f k m n r (u.setCell (qzA B 0) x):=by
 obtain ⟨c0,c1,c2,c3,c4,c5,z0,z1,z2,z3,z4,z5⟩:=h
 constructor<;>simp [go_sem, *]
theorem Z6.set1 {B:Nat} {d f k m n r:Value} {u:World} (h:Z6 B d f k m n r u) (x:Value):Z6 B d x k m n r (u.setCell (qzA B 1) x):=by
 obtain ⟨c0,c1,c2,c3,c4,c5,z0,z1,z2,z3,z4,z5⟩:=h
 constructor<;>simp [go_sem, *]
theorem Z6.set2 {B:Nat} {d f k m n r:Value} {u:World} (h:Z6 B d f k m n r u) (x:Value):Z6 B d f x m n r (u.setCell (qzA B 2) x):=by
 obtain ⟨c0,c1,c2,c3,c4,c5,z0,z1,z2,z3,z4,z5⟩:=h
 constructor<;>simp [go_sem, *]
theorem Z6.set3 {B:Nat} {d f k m n r:Value} {u:World} (h:Z6 B d f k m n r u) (x:Value):Z6 B d f k x n r (u.setCell (qzA B 3) x):=by
 obtain ⟨c0,c1,c2,c3,c4,c5,z0,z1,z2,z3,z4,z5⟩:=h
 constructor<;>simp [go_sem, *]
theorem Z6.set4 {B:Nat} {d f k m n r:Value} {u:World} (h:Z6 B d f k m n r u) (x:Value):Z6 B d f k m x r (u.setCell (qzA B 4) x):=by
 obtain ⟨c0,c1,c2,c3,c4,c5,z0,z1,z2,z3,z4,z5⟩:=h
 constructor<;>simp [go_sem, *]
theorem Z6.set5 {B:Nat} {d f k m n r:Value} {u:World} (h:Z6 B d f k m n r u) (x:Value):Z6 B d f k m n x (u.setCell (qzA B 5) x):=by
 obtain ⟨c0,c1,c2,c3,c4,c5,z0,z1,z2,z3,z4,z5⟩:=h
 constructor<;>simp [go_sem, *]
theorem Z6.new (w:World) (d f k m n r:Value) (v:TypeId):Z6 w.heap.size d f k m n r (w.alloc (.cells #[d,f,k,m,n,r] v)) :=
 ⟨by simp,by simp,by simp,by simp,by simp,by simp,by simp [go_sem],by simp [go_sem],by simp [go_sem],by simp [go_sem],by simp [go_sem],by simp [go_sem]⟩
abbrev Z0(R:Nat)(u:World):Prop:=Z6 R (qzI 0) (.slice none 0 0) (.slice none 0 0) (.slice none 0 0) (.slice none 0 0) (.slice none 0 0) u
abbrev ZQ(X:Nat)(b:Bk)(q:Bp)(u:World):Prop:=Z6 X (qzI b.today) (.slice q.o b.off.length q.oc) (.slice q.a b.az.length q.ac) (.slice q.c b.cs.length q.cc) (.slice q.l b.ls.length q.lc) (.slice q.g b.log.length q.gc) u
theorem Z6.under {s B:Nat} {b c d f g k:Value} {u a:World} (h:Z6 s b c d f g k u) (hb:Below B u a) (l:s<B):Z6 s b c d f g k a :=
 ⟨(hb.cell (p:=(qzA s 0)) l).trans h.c0,(hb.cell (p:=(qzA s 1)) l).trans h.c1,(hb.cell (p:=(qzA s 2)) l).trans h.c2,(hb.cell (p:=(qzA s 3)) l).trans h.c3,(hb.cell (p:=(qzA s 4)) l).trans h.c4,(hb.cell (p:=(qzA s 5)) l).trans h.c5,(hb.frozen (p:=(qzA s 0)) l).trans h.z0,(hb.frozen (p:=(qzA s 1)) l).trans h.z1,(hb.frozen (p:=(qzA s 2)) l).trans h.z2,(hb.frozen (p:=(qzA s 3)) l).trans h.z3,(hb.frozen (p:=(qzA s 4)) l).trans h.z4,(hb.frozen (p:=(qzA s 5)) l).trans h.z5⟩
theorem Ad {u:World} {base n size B i:Nat} {t:TypeId} {v x:Value} {m:List Value} (o:u.ownsRow base t size v n m) (hB:B<base):(u.setCell (qzA B i) x).ownsRow base t size v n m :=
 o.kept (row:=some B) ⟨rfl,rfl,rfl,by simp,fun j _ hj=>Below.heap_setCell _ _ _ _ (fun e=>hj (by rw [e]))⟩ (.inr fun h=>by have:=(o.lt _ h).1;omega)
def Mu (done:Bool) (ls:List Ln) (a c m:Int):List Ln:=if done=true then ls else Cr ls a c m
theorem Kz (ls:List Ln) (a c m:Int):Mu true ls a c m=ls:=rfl
theorem Js (ls:List Ln) (a c m:Int):Mu false ls a c m=Cr ls a c m:=rfl
theorem jI {x:Ln} {r:List Ln} {a c m:Int} (h:My x a c=false):Cr (x::r) a c m=x::Cr r a c m:=by simp only [Cr];rw [if_neg (by rw [h];decide)]
theorem eJ {x:Ln} {r:List Ln} {a c m:Int} (h:My x a c=true) (he:x.1=a/\x.2.1=c):Cr (x::r) a c m=if x.2.2+m≠0 then (a,c,x.2.2+m)::r else r:=by simp only [Cr];rw [if_pos h,if_pos he]
theorem lD {x:Ln} {r:List Ln} {a c m:Int} (h:My x a c=true) (he:¬ (x.1=a/\x.2.1=c)):Cr (x::r) a c m=(a,c,m)::x::r:=by simp only [Cr];rw [if_pos h,if_neg he]
theorem Ve (x y z:Int):∀ u ∈ [Value.int .i64 x,qzI y,qzI z],u.oneCell'=true:=by
 intro u hu
 simp at hu
 rcases hu with rfl | rfl | rfl <;> rfl
theorem aD {w:World} {base n:Nat} {t:TypeId} {v:Value} {out:List Ln} {x y z:Int} (h:w.ownsRow base t 3 v n (Ag out++[qzI x,qzI y,qzI z])):w.ownsRow base t 3 v n (Ag (out++[(x,y,z)])):=by
 rw [Ip];exact h
theorem Tf (ao:Option Addr) (cap:Nat) (ls:List Ln) (a c m:Int) (w:World) (hz:Ai w ao ls) (hn:ls.length<=1048576) (hm:-1000000000000<=m/\m<=1000000000000) (hb:∀ x ∈ ls,-4000000000000<=x.2.2/\x.2.2<=4000000000000) :
  Calls prog 262 #[.slice ao ls.length cap,qzI a,qzI c,qzI m] w fun e w'=>∃ g cap',e=.returned (.slice g (Cr ls a c m).length cap') /\
   w'.ownsRow w.heap.size 113 3 (.slice g (Cr ls a c m).length cap') (Cr ls a c m).length (Ag (Cr ls a c m))/\BW w w':=by
 obtain ⟨i0,hi,G,H,I⟩:=info_parts bY;have HZ:Hid (Ai w ao ls):=hz;have HB:Hid (∀ x ∈ ls,-4000000000000<=x.2.2/\x.2.2<=4000000000000):=hb
 have a5:(w.alloc (.cells #[] 113)).ownsRow w.heap.size 113 3 (.slice (some ⟨w.heap.size,0,none⟩) 0 0) 0 (Ag []):=World.ownsRow_lit w #[] 0 nL (by unfold maxLen;omega) rfl
 have b3:Hid ((w.alloc (.cells #[] 113)).ownsRow w.heap.size 113 3 (.slice (some ⟨w.heap.size,0,none⟩) 0 0) 0 (Ag [])):=a5;clear hz hb a5;obtain ⟨A,hA⟩:∃ A,Cr ls a c m=A:=⟨_,rfl⟩;rw [hA];have HA:Hid _:=hA;clear hA
 go_enter func262,ntmps262
 go_wp2
 go_loopw [9,10,11] (fun s d i wr=>∃ (v:Value) (k:Nat) (done:Bool) (out:List Ln),v=s/\d=.bool done/\k<=ls.length/\i=qzI k/\A=out++Mu done (ls.drop k) a c m/\((done=false->out.length<=k)/\out.length<=k+1)/\wr.ownsRow w.heap.size 113 3 v out.length (Ag out)/\BW w wr) (fun _ _ i _=>ls.length - (intOf i).toNat)
 case atStart=>exact ⟨_,0,false,[],rfl,rfl,Nat.zero_le _,rfl,HA.o.symm,⟨fun _=>Nat.zero_le _,Nat.zero_le _⟩,b3.o,by go_grown⟩
 case round =>
  obtain ⟨v,k,done,out,d4,rfl,hk,rfl,b5,⟨a4,d6⟩,ho,T⟩:=hrel;subst d4;have b7:=T.size;have O:Hid (wr.ownsRow w.heap.size 113 3 v out.length (Ag out)):=ho
  have N:Hid (∀ j,v.ownBlock=some j->w.heap.size<=j):=fun j hj=>(ho.lt j hj).1
  have f:Hid _:=b5;clear ho b5 b3
  by_cases hlt:k<ls.length
  ·have d2:(k:Int)<(ls.length:Int):=by omega
   obtain ⟨b,off,rfl,d5,c1,c2,c3⟩:=(HZ.o.below T).at hlt;have b6:=HB.o _ (Ex hlt);have b0:=Tu ls k hlt;obtain ⟨⟨x,y,z⟩,hx⟩:∃ x,Cg ls k=x:=⟨_,rfl⟩;rw [hx] at c1 c2 c3 b0 b6
   simp only at c1 c2 c3 b6
   have l:Hid _:=b0;obtain ⟨W,hW⟩:∃ W,W=wr.alloc (.cells #[qzI x,qzI y,qzI z] 113):=⟨_,rfl⟩
   have bW:BW w W:=by rw [hW];exact T.alloc b7 _
   have p:Hid (W.ownsRow w.heap.size 113 3 v out.length (Ag out)):=by rw [Hid,hW];exact O.o.alloc _
   have y0:W.cell? ⟨wr.heap.size,0,none⟩=some (qzI x):=by rw [hW];simp
   have y1:W.cell? ⟨wr.heap.size,1,none⟩=some (qzI y):=by rw [hW];simp
   have y2:W.cell? ⟨wr.heap.size,2,none⟩=some (qzI z):=by rw [hW];simp
   have f2:W.frozen? ⟨wr.heap.size,2,none⟩=false:=by rw [hW];simp [go_sem]
   have Z:=bW.size;have b2:wr.heap.size<W.heap.size:=World.block_lt_of_cell? W _ y0;clear b0 hx;go_upto_region 7 with fail
   rw [<- hW];clear hW c1 c2 c3
   cases done
   ·have S:Hid (out.length<=k):=a4 rfl
    clear a4
    cases hr:My (x,y,z) a c
    ·have L:Hid (A=(out++[(x,y,z)])++Mu false (ls.drop (k+1)) a c m):=by
       rw [Hid,f.o,Js,l.o,jI hr,Js,List.append_assoc];rfl
     have F:=hr
     simp only [My,decide_eq_false_iff_not] at F
     have v1:¬ a<x:=by omega
     by_cases J:x=a
     ·have c8:(x == a)=true:=by simpa using J
      have v3:¬ c<=y:=by omega
      clear hr F f l J
      go_wp2_with (at_builtin;refine wpList_append_own _ rfl (.tmp 73) (.tmp 75) 27 rfl w.heap.size 113 i0 _ 3 24 underlying27 hi G H I rfl (by decide) _ _ _ rfl (p.o.alloc _) ⟨W.heap.size,0,none⟩ 1 1 [qzI x,qzI y,qzI z] rfl rfl (World.news_of_block (heap_alloc_new W _)) (Ve x y z) (by unfold maxLen;omega) (by omega) (by simp;omega) ?_;intro U C D q _)
      have B:Hid (C.ownsRow w.heap.size 113 3 U (out++[(x,y,z)]).length (Ag (out++[(x,y,z)]))):=by rw [Hid,List.length_append];exact aD D
      have R:BW w C:=(bW.alloc Z _).grown q (by simp;omega) N.o
      clear D q O p;go_wp2
      go_roundw
      case rel=>exact ⟨_,k+1,false,_,rfl,rfl,by omega,by go_num,L.o,⟨fun _=>by have:=S.o;simp;omega,by have:=S.o;simp;omega⟩,B.o,R⟩
      case measure=>simp [intOf];omega
     ·have c8:(x == a)=false:=by simpa using J
      clear hr F f l J
      go_wp2_with (at_builtin;refine wpList_append_own _ rfl (.tmp 73) (.tmp 75) 27 rfl w.heap.size 113 i0 _ 3 24 underlying27 hi G H I rfl (by decide) _ _ _ rfl (p.o.alloc _) ⟨W.heap.size,0,none⟩ 1 1 [qzI x,qzI y,qzI z] rfl rfl (World.news_of_block (heap_alloc_new W _)) (Ve x y z) (by unfold maxLen;omega) (by omega) (by simp;omega) ?_;intro U C D q _)
      have B:Hid (C.ownsRow w.heap.size 113 3 U (out++[(x,y,z)]).length (Ag (out++[(x,y,z)]))):=by rw [Hid,List.length_append];exact aD D
      have R:BW w C:=(bW.alloc Z _).grown q (by simp;omega) N.o
      clear D q O p;go_wp2
      go_roundw
      case rel=>exact ⟨_,k+1,false,_,rfl,rfl,by omega,by go_num,L.o,⟨fun _=>by have:=S.o;simp;omega,by have:=S.o;simp;omega⟩,B.o,R⟩
      case measure=>simp [intOf];omega
    ·have F:=hr
     simp only [My,decide_eq_true_eq] at F
     by_cases he:x=a/\y=c
     ·obtain ⟨J,v3⟩:=he
      have c8:(x == a)=true:=by simpa using J
      have d8:(y == c)=true:=by simpa using v3
      have v1:¬ a<x:=by omega
      have v4:c<=y:=by omega
      have hh:=eJ (m:=m) (r:=ls.drop (k+1)) hr ⟨J,v3⟩
      have d7:IntKind.i64.wrap (z+m)=z+m:=by simp [IntKind.wrap,IntKind.bits,IntKind.signed];omega
      obtain ⟨V,Y⟩:∃ V,V=W.setCell ⟨wr.heap.size,2,none⟩ (qzI (z+m)):=⟨_,rfl⟩
      have p0:V.cell? ⟨wr.heap.size,0,none⟩=some (qzI x):=by rw [Y];simp [go_sem,y0]
      have p1:V.cell? ⟨wr.heap.size,1,none⟩=some (qzI y):=by rw [Y];simp [go_sem,y1]
      have p2:V.cell? ⟨wr.heap.size,2,none⟩=some (qzI (z+m)):=by rw [Y];simp [go_sem,y2]
      have bV:BW w V:=by rw [Y];exact bW.setCell (by show w.heap.size<=wr.heap.size;omega) _
      have a8:Hid (V.ownsRow w.heap.size 113 3 v out.length (Ag out)):=by
       rw [Hid,Y]
       exact A5 p.o _ _ (fun g hg=>by have:=(O.o.lt g hg).2;simp only;omega)
      have d0:=bV.size;have HV:Hid _:=Y
      by_cases hs0:z+m=0
      ·have L:Hid (A=out++Mu true (ls.drop (k+1)) a c m):=by
         rw [Hid,f.o,Js,l.o,hh,if_neg (by simpa using hs0)];rfl
       have b8:(z+m != 0)=false:=by simpa using hs0
       have b4:Hid _:=hs0;clear hr F f l J v3 hh Y p0 p1 p2;go_wp2
       go_roundw
       case rel=>exact ⟨_,k+1,true,out,rfl,rfl,by omega,by go_num,L.o,⟨(fun h=>by cases h),by omega⟩,by have h:=a8.o;rw [HV.o,b4.o] at h;exact h,by have h:=bV;rw [HV.o,b4.o] at h;exact h⟩
       case measure=>simp [intOf];omega
      ·have L:Hid (A=(out++[(x,y,z+m)])++Mu true (ls.drop (k+1)) a c m):=by
         rw [Hid,f.o,Js,l.o,hh,if_pos (by simpa using hs0),Kz,J,v3,List.append_assoc];rfl
       have b8:(z+m != 0)=true:=by simpa using hs0
       clear hr F f l J v3 hh hs0;go_upto_region 12 with fail
       rw [<- Y];clear Y
       go_wp2_with (at_builtin;refine wpList_append_own _ rfl (.tmp 62) (.tmp 64) 27 rfl w.heap.size 113 i0 _ 3 24 underlying27 hi G H I rfl (by decide) _ _ _ rfl (a8.o.alloc _) ⟨V.heap.size,0,none⟩ 1 1 [qzI x,qzI y,qzI (z+m)] rfl rfl (World.news_of_block (heap_alloc_new V _)) (Ve x y (z+m)) (by unfold maxLen;omega) (by omega) (by simp;omega) ?_;intro U C D q _)
       have B:Hid (C.ownsRow w.heap.size 113 3 U (out++[(x,y,z+m)]).length (Ag (out++[(x,y,z+m)]))):=by rw [Hid,List.length_append];exact aD D
       have R:BW w C:=(bV.alloc d0 _).grown q (by simp;omega) N.o
       clear D q O p a8;go_wp2
       go_roundw
       case rel=>exact ⟨_,k+1,true,_,rfl,rfl,by omega,by go_num,L.o,⟨(fun h=>by cases h),by simp;omega⟩,B.o,R⟩
       case measure=>simp [intOf];omega
     ·have L:Hid (A=(out++[(a,c,m)]++[(x,y,z)])++Mu true (ls.drop (k+1)) a c m):=by
        rw [Hid,f.o,Js,l.o,lD hr he,Kz,List.append_assoc,List.append_assoc];rfl
      have b9:∀ o,(W.alloc o).cell? ⟨wr.heap.size,0,none⟩=some (qzI x)/\(W.alloc o).cell? ⟨wr.heap.size,1,none⟩=some (qzI y)/\(W.alloc o).cell? ⟨wr.heap.size,2,none⟩=some (qzI z):=fun o=>⟨(World.cell?_alloc_lt _ _ ⟨wr.heap.size,0,none⟩ b2).trans y0,(World.cell?_alloc_lt _ _ ⟨wr.heap.size,1,none⟩ b2).trans y1,(World.cell?_alloc_lt _ _ ⟨wr.heap.size,2,none⟩ b2).trans y2⟩
      have a9:Hid _:=b9
      have a6:Hid (some wr.heap.size≠v.ownBlock):=fun e=>by have:=(O.o.lt _ e.symm).2;omega
      have a3:(a<x/\(x == a)=false)\/(¬ a<x/\(x == a)=true/\c<=y/\(y == c)=false):=by
       by_cases v1:a<x
       ·exact .inl ⟨v1,by simp;omega⟩
       ·have J:x=a:=by omega
        exact .inr ⟨v1,by simpa using J,by omega,by simp;intro h;exact he ⟨J,h⟩⟩
      clear hr F f l he b9
      rcases a3 with ⟨v1,J⟩ | ⟨v1,J,v3,v4⟩
      all_goals
       go_wp2_with (at_builtin;first
        | (refine wpList_append_own _ rfl (.tmp 66) (.tmp 71) 27 rfl w.heap.size 113 i0 _ 3 24 underlying27 hi G H I rfl (by decide) _ _ _ rfl (p.o.alloc _) ⟨W.heap.size,0,none⟩ 1 1 [.int .i64 a,.int .i64 c,.int .i64 m] rfl rfl (World.news_of_block (heap_alloc_new W _)) (Ve a c m) (by unfold maxLen;omega) (by omega) (by simp;omega) ?_;intro U C D q _;have R:BW w C:=(bW.alloc Z _).grown q (by simp;omega) N.o;have k0:=(q.cell_far ⟨wr.heap.size,0,none⟩ (by simp;omega) a6.o).trans (a9.o _).1;have k1:=(q.cell_far ⟨wr.heap.size,1,none⟩ (by simp;omega) a6.o).trans (a9.o _).2.1;have k2:=(q.cell_far ⟨wr.heap.size,2,none⟩ (by simp;omega) a6.o).trans (a9.o _).2.2;have a7:Hid (C.ownsRow w.heap.size 113 3 U (out.length+1) (Ag out++[.int .i64 a,.int .i64 c,.int .i64 m])):=D;have d3:=R.size;clear D q)
        | (refine wpList_append_own _ rfl (.tmp 73) (.tmp 75) 27 rfl w.heap.size 113 i0 _ 3 24 underlying27 hi G H I rfl (by decide) _ _ _ rfl (a7.o.alloc _) ⟨C.heap.size,0,none⟩ 1 1 [.int .i64 x,.int .i64 y,.int .i64 z] rfl rfl (World.news_of_block (heap_alloc_new C _)) (Ve x y z) (by unfold maxLen;omega) (by omega) (by simp;omega) ?_;intro v6 w6 o6 g6 _))
       have c9:Hid (w6.ownsRow w.heap.size 113 3 v6 (out++[(a,c,m)]++[(x,y,z)]).length (Ag (out++[(a,c,m)]++[(x,y,z)]))):=by
        rw [Hid,List.length_append,List.length_append,Ip,Ip];exact o6
       have q6:BW w w6:=(R.alloc d3 _).grown g6 (by simp;omega) (fun j hj=>(a7.o.lt j hj).1)
       clear o6 g6 O p a7;go_wp2
       go_roundw
       case rel=>exact ⟨_,k+1,true,_,rfl,rfl,by omega,by go_num,L.o,⟨(fun h=>by cases h),by have:=S.o;simp;omega⟩,c9.o,q6⟩
       case measure=>simp [intOf];omega
   ·have L:Hid (A=(out++[(x,y,z)])++Mu true (ls.drop (k+1)) a c m):=by
      rw [Hid,f.o,Kz,l.o,Kz,List.append_assoc];rfl
    clear f l
    go_wp2_with (at_builtin;refine wpList_append_own _ rfl (.tmp 73) (.tmp 75) 27 rfl w.heap.size 113 i0 _ 3 24 underlying27 hi G H I rfl (by decide) _ _ _ rfl (p.o.alloc _) ⟨W.heap.size,0,none⟩ 1 1 [qzI x,qzI y,qzI z] rfl rfl (World.news_of_block (heap_alloc_new W _)) (Ve x y z) (by unfold maxLen;omega) (by omega) (by simp;omega) ?_;intro U C D q _)
    have B:Hid (C.ownsRow w.heap.size 113 3 U (out++[(x,y,z)]).length (Ag (out++[(x,y,z)]))):=by rw [Hid,List.length_append];exact aD D
    have R:BW w C:=(bW.alloc Z _).grown q (by simp;omega) N.o
    clear D q O p;go_wp2
    go_roundw
    case rel=>exact ⟨_,k+1,true,_,rfl,rfl,by omega,by go_num,L.o,⟨(fun h=>by cases h),by simp;omega⟩,B.o,R⟩
    case measure=>simp [intOf];omega
  ·have d1:k=ls.length:=by omega
   subst d1
   have d2:¬ (ls.length:Int)<(ls.length:Int):=by omega
   have hd:ls.drop ls.length=[]:=List.drop_of_length_le nL
   cases done
   ·have L:Hid (A=out++[(a,c,m)]):=by rw [Hid,f.o,hd];rfl
    clear f hd
    go_wp2_with (at_builtin;refine wpList_append_own _ rfl (.tmp 79) (.tmp 84) 27 rfl w.heap.size 113 i0 _ 3 24 underlying27 hi G H I rfl (by decide) _ _ _ rfl (O.o.alloc _) ⟨wr.heap.size,0,none⟩ 1 1 [qzI a,qzI c,qzI m] rfl rfl (World.news_of_block (heap_alloc_new wr _)) (Ve a c m) (by unfold maxLen;omega) (by omega) (by simp;omega) ?_;intro U C D q _;obtain ⟨X,M,b1,-,-⟩:=Ef (ls:=out++[(a,c,m)]) (aD D);subst b1)
    have B:Hid (C.ownsRow w.heap.size 113 3 (.slice X (out++[(a,c,m)]).length M) (out++[(a,c,m)]).length (Ag (out++[(a,c,m)]))):=by
     have h:=aD D;rw [List.length_append] at h ⊢;exact h
    have R:BW w C:=(T.alloc b7 _).grown q (by simp;omega) N.o
    clear D q O;go_wp2;go_ret;have hN:=L.o;subst hN
    exact ⟨X,M,by rw [List.length_append];rfl,B.o,R⟩
   ·have L:Hid (A=out):=by rw [Hid,f.o,hd];simp [Mu]
    obtain ⟨X,M,b1,-,-⟩:=Ef O.o;subst b1;clear f hd;go_wp2;go_ret;have hN:=L.o;subst hN;exact ⟨X,M,rfl,O.o,T⟩
theorem Y5 {w:World} {a:Addr} {ls:List Ln} (h:Ai w (some a) ls):∀ j u,(Ag ls)[j]?=some u->w.cell? (a.add j)=some u:=by
 intro j u q
 have Y:j<ls.length*3:=by
  rw [<- Cn];exact (List.getElem?_eq_some_iff.1 q).1
 rcases h with rfl | ⟨O,k,hq,hb,hc⟩
 ·simp at Y
 ·obtain rfl:a=(qzA O k):=by simpa using hq
  have e:(((qzA O k):Addr).add j)=(qzA O (k+j)):=by unfold Addr.add;split <;> simp_all
  have X:=hc (j / 3) (by omega)
  have F:=Hj ls (j / 3) (by omega)
  rw [e]
  rcases (show j % 3=0\/j % 3=1\/j % 3=2 by omega) with m | m | m
  ·have f:j=j / 3*3:=by omega
   rw [f,F.1] at q
   rw [f,X.1];exact q
  ·have f:j=j / 3*3+1:=by omega
   rw [f,F.2.1] at q
   rw [f,<- Nat.add_assoc,X.2.1];exact q
  ·have f:j=j / 3*3+2:=by omega
   rw [f,F.2.2] at q
   rw [f,<- Nat.add_assoc,X.2.2];exact q
theorem Oa (w:World) (base:Nat) (ty:TypeId) (v:Value) (n:Nat) (cs:List Value) (i:w.ownsRow base 113 3 v n cs) (d:Option Addr) (c:Nat) (ls:List Ln) (z:Ai w d ls)
  (Z:n+ls.length<=4000000) (hbase:base<=w.heap.size) :
  ∃ p w',(Builtin.append_ #[27,27] ty #[v,.slice d ls.length c]).run prog w=.ok p w'/\w'.ownsRow base 113 3 p (n+ls.length) (cs++Ag ls)/\w.grownBy w' v.ownBlock:=by
 obtain ⟨i0,hi,a5,a6,a7⟩:=info_parts bY
 cases d with
 | none =>
  have F:ls=[]:=by
   rcases z with h | ⟨b,off,h,_⟩
   ·exact h
   ·cases h
  subst F
  refine ⟨v,w,?_,by simpa [Ag] using i,⟨rfl,rfl,rfl,nL,fun _ _ _=>rfl⟩⟩
  have hu:=underlying27
  rcases i.2 with ⟨rfl,rfl⟩ | ⟨g,cap,cQ,rfl,a8,hg,a3,a9,b0,a4⟩
  ·simp [Builtin.append_,run_underlying hu,sizeOf,typeInfo,hi,Builtin.lenOf,Builtin.firstCells]
  ·simp [Builtin.append_,run_underlying hu,sizeOf,typeInfo,hi,Builtin.lenOf,Builtin.firstCells,loadCells,a3,storeCells]
 | some a =>
  obtain ⟨p,w',S,T,h3,_,_⟩:=run_append_own_at (P:=prog) w base 27 ty 113 i0 _ 3 24 underlying27 hi a5 a6 a7 rfl (by decide) v n cs i a ls.length c (Ag ls) (Cn ls) (Y5 z) (Z5 ls) (by unfold maxLen;omega) (by omega) hbase
  exact ⟨p,w',S,T,h3⟩
theorem Gp {H:Array Oper} {rest:List Oper} {o:Oper} {a:Act} {Q:Exit->Act->World->Prop} (w:World) (V:o.guard=none) (s x:Operand)
  (ho:o.op=.call { callee:=.builtin .append,args:=#[s,x],argTypes:=#[27,27] }) (base:Nat) (v:Value) (n:Nat) (cs:List Value) (hs:a.eval s=v) (i:w.ownsRow base 113 3 v n cs)
  (d:Option Addr) (c:Nat) (ls:List Ln) (hx:a.eval x=.slice d ls.length c) (z:Ai w d ls) (Z:n+ls.length<=4000000) (hbase:base<=w.heap.size)
  (h:∀ p w',w'.ownsRow base 113 3 p (n+ls.length) (cs++Ag ls)->w.grownBy w' v.ownBlock->wpList prog H Q rest (a.put o.dst p) w'):wpList prog H Q (o::rest) a w:=by
 obtain ⟨p,w',hr,S,T⟩:=Oa w base o.type v n cs i d c ls z Z hbase;exact Lib.wpList_append_run w V s x _ _ ho _ _ hs hx p w' hr (h p w' S T)
def rG (w:World) (ls:List Ln) (e:Ending) (w':World):Prop :=
 ∃ d cap,e=.returned (.agg #[.slice d ls.length cap])/\w'.ownsRow w.heap.size 113 3 (.slice d ls.length cap) ls.length (Ag ls)/\BW w w'
theorem Hh (d:Option Addr) (cap:Nat) (ls:List Ln) (w:World) (z:Ai w d ls) (Z:ls.length<=1048577) :
  Calls prog 123 #[.agg #[.slice d ls.length cap]] w (rG w ls):=by
 obtain ⟨W,t⟩:∃ W,W=((w.alloc (.cells #[.slice d ls.length cap] 29)).alloc (.cells #[.slice none 0 0] 29)).alloc (.cells #[] 113):=⟨_,rfl⟩
 have U:W.heap.size=w.heap.size+3:=by rw [t];simp
 have R:BW w W:=by rw [t];go_grown
 have L:Hid (W.ownsRow (w.heap.size+2) 113 3 (.slice (some ⟨w.heap.size+1+1,0,none⟩) 0 0) 0 (Ag [])):=by
  have h:=World.ownsRow_lit (base:=w.heap.size+2) (e:=113) (size:=3) ((w.alloc (.cells #[.slice d ls.length cap] 29)).alloc (.cells #[.slice none 0 0] 29)) #[] 0 (by simp) (by unfold maxLen;omega) rfl
  rw [Hid,t];simpa [Ag] using h
 have HZ:Hid (Ai W d ls):=z.below R
 have c1:W.cell? ⟨w.heap.size+1,0,none⟩=some (.slice none 0 0):=by rw [t];simp [go_sem]
 have c0:W.cell? ⟨w.heap.size,0,none⟩=some (.slice d ls.length cap):=by rw [t];simp [go_sem]
 have z1:W.frozen? ⟨w.heap.size+1,0,none⟩=false:=by rw [t];simp [go_sem]
 have M:Hid _:=t;have N:Hid _:=U;clear z
 go_enter func123,ntmps123
 have r:Hid (∀ I l,l.ownsRow (w.heap.size+2) 113 3 I (0+ls.length) (Ag []++Ag ls)->W.grownBy l (Value.slice (some ⟨w.heap.size+1+1,0,none⟩) 0 0).ownBlock->∃ a2 A,I=.slice a2 ls.length A/\l.ownsRow (w.heap.size+2) 113 3 (.slice a2 ls.length A) ls.length (Ag ls) /\
   l.cell? ⟨w.heap.size+1,0,none⟩=some (.slice none 0 0)/\l.frozen? ⟨w.heap.size+1,0,none⟩=false/\BW w l):=by
  intro I l C B
  rw [Nat.zero_add,show Ag []++Ag ls=Ag ls from rfl] at C
  obtain ⟨a2,A,y,-,-⟩:=Ef C;subst y
  have G:some (w.heap.size+1)≠(Value.slice (some ⟨w.heap.size+1+1,0,none⟩) 0 0).ownBlock:=by simp [Value.ownBlock]
  exact ⟨a2,A,rfl,C,(B.cell_far ⟨w.heap.size+1,0,none⟩ (by show w.heap.size+1<W.heap.size;omega) G).trans c1,(B.frozen_far ⟨w.heap.size+1,0,none⟩ (by show w.heap.size+1<W.heap.size;omega) G).trans z1,R.grown B R.size (fun j q=>by
   have:w.heap.size+1+1=j:=by simpa [Value.ownBlock] using q
   omega)⟩
 clear c1 z1
 go_wp2_with (at_builtin;rw [<- M.o];refine Gp _ rfl (.tmp 3) (.tmp 5) rfl (w.heap.size+2) _ 0 _ rfl L.o d cap ls rfl HZ.o (by omega) (by have:=N.o;omega) ?_;intro I l C B;obtain ⟨a2,A,y,o3,d1,e1,b2⟩:=r.o I l C B;subst y;have D:Hid (l.ownsRow (w.heap.size+2) 113 3 (.slice a2 ls.length A) ls.length (Ag ls)):=o3;have J:Hid (BW w l):=b2;clear C B o3 b2)
 refine bodyPost_ret (by simp [results,results123,go_sem,d1];try rfl) rfl ?_
 refine ⟨a2,A,rfl,?_,J.o.setCell (by show w.heap.size<=w.heap.size+1;omega) _⟩
 exact Bi (A5 D.o _ _ (fun g hg=>by have:=(D.o.lt g hg).1;simp only;omega)) (by omega)
theorem Hb {w:World} {base n sz:Nat} {t:TypeId} {v:Value} {xs:List Value} (h:w.ownsRow base t sz v n xs):∃ ao cap,v=.slice ao n cap:=by
 rcases h.2 with ⟨rfl,rfl⟩ | ⟨g,c,cQ,rfl,_⟩
 ·exact ⟨none,0,rfl⟩
 ·exact ⟨_,c,rfl⟩
theorem Jz {u d:World} {o:Obj} {g:Nat} (hg:g=u.heap.size) (h:(u.alloc o).grownBy d (some g)):BW u d :=
 (((Below.refl u.heap.size u).alloc nL o)).grown h (by simp) (fun k hk=>by cases hk;omega)
def Dt (a:Option Addr) (n:Nat):Prop:=∀ x,a=some x->x.block<n
def Cm (a:Option Addr) (n:Nat):Prop:=∀ x,a=some x->n<=x.block
theorem G8 {w:World} {base n cap sz m:Nat} {t:TypeId} {a:Option Addr} {xs:List Value} (h:w.ownsRow base t sz (.slice a n cap) n xs) (hm:w.heap.size<=m):Dt a m:=by
 intro x hx;subst hx
 have:=(h.lt x.block rfl).2
 omega
theorem Cw {w:World} {base n cap sz:Nat} {t:TypeId} {a:Option Addr} {xs:List Value} (h:w.ownsRow base t sz (.slice a n cap) n xs):Cm a base:=by
 intro x hx;subst hx;exact (h.lt x.block rfl).1
structure CpR (w:World) (b:Bk) (e:Ending) (w':World):Prop where
 res:∃ q base,e=.returned (C5 b q)/\Aq w' b q/\w'.ownsRow base 9 1 (.slice q.g b.log.length q.gc) b.log.length (Am b.log)/\w.heap.size<=base/\base<=w'.heap.size/\(Dt q.o base/\Dt q.a base/\Dt q.c base/\Dt q.l base)/\(Cm q.o w.heap.size/\Cm q.a w.heap.size/\Cm q.c w.heap.size/\Cm q.l w.heap.size/\Cm q.g w.heap.size)
 bel:BW w w'
theorem Oq (b:Bk) (p:Bp) (w:World) (hx:Aq w b p) (hn:D0 b) :
  Calls prog 71 #[C5 b p] w (CpR w b):=by
 have HX:Hid (∀ u,BW w u->Aq u b p):=fun u h=>hx.below h
 have HN:Hid (D0 b):=hn;clear hx hn;obtain ⟨td,f,az,cs,ls,lg⟩:=b;obtain ⟨o,oc,a,ac,c,cc,l,lc,g,gc⟩:=p;unfold C5
 simp only
 obtain ⟨u0,a5⟩:∃ u,u=(w.alloc (.cells #[qzI td,.slice o f.length oc,.slice a az.length ac,.slice c cs.length cc,.slice l ls.length lc,.slice g lg.length gc] 31)).alloc (.cells qzB 31):=⟨_,rfl⟩
 have d1:Hid (BW w u0):=by rw [Hid,a5];go_grown
 have d5:Hid (w.heap.size+1+1<=u0.heap.size):=by rw [Hid,a5];simp
 have h8:Hid (Z6 w.heap.size (qzI td) (.slice o f.length oc) (.slice a az.length ac) (.slice c cs.length cc) (.slice l ls.length lc) (.slice g lg.length gc) u0):=by
  rw [Hid,a5];exact (Z6.new w (qzI td) (.slice o f.length oc) (.slice a az.length ac) (.slice c cs.length cc) (.slice l ls.length lc) (.slice g lg.length gc) 31).below (bR.alloc nL _)
 have j2:Hid (Z6 (w.heap.size+1) (qzI 0) (.slice none 0 0) (.slice none 0 0) (.slice none 0 0) (.slice none 0 0) (.slice none 0 0) u0):=by
  have h:=Z6.new (w.alloc (.cells #[qzI td,.slice o f.length oc,.slice a az.length ac,.slice c cs.length cc,.slice l ls.length lc,.slice g lg.length gc] 31)) (qzI 0) (.slice none 0 0) (.slice none 0 0) (.slice none 0 0) (.slice none 0 0) (.slice none 0 0) 31
  rw [Hid,a5];simpa using h
 have j7:Hid _:=a5;clear a5
 go_enter func71,ntmps71
 go_upto_region 1 with fail
 rw [<- j7.o];clear j7
 have n1:f.length<=1048576:=by have:=HN.o.1;simpa using this
 have x1:=(h8.o.below (bR.alloc nL (.cells #[] 3))).c1
 have i4:Hid ((u0.alloc (.cells #[] 3)).ownsRow (w.heap.size+1+1) 3 1 (.slice (some ⟨u0.heap.size,0,none⟩) 0 0) 0 []):=by
  have h:=World.ownsRow_lit (base:=w.heap.size+1+1) (e:=3) (size:=1) u0 #[] 0 d5.o (by unfold maxLen;omega) rfl
  rw [Hid];simpa using h
 have h0:Hid _:=(HX.o _ (d1.o.alloc d1.o.size (.cells #[] 3))).off
 simp only at h0
 have i8:Hid (∀ B d,d.ownsRow (w.heap.size+1+1) 3 1 B (0+f.length) ([]++(f.map (Value.int .i64)))->(u0.alloc (.cells #[] 3)).grownBy d (some u0.heap.size)->∃ F I,B=.slice F f.length I/\d.ownsRow (w.heap.size+1+1) 3 1 (.slice F f.length I) f.length (f.map (Value.int .i64))/\Z6 w.heap.size (qzI td) (.slice o f.length oc) (.slice a az.length ac) (.slice c cs.length cc) (.slice l ls.length lc) (.slice g lg.length gc) d/\BW u0 d):=by
  intro B d s G;rw [Nat.zero_add,List.nil_append] at s;obtain ⟨F,I,hv⟩:=Hb s;subst hv;have y:=Jz rfl G;exact ⟨F,I,rfl,s,h8.o.below y,y⟩
 go_upto_region 2 with (at_builtin;refine Gf _ rfl (.tmp 3) (.tmp 5) rfl (w.heap.size+1+1) _ 0 [] rfl i4.o o oc f rfl h0.o (by omega) (by have:=d5.o;simp;omega) ?_;intro B d s G;obtain ⟨M,O,Z,r1,J,X⟩:=i8.o B d s G;subst Z;have y1:=J.c1;have f1:=J.z1;have d9:Hid _:=r1;have g5:Hid _:=J;have a3:Hid _:=X;clear s G J X r1)
 clear i4 h0 i8 x1;obtain ⟨u1,Y⟩:∃ u,u=d.setCell ⟨w.heap.size,1,none⟩ (.slice M f.length O):=⟨_,rfl⟩
 have h9:Hid (Z6 w.heap.size (qzI td) (.slice M f.length O) (.slice a az.length ac) (.slice c cs.length cc) (.slice l ls.length lc) (.slice g lg.length gc) u1):=by rw [Hid,Y];exact g5.o.set1 _
 have j3:Hid (Z6 (w.heap.size+1) (qzI 0) (.slice none 0 0) (.slice none 0 0) (.slice none 0 0) (.slice none 0 0) (.slice none 0 0) u1):=by rw [Hid,Y];exact (j2.o.below a3.o).far (by omega)
 have d2:Hid (BW w u1):=by rw [Hid,Y];exact (next d1.o a3.o).setCell nL _
 have d6:Hid (w.heap.size+1+1<=u1.heap.size):=by rw [Hid,Y];have:=a3.o.size;have:=d5.o;simp;omega
 have a7:Hid (u1.ownsRow (w.heap.size+1+1) 3 1 (.slice M f.length O) f.length (f.map (Value.int .i64))):=by rw [Hid,Y];exact Ad (d9.o) (by omega)
 rw [<- Y];clear Y y1 f1 g5 d9 a3 h8 j2 d1 d5 n1
 have n2:az.length<=1048576:=by have:=HN.o.2.1;simpa using this
 have x2:=(h9.o.below (bR.alloc nL (.cells #[] 107))).c2
 have i5:Hid ((u1.alloc (.cells #[] 107)).ownsRow (w.heap.size+1+1) 107 6 (.slice (some ⟨u1.heap.size,0,none⟩) 0 0) 0 []):=by
  have h:=World.ownsRow_lit (base:=w.heap.size+1+1) (e:=107) (size:=6) u1 #[] 0 d6.o (by unfold maxLen;omega) rfl
  rw [Hid];simpa using h
 have h1:Hid _:=(HX.o _ (d2.o.alloc d2.o.size (.cells #[] 107))).az
 simp only at h1
 have i9:Hid (∀ B d,d.ownsRow (w.heap.size+1+1) 107 6 B (0+az.length) ([]++(Ah az))->(u1.alloc (.cells #[] 107)).grownBy d (some u1.heap.size)->∃ F I,B=.slice F az.length I/\d.ownsRow (w.heap.size+1+1) 107 6 (.slice F az.length I) az.length (Ah az)/\Z6 w.heap.size (qzI td) (.slice M f.length O) (.slice a az.length ac) (.slice c cs.length cc) (.slice l ls.length lc) (.slice g lg.length gc) d/\BW u1 d):=by
  intro B d s G;rw [Nat.zero_add,List.nil_append] at s;obtain ⟨F,I,hv⟩:=Hb s;subst hv;have y:=Jz rfl G;exact ⟨F,I,rfl,s,h9.o.below y,y⟩
 go_upto_region 3 with (at_builtin;refine Bu _ rfl (.tmp 8) (.tmp 10) rfl (w.heap.size+1+1) _ 0 [] rfl i5.o a ac az rfl h1.o (by omega) (by have:=d6.o;simp;omega) ?_;intro B d s G _;obtain ⟨y,k2,Z,r2,J,X⟩:=i9.o B d s G;subst Z;have y2:=J.c2;have f2:=J.z2;have g0:Hid _:=r2;have g6:Hid _:=J;have L:Hid _:=X;clear s G J X r2)
 clear i5 h1 i9 x2;obtain ⟨u2,N⟩:∃ u,u=d.setCell ⟨w.heap.size,2,none⟩ (.slice y az.length k2):=⟨_,rfl⟩
 have i0:Hid (Z6 w.heap.size (qzI td) (.slice M f.length O) (.slice y az.length k2) (.slice c cs.length cc) (.slice l ls.length lc) (.slice g lg.length gc) u2):=by rw [Hid,N];exact g6.o.set2 _
 have j4:Hid (Z6 (w.heap.size+1) (qzI 0) (.slice none 0 0) (.slice none 0 0) (.slice none 0 0) (.slice none 0 0) (.slice none 0 0) u2):=by rw [Hid,N];exact (j3.o.below L.o).far (by omega)
 have d3:Hid (BW w u2):=by rw [Hid,N];exact (next d2.o L.o).setCell nL _
 have d7:Hid (w.heap.size+1+1<=u2.heap.size):=by rw [Hid,N];have:=L.o.size;have:=d6.o;simp;omega
 have a8:Hid (u2.ownsRow (w.heap.size+1+1) 3 1 (.slice M f.length O) f.length (f.map (Value.int .i64))):=by rw [Hid,N];exact Ad (Av a7.o L.o) (by omega)
 have b7:Hid (u2.ownsRow (w.heap.size+1+1) 107 6 (.slice y az.length k2) az.length (Ah az)):=by rw [Hid,N];exact Ad (g0.o) (by omega)
 rw [<- N];clear N y2 f2 g6 g0 L h9 j3 d2 d6 n2 a7
 have n3:cs.length<=1048576:=by have:=HN.o.2.2.1;simpa using this
 have x3:=(i0.o.below (bR.alloc nL (.cells #[] 61))).c3
 have i6:Hid ((u2.alloc (.cells #[] 61)).ownsRow (w.heap.size+1+1) 61 12 (.slice (some ⟨u2.heap.size,0,none⟩) 0 0) 0 []):=by
  have h:=World.ownsRow_lit (base:=w.heap.size+1+1) (e:=61) (size:=12) u2 #[] 0 d7.o (by unfold maxLen;omega) rfl
  rw [Hid];simpa using h
 have h2:Hid _:=(HX.o _ (d3.o.alloc d3.o.size (.cells #[] 61))).cs
 simp only at h2
 have j0:Hid (∀ B d,d.ownsRow (w.heap.size+1+1) 61 12 B (0+cs.length) ([]++(Aj cs))->(u2.alloc (.cells #[] 61)).grownBy d (some u2.heap.size)->∃ F I,B=.slice F cs.length I/\d.ownsRow (w.heap.size+1+1) 61 12 (.slice F cs.length I) cs.length (Aj cs)/\Z6 w.heap.size (qzI td) (.slice M f.length O) (.slice y az.length k2) (.slice c cs.length cc) (.slice l ls.length lc) (.slice g lg.length gc) d/\BW u2 d):=by
  intro B d s G;rw [Nat.zero_add,List.nil_append] at s;obtain ⟨F,I,hv⟩:=Hb s;subst hv;have y:=Jz rfl G;exact ⟨F,I,rfl,s,i0.o.below y,y⟩
 go_upto_region 4 with (at_builtin;refine Eh _ rfl (.tmp 13) (.tmp 15) rfl (w.heap.size+1+1) _ 0 [] rfl i6.o c cc cs rfl h2.o (by omega) (by have:=d7.o;simp;omega) ?_;intro B d s G _;obtain ⟨b3,k3,Z,r3,J,X⟩:=j0.o B d s G;subst Z;have y3:=J.c3;have f3:=J.z3;have g1:Hid _:=r3;have g7:Hid _:=J;have D:Hid _:=X;clear s G J X r3)
 clear i6 h2 j0 x3;obtain ⟨u3,H⟩:∃ u,u=d.setCell ⟨w.heap.size,3,none⟩ (.slice b3 cs.length k3):=⟨_,rfl⟩
 have d8:Hid (Z6 w.heap.size (qzI td) (.slice M f.length O) (.slice y az.length k2) (.slice b3 cs.length k3) (.slice l ls.length lc) (.slice g lg.length gc) u3):=by rw [Hid,H];exact g7.o.set3 _
 have j5:Hid (Z6 (w.heap.size+1) (qzI 0) (.slice none 0 0) (.slice none 0 0) (.slice none 0 0) (.slice none 0 0) (.slice none 0 0) u3):=by rw [Hid,H];exact (j4.o.below D.o).far (by omega)
 have g9:Hid (BW w u3):=by rw [Hid,H];exact (next d3.o D.o).setCell nL _
 have h4:Hid (w.heap.size+1+1<=u3.heap.size):=by rw [Hid,H];have:=D.o.size;have:=d7.o;simp;omega
 have b0:Hid (u3.ownsRow (w.heap.size+1+1) 3 1 (.slice M f.length O) f.length (f.map (Value.int .i64))):=by rw [Hid,H];exact Ad (Av a8.o D.o) (by omega)
 have b8:Hid (u3.ownsRow (w.heap.size+1+1) 107 6 (.slice y az.length k2) az.length (Ah az)):=by rw [Hid,H];exact Ad (Av b7.o D.o) (by omega)
 have c8:Hid (u3.ownsRow (w.heap.size+1+1) 61 12 (.slice b3 cs.length k3) cs.length (Aj cs)):=by rw [Hid,H];exact Ad (g1.o) (by omega)
 rw [<- H];clear H y3 f3 g7 g1 D i0 j4 d3 d7 n3 a8 b7
 have n4:ls.length<=1048576:=by have:=HN.o.2.2.2.1;simpa using this
 have x4:=d8.o.c4;have l1:=d8.o.z4;go_wp2_with fail
 refine (Hh _ _ ls _ (HX.o _ g9.o).ls (by omega)).mono ?_
 rintro e d ⟨b4,k4,rfl,o4,X⟩;have g3:Hid (d.ownsRow (w.heap.size+1+1) 113 3 (.slice b4 ls.length k4) ls.length (Ag ls)):=Bi o4 h4.o;have a4:Hid (Z6 w.heap.size (qzI td) (.slice M f.length O) (.slice y az.length k2) (.slice b3 cs.length k3) (.slice l ls.length lc) (.slice g lg.length gc) d):=d8.o.below X;have A:Hid _:=X;have y4:=a4.o.c4;have f4:=a4.o.z4;clear X o4 x4 l1;go_upto_region 5 with fail
 obtain ⟨R,C⟩:∃ u,u=d.setCell ⟨w.heap.size,4,none⟩ (.slice b4 ls.length k4):=⟨_,rfl⟩
 have i1:Hid (Z6 w.heap.size (qzI td) (.slice M f.length O) (.slice y az.length k2) (.slice b3 cs.length k3) (.slice b4 ls.length k4) (.slice g lg.length gc) R):=by rw [Hid,C];exact a4.o.set4 _
 have j6:Hid (Z6 (w.heap.size+1) (qzI 0) (.slice none 0 0) (.slice none 0 0) (.slice none 0 0) (.slice none 0 0) (.slice none 0 0) R):=by rw [Hid,C];exact (j5.o.below A.o).far (by omega)
 have d4:Hid (BW w R):=by rw [Hid,C];exact (next g9.o A.o).setCell nL _
 have h6:Hid (w.heap.size+1+1<=R.heap.size):=by rw [Hid,C];have:=A.o.size;have:=h4.o;simp;omega
 have S:Hid (R.ownsRow (w.heap.size+1+1) 3 1 (.slice M f.length O) f.length (f.map (Value.int .i64))):=by rw [Hid,C];exact Ad (Av b0.o A.o) (by omega)
 have T:Hid (R.ownsRow (w.heap.size+1+1) 107 6 (.slice y az.length k2) az.length (Ah az)):=by rw [Hid,C];exact Ad (Av b8.o A.o) (by omega)
 have U:Hid (R.ownsRow (w.heap.size+1+1) 61 12 (.slice b3 cs.length k3) cs.length (Aj cs)):=by rw [Hid,C];exact Ad (Av c8.o A.o) (by omega)
 have V:Hid (R.ownsRow (w.heap.size+1+1) 113 3 (.slice b4 ls.length k4) ls.length (Ag ls)):=by rw [Hid,C];exact Ad (g3.o) (by omega)
 rw [<- C];clear C y4 f4 a4 g3 A d8 j5 g9 h4 n4 b0 b8 c8
 have n5:lg.length<=1048576:=by have:=HN.o.2.2.2.2;simpa using this
 have x5:=(i1.o.below (bR.alloc nL (.cells #[] 9))).c5;obtain ⟨j,i2⟩:∃ n,n=R.heap.size:=⟨_,rfl⟩
 have a6:Hid (w.heap.size+1+1<=j/\j<=R.heap.size):=by rw [Hid,i2];exact ⟨h6.o,nL⟩
 have j8:Hid (Dt M j/\Dt y j/\Dt b3 j/\Dt b4 j):=by
  rw [Hid,i2];exact ⟨G8 S.o nL,G8 T.o nL,G8 U.o nL,G8 V.o nL⟩
 clear i2
 have i7:Hid ((R.alloc (.cells #[] 9)).ownsRow j 9 1 (.slice (some ⟨R.heap.size,0,none⟩) 0 0) 0 []):=by
  have h:=World.ownsRow_lit (base:=j) (e:=9) (size:=1) R #[] 0 a6.o.2 (by unfold maxLen;omega) rfl
  rw [Hid];simpa using h
 have h3:Hid _:=(HX.o _ (d4.o.alloc d4.o.size (.cells #[] 9))).log
 simp only at h3
 have j1:Hid (∀ B d,d.ownsRow j 9 1 B (0+lg.length) ([]++(Am lg))->(R.alloc (.cells #[] 9)).grownBy d (some R.heap.size)->∃ F I,B=.slice F lg.length I/\d.ownsRow j 9 1 (.slice F lg.length I) lg.length (Am lg)/\Z6 w.heap.size (qzI td) (.slice M f.length O) (.slice y az.length k2) (.slice b3 cs.length k3) (.slice b4 ls.length k4) (.slice g lg.length gc) d/\BW R d):=by
  intro B d s G;rw [Nat.zero_add,List.nil_append] at s;obtain ⟨F,I,hv⟩:=Hb s;subst hv;have y:=Jz rfl G;exact ⟨F,I,rfl,s,i1.o.below y,y⟩
 go_upto_region 6 with (at_builtin;refine Kh _ rfl (.tmp 22) (.tmp 24) rfl j _ 0 [] rfl i7.o g gc lg rfl h3.o (by omega) (by have:=a6.o;simp;omega) ?_;intro B d s G;obtain ⟨b5,k5,Z,r5,J,X⟩:=j1.o B d s G;subst Z;have y5:=J.c5;have f5:=J.z5;have g4:Hid _:=r5;have g8:Hid _:=J;have r:Hid _:=X;clear s G J X r5)
 clear i7 h3 j1 x5;obtain ⟨u5,z⟩:∃ u,u=d.setCell ⟨w.heap.size,5,none⟩ (.slice b5 lg.length k5):=⟨_,rfl⟩
 have k8:Hid (Z6 w.heap.size (qzI td) (.slice M f.length O) (.slice y az.length k2) (.slice b3 cs.length k3) (.slice b4 ls.length k4) (.slice b5 lg.length k5) u5):=by rw [Hid,z];exact g8.o.set5 _
 have k6:Hid (Z6 (w.heap.size+1) (qzI 0) (.slice none 0 0) (.slice none 0 0) (.slice none 0 0) (.slice none 0 0) (.slice none 0 0) u5):=by rw [Hid,z];exact (j6.o.below r.o).far (by omega)
 have i3:Hid (j<=u5.heap.size):=by rw [Hid,z];have:=r.o.size;have:=a6.o;simp;omega
 have j9:Hid (BW w u5):=by rw [Hid,z];exact (next d4.o r.o).setCell nL _
 have l2:Hid (w.heap.size+1+1<=u5.heap.size):=by rw [Hid,z];have:=r.o.size;have:=h6.o;simp;omega
 have b6:Hid (u5.ownsRow (w.heap.size+1+1) 3 1 (.slice M f.length O) f.length (f.map (Value.int .i64))):=by rw [Hid,z];exact Ad (Av S.o r.o) (by omega)
 have b9:Hid (u5.ownsRow (w.heap.size+1+1) 107 6 (.slice y az.length k2) az.length (Ah az)):=by rw [Hid,z];exact Ad (Av T.o r.o) (by omega)
 have c9:Hid (u5.ownsRow (w.heap.size+1+1) 61 12 (.slice b3 cs.length k3) cs.length (Aj cs)):=by rw [Hid,z];exact Ad (Av U.o r.o) (by omega)
 have d0:Hid (u5.ownsRow (w.heap.size+1+1) 113 3 (.slice b4 ls.length k4) ls.length (Ag ls)):=by rw [Hid,z];exact Ad (Av V.o r.o) (by omega)
 have W:Hid (u5.ownsRow j 9 1 (.slice b5 lg.length k5) lg.length (Am lg)):=by rw [Hid,z];exact Ad (g4.o) (by have:=a6.o;omega)
 rw [<- z];clear z y5 f5 g8 g4 r i1 j6 d4 h6 n5 S T U V;have k0:Hid (j<=u5.heap.size):=i3.o;obtain ⟨t0,t1,t2,t3,t4,t5,-,-,-,-,-,-⟩:=k8.o;obtain ⟨q0,q1,q2,q3,q4,q5,p0,p1,p2,p3,p4,p5⟩:=k6.o;go_wp2
 refine bodyPost_ret (by simp [results,results71,go_sem,q0,q1,q2,q3,q4,q5];try rfl) rfl ?_
 have bel:∀ (i:Nat) (x:Value) (u:World),BW w u->Below w.heap.size w (u.setCell ⟨w.heap.size+1,i,none⟩ x):=fun i x u h=>h.setCell (show w.heap.size<=w.heap.size+1 by omega) x
 have l3:=a6.o
 refine ⟨⟨⟨M,O,y,k2,b3,k3,b4,k4,b5,k5⟩,j,rfl,⟨Hq (Ad (Ad (Ad (Ad (Ad (Ad (b6.o) (by omega)) (by omega)) (by omega)) (by omega)) (by omega)) (by omega)),Fd (Ad (Ad (Ad (Ad (Ad (Ad (b9.o) (by omega)) (by omega)) (by omega)) (by omega)) (by omega)) (by omega)),F2 (Ad (Ad (Ad (Ad (Ad (Ad (c9.o) (by omega)) (by omega)) (by omega)) (by omega)) (by omega)) (by omega)),Df (Ad (Ad (Ad (Ad (Ad (Ad (d0.o) (by omega)) (by omega)) (by omega)) (by omega)) (by omega)) (by omega)),Ep (Ad (Ad (Ad (Ad (Ad (Ad (W.o) (by omega)) (by omega)) (by omega)) (by omega)) (by omega)) (by omega))⟩,(Ad (Ad (Ad (Ad (Ad (Ad (W.o) (by omega)) (by omega)) (by omega)) (by omega)) (by omega)) (by omega)),by omega,by simpa using k0.o,j8.o,⟨Cw (Bi b6.o (show w.heap.size<=_ by omega)),Cw (Bi b9.o (show w.heap.size<=_ by omega)),Cw (Bi c9.o (show w.heap.size<=_ by omega)),Cw (Bi d0.o (show w.heap.size<=_ by omega)),Cw (Bi W.o (show w.heap.size<=_ by omega))⟩⟩,bel _ _ _ (bel _ _ _ (bel _ _ _ (bel _ _ _ (bel _ _ _ (bel _ _ _ j9.o)))))⟩
def Im (a:Option Addr) (B:Nat):Prop:=∀ x,a=some x->x.block≠B
theorem An (u:World) (B i:Nat) (x:Value):u.grownBy (u.setCell (qzA B i) x) (some B):=⟨rfl,rfl,rfl,by simp,fun j _ hj=>Below.heap_setCell _ _ _ _ (fun e=>hj (by rw [e]))⟩
theorem Mi {b off:Nat} {a:Option Addr} {row:Option Nat} (L:a=some (qzA b off)) (h:∀ B,row=some B->Im a B):some b≠row:=fun e=>h b e.symm _ L rfl
theorem Aw.far {u s:World} {a:Option Addr} {zs:List Int} {row:Option Nat} (h:Aw u a zs) (g:u.grownBy s row) (d:∀ B,row=some B->Im a B):Aw s a zs:=by
 rcases h with h | ⟨b,off,k,f,r⟩
 ·exact .inl h
 ·exact .inr ⟨b,off,k,Nat.lt_of_lt_of_le f g.size,fun i hi=>(g.cell_far (qzA b (off+i)) f (Mi k d)).trans (r i hi)⟩
theorem Bh.far {u s:World} {a:Option Addr} {rs:Be} {row:Option Nat} (h:Bh u a rs) (g:u.grownBy s row) (d:∀ B,row=some B->Im a B):Bh s a rs:=by
 rcases h with h | ⟨b,off,k,f,r⟩
 ·exact .inl h
 ·exact .inr ⟨b,off,k,Nat.lt_of_lt_of_le f g.size,fun i hi=>(g.cell_far (qzA b (off+i)) f (Mi k d)).trans (r i hi)⟩
theorem Ar.far {u s:World} {a:Option Addr} {az:List Au} {row:Option Nat} (h:Ar u a az) (g:u.grownBy s row) (d:∀ B,row=some B->Im a B):Ar s a az:=by
 rcases h with h | ⟨b,off,k,f,r⟩
 ·exact .inl h
 ·have hs:=Mi k d
  exact .inr ⟨b,off,k,Nat.lt_of_lt_of_le f g.size,fun i hi=>⟨(g.cell_far (qzA b (off+i*6)) f hs).trans (r i hi).1,(g.cell_far (qzA b (off+i*6+1)) f hs).trans (r i hi).2.1,(g.cell_far (qzA b (off+i*6+2)) f hs).trans (r i hi).2.2.1,(g.cell_far (qzA b (off+i*6+3)) f hs).trans (r i hi).2.2.2.1,(g.cell_far (qzA b (off+i*6+4)) f hs).trans (r i hi).2.2.2.2.1,(g.cell_far (qzA b (off+i*6+5)) f hs).trans (r i hi).2.2.2.2.2⟩⟩
theorem A0.far {u s:World} {a:Option Addr} {cs:List Cs} {row:Option Nat} (h:A0 u a cs) (g:u.grownBy s row) (d:∀ B,row=some B->Im a B):A0 s a cs:=by
 rcases h with h | ⟨b,off,k,f,r⟩
 ·exact .inl h
 ·exact .inr ⟨b,off,k,Nat.lt_of_lt_of_le f g.size,fun i hi=>(r i hi).grown g (Mi k d)⟩
theorem Ai.far {u s:World} {a:Option Addr} {ls:List Ln} {row:Option Nat} (h:Ai u a ls) (g:u.grownBy s row) (d:∀ B,row=some B->Im a B):Ai s a ls:=by
 rcases h with h | ⟨b,off,k,f,r⟩
 ·exact .inl h
 ·have hs:=Mi k d
  exact .inr ⟨b,off,k,Nat.lt_of_lt_of_le f g.size,fun i hi=>⟨(g.cell_far (qzA b (off+i*3)) f hs).trans (r i hi).1,(g.cell_far (qzA b (off+i*3+1)) f hs).trans (r i hi).2.1,(g.cell_far (qzA b (off+i*3+2)) f hs).trans (r i hi).2.2⟩⟩
structure Wq (q:Bp) (B:Nat):Prop where
 o:Im q.o B
 a:Im q.a B
 c:Im q.c B
 l:Im q.l B
 g:Im q.g B
theorem Aq.set {u:World} {b:Bk} {q:Bp} {B i:Nat} {x:Value} (h:Aq u b q) (n:Wq q B):Aq (u.setCell (qzA B i) x) b q :=
 ⟨h.off.far (An u B i x) (fun B' e=>by cases e;exact n.o),h.az.far (An u B i x) (fun B' e=>by cases e;exact n.a),h.cs.far (An u B i x) (fun B' e=>by cases e;exact n.c),h.ls.far (An u B i x) (fun B' e=>by cases e;exact n.l),h.log.far (An u B i x) (fun B' e=>by cases e;exact n.g)⟩
theorem Aq.put6 {u:World} {b:Bk} {q:Bp} {B:Nat} (h:Aq u b q) (n:Wq q B) (t v w y z A:Value) :
  Aq ((((((u.setCell (qzA B 0) t).setCell (qzA B 1) v).setCell (qzA B 2) w).setCell (qzA B 3) y).setCell (qzA B 4) z).setCell (qzA B 5) A) b q :=
 (((((h.set n).set n).set n).set n).set n).set n
theorem Bb {a:Option Addr} {n B:Nat} (h:Cm a n) (hB:B<n):Im a B:=fun x hx e=>by have:=h x hx;omega
theorem Td {a:Option Addr} {n B:Nat} (h:Dt a n) (hB:n<=B):Im a B:=fun x hx e=>by have:=h x hx;omega
structure Vb (p:Bp) (n:Nat):Prop where
 o:Dt p.o n
 a:Dt p.a n
 c:Dt p.c n
 l:Dt p.l n
 g:Dt p.g n
theorem Dt.mono {a:Option Addr} {n m:Nat} (h:Dt a n) (M:n<=m):Dt a m:=fun x hx=>by have:=h x hx;omega
theorem Kf {a a1:Option Addr} {n m B:Nat} (h:a=a1\/Cm a m) (k:Dt a1 n) (hb:n<=B) (hB:B<m):Im a B:=by
 rcases h with rfl | h
 ·exact Td k hb
 ·exact Bb h hB
theorem nX {p q:Bp} {n m B:Nat} (h:Vb p n) (hg:q.g=p.g) (C:q.o=p.o/\(q.a=p.a\/Cm q.a m)/\(q.c=p.c\/Cm q.c m)/\(q.l=p.l\/Cm q.l m)) (hb:n<=B) (hB:B<m):Wq q B :=
 ⟨Kf (m:=m) (.inl C.1) h.o hb hB,Kf C.2.1 h.a hb hB,Kf C.2.2.1 h.c hb hB,Kf C.2.2.2 h.l hb hB,Kf (m:=m) (.inl hg) h.g hb hB⟩
theorem Z6.put6 {B:Nat} {D F G H I J:Value} {u:World} (h:Z6 B D F G H I J u) (t v w y z A:Value) :
  Z6 B t v w y z A ((((((u.setCell (qzA B 0) t).setCell (qzA B 1) v).setCell (qzA B 2) w).setCell (qzA B 3) y).setCell (qzA B 4) z).setCell (qzA B 5) A) :=
 (((((h.set0 t).set1 v).set2 w).set3 y).set4 z).set5 A
theorem Z6.far6 {B B':Nat} {D F G H I J:Value} {u:World} (h:Z6 B D F G H I J u) (d:B'≠B) (t v w y z A:Value) :
  Z6 B D F G H I J ((((((u.setCell (qzA B' 0) t).setCell (qzA B' 1) v).setCell (qzA B' 2) w).setCell (qzA B' 3) y).setCell (qzA B' 4) z).setCell (qzA B' 5) A) :=
 (((((h.far d).far d).far d).far d).far d).far d
structure Ff where
 prune:List Au->Int->List Au
 use:List Au->Int->List Au
 useOk:List Au->Int->Bool
 add:List Au->Au->List Au
 addOk:List Au->Au->Bool
 best:List Au->Int->Int->Int->Int->Int->Prop
 stC:Int->Int->Int->Int->Int->Cs
 stE:Int->Int->Int->Int->Int->List En
 stOk:Int->Int->Int->Int->Int->Bool
 doC:Cs->Ac->Int->List Int->Cs
 doE:Cs->Ac->Int->List Int->List En
 doV:Cs->Ac->Int->List Int->Int
 all:List Ln->List En->List Ln
 allOk:List Ln->List En->Bool
structure Nc (F:Ff):Prop where
 prune:∀ (ao:Option Addr) (cap:Nat) (az:List Au) (t:Int) (w:World),Ar w ao az->az.length<=1048576->Calls prog 178 #[.slice ao az.length cap,qzI t] w (pA w (F.prune az t))
 use:∀ (ao:Option Addr) (cap:Nat) (az:List Au) (i:Int) (w:World),Ar w ao az->az.length<=1048576->Calls prog 183 #[.slice ao az.length cap,qzI i] w (Pi w (F.use az i) (F.useOk az i))
 add:∀ (ao:Option Addr) (cap:Nat) (az:List Au) (a:Au) (w:World),Ar w ao az->az.length<=1048576->a.ref.length<=1048576->Calls prog 143 #[.slice ao az.length cap,Fe a] w (Pi w (F.add az a) (F.addOk az a))
 best:∀ (ao:Option Addr) (cap:Nat) (az:List Au) (iY cQ am day:Int) (w:World),Ar w ao az->az.length<=1048576->(∀ a ∈ az,a.ref.length<=1048576)->(Lit.int .i64 am).wf=true->(Lit.int .i64 day).wf=true ->
  Calls prog 180 #[.slice ao az.length cap,qzI iY,qzI cQ,qzI am,qzI day] w fun e w'=>∃ x,e=.returned (qzI x)/\F.best az iY cQ am day x/\BW w w'
 start:∀ (iY aZ cQ am day:Int) (w:World),Calls prog 181 #[qzI iY,qzI aZ,qzI cQ,qzI am,qzI day] w fun e w'=>∃ ao cap,e=.returned (.tuple #[cv (F.stC iY aZ cQ am day),.slice ao (F.stE iY aZ cQ am day).length cap,.bool (F.stOk iY aZ cQ am day)])/\w'.ownsRow w.heap.size 269 4 (.slice ao (F.stE iY aZ cQ am day).length cap) (F.stE iY aZ cQ am day).length (Ba (F.stE iY aZ cQ am day))/\BW w w'
 small:∀ iY aZ cQ am day,(F.stE iY aZ cQ am day).length<=1048576
 act:∀ (c:Cs) (a:Ac) (t:Int) (ao:Option Addr) (cp:Nat) (zs:List Int) (w:World),Aw w ao zs->zs.length<=1048576->Calls prog 184 #[cv c,av a,qzI t,.slice ao zs.length cp] w fun e w'=>∃ ao cap,e=.returned (.tuple #[cv (F.doC c a t zs),.slice ao (F.doE c a t zs).length cap,qzI (F.doV c a t zs)])/\w'.ownsRow w.heap.size 269 4 (.slice ao (F.doE c a t zs).length cap) (F.doE c a t zs).length (Ba (F.doE c a t zs))/\BW w w'
 few:∀ c a t zs,(F.doE c a t zs).length<=1048576
 code:∀ c a t zs,0<=F.doV c a t zs/\F.doV c a t zs<=1000
 post:∀ (ao:Option Addr) (cap:Nat) (ls:List Ln) (eo:Option Addr) (ec:Nat) (es:List En) (w:World),Ai w ao ls->ls.length<=1048576->C8 w eo es->es.length<=1048576 ->
  Calls prog 182 #[.agg #[.slice ao ls.length cap],.slice eo es.length ec] w fun e w'=>∃ ao cap,e=.returned (.tuple #[.agg #[.slice ao (F.all ls es).length cap],.bool (F.allOk ls es)])/\w'.ownsRow w.heap.size 113 3 (.slice ao (F.all ls es).length cap) (F.all ls es).length (Ag (F.all ls es))/\BW w w'
def U8 (w:World) (p:Bp) (A:Bk) (code:Int) (e:Ending) (w':World):Prop :=
 ∃ q,e=.returned (.tuple #[C5 A q,qzI code])/\Aq w' A q/\q.g=p.g/\q.gc=p.gc/\(q.o=p.o/\(q.a=p.a\/Cm q.a w.heap.size)/\(q.c=p.c\/Cm q.c w.heap.size)/\(q.l=p.l\/Cm q.l w.heap.size))/\BW w w'
theorem Ax {w u:World} {R:Nat} (b:w.heap.size<=R) (h:BW w u) (k m r s y z:Value) :
  Below w.heap.size w ((((((u.setCell (qzA R 0) k).setCell (qzA R 1) m).setCell (qzA R 2) r).setCell (qzA R 3) s).setCell (qzA R 4) y).setCell (qzA R 5) z) :=
 (((((h.setCell (p:=(qzA R 0)) b _).setCell (p:=(qzA R 1)) b _).setCell (p:=(qzA R 2)) b _).setCell (p:=(qzA R 3)) b _).setCell (p:=(qzA R 4)) b _).setCell (p:=(qzA R 5)) b _
theorem Ea {u:World} {base n size R:Nat} {t:TypeId} {v:Value} {d:List Value} (o:u.ownsRow base t size v n d) (hB:R<base) (k m r s y z:Value) :
  ((((((u.setCell (qzA R 0) k).setCell (qzA R 1) m).setCell (qzA R 2) r).setCell (qzA R 3) s).setCell (qzA R 4) y).setCell (qzA R 5) z).ownsRow base t size v n d :=
 Ad (Ad (Ad (Ad (Ad (Ad o hB) hB) hB) hB) hB) hB
theorem N6 {u:World} {base n size X:Nat} {t:TypeId} {v:Value} {d:List Value} (c:Cs) (o:u.ownsRow base t size v n d) (hB:X<base):(Cz u X c).ownsRow base t size v n d :=
 Ad (Ad (Ad (Ad (Ad (Ad (Ad (Ad (Ad (Ad (Ad (Ad o hB) hB) hB) hB) hB) hB) hB) hB) hB) hB) hB) hB
theorem Qf {u f:World} {t:TypeId} (j:Below (u.alloc (.cells #[qzI 0,qzI 0,qzI 0,qzI 0,qzI 0,qzI 0,qzI 0,qzI 0,qzI 0,.bool false,qzI 0,qzI 0] t)).drew.heap.size (u.alloc (.cells #[qzI 0,qzI 0,qzI 0,qzI 0,qzI 0,qzI 0,qzI 0,qzI 0,qzI 0,.bool false,qzI 0,qzI 0] t)).drew f) :
  CB u.heap.size 0 ⟨0,0,0,0,0,0,0,0,0,false,0,0⟩ f/\FZ u.heap.size 0 f/\Below (u.heap.size+1) (u.alloc (.cells #[qzI 0,qzI 0,qzI 0,qzI 0,qzI 0,qzI 0,qzI 0,qzI 0,qzI 0,.bool false,qzI 0,qzI 0] t)) f:=by
 have B:=(CB.new u ⟨0,0,0,0,0,0,0,0,0,false,0,0⟩ t).below (bR.drew)
 have C:=(FZ.new u #[qzI 0,qzI 0,qzI 0,qzI 0,qzI 0,qzI 0,qzI 0,qzI 0,qzI 0,.bool false,qzI 0,qzI 0] t).below (by simp) (bR.drew)
 refine ⟨B.below j,C.below (by simp) j,?_⟩
 exact ((Below.refl (u.heap.size+1) _).drew).trans (j.mono (by simp))
def Fr (F:Ff) (b:Bk) (n:Int):Bk×Int:=if Dn n=true/\b.today<n then (⟨n,b.off,F.prune b.az n,b.cs,b.ls,b.log⟩,0) else (b,4)
theorem bH (F:Ff) (b:Bk) {n:Int} (h:Dn n=false):Fr F b n=(b,4):=if_neg (by rw [h];simp)
theorem cS (F:Ff) {b:Bk} {n:Int} (h:¬ b.today<n):Fr F b n=(b,4):=if_neg (fun e=>h e.2)
theorem cA (F:Ff) {b:Bk} {n:Int} (h:Dn n=true) (g:b.today<n):Fr F b n=(⟨n,b.off,F.prune b.az n,b.cs,b.ls,b.log⟩,0):=if_pos ⟨h,g⟩
def Gs (u:World) (g k:Nat) (D:Cs):World:=((((((((((((u.setCell (qzA g (k*12)) (qzI D.iss)).setCell (qzA g (k*12+1)) (qzI D.acq)).setCell (qzA g (k*12+2)) (qzI D.cur)).setCell (qzA g (k*12+3)) (qzI D.am)).setCell (qzA g (k*12+4)) (qzI D.st)).setCell (qzA g (k*12+5)) (qzI D.rsn)).setCell (qzA g (k*12+6)) (qzI D.cl)).setCell (qzA g (k*12+7)) (qzI D.bk)).setCell (qzA g (k*12+8)) (qzI D.fee)).setCell (qzA g (k*12+9)) (.bool D.cop)).setCell (qzA g (k*12+10)) (qzI D.sta)).setCell (qzA g (k*12+11)) (qzI D.due))
theorem Pa {w u:World} {g n:Nat} (k:Nat) (D:Cs) (b:Below n w u) (f:n<=g):Below n w (Gs u g k D) :=
 (((((((((((b.setCell f _).setCell f _).setCell f _).setCell f _).setCell f _).setCell f _).setCell f _).setCell f _).setCell f _).setCell f _).setCell f _).setCell f _
theorem Od {u:World} {base g cap:Nat} {t:TypeId} {cs:List Cs} {k:Nat} (D:Cs) (O:k<cs.length) (ho:u.ownsRow base t 12 (.slice (some (qzA g 0)) cs.length cap) cs.length (Aj cs)) :
  (Gs u g k D).ownsRow base t 12 (.slice (some (qzA g 0)) cs.length cap) cs.length (Aj (cs.set k D)):=by
 have R:=((((((((((((ho.stored (k*12) (qzI D.iss)).1.stored (k*12+1) (qzI D.acq)).1.stored (k*12+2) (qzI D.cur)).1.stored (k*12+3) (qzI D.am)).1.stored (k*12+4) (qzI D.st)).1.stored (k*12+5) (qzI D.rsn)).1.stored (k*12+6) (qzI D.cl)).1.stored (k*12+7) (qzI D.bk)).1.stored (k*12+8) (qzI D.fee)).1.stored (k*12+9) (.bool D.cop)).1.stored (k*12+10) (qzI D.sta)).1.stored (k*12+11) (qzI D.due)).1;rw [Pc cs D k O] at R;exact R
theorem Vg {u J:World} {a:Option Addr} {ls:List Ln} {B:Nat} (h:Ai u a ls) (N:Dt a B) (hb:Below B u J):Ai J a ls:=by
 rcases h with h | ⟨b,off,rfl,A,G⟩
 ·exact .inl h
 ·have hl:b<B:=N _ rfl
  exact .inr ⟨b,off,rfl,Nat.lt_of_lt_of_le A hb.size,fun i hi=>by
   obtain ⟨c1,c2,c3⟩:=G i hi;exact ⟨(hb.cell (p:=(qzA b _)) hl).trans c1,(hb.cell (p:=(qzA b _)) hl).trans c2,(hb.cell (p:=(qzA b _)) hl).trans c3⟩⟩
theorem Hf {u:World} {base n cap sz:Nat} {t:TypeId} {a:Option Addr} {j:List Value} (h:u.ownsRow base t sz (.slice a n cap) n j) (f:0<n):∃ g,a=some (qzA g 0)/\base<=g/\g<u.heap.size:=by
 rcases h.2 with ⟨_,Y⟩ | ⟨g,c,L,l,I⟩
 ·omega
 ·obtain ⟨rfl,rfl⟩:a=some (qzA g 0)/\cap=c:=by simpa using l
  exact ⟨g,rfl,(h.lt g rfl).1,(h.lt g rfl).2⟩
theorem Rc {u:World} {a:Option Addr} {ls:List Ln} {R:Nat} (h:Ai u a ls) (n:Im a R) (S T U V W X:Value) :
  Ai ((((((u.setCell (qzA R 0) S).setCell (qzA R 1) T).setCell (qzA R 2) U).setCell (qzA R 3) V).setCell (qzA R 4) W).setCell (qzA R 5) X) a ls:=by
 have s:∀ (v:World) (i:Nat) (x:Value),Ai v a ls->Ai (v.setCell (qzA R i) x) a ls:=fun v i x l=>l.far (An _ _ _ _) (fun Q hQ=>by cases hQ;exact n)
 exact s _ _ _ (s _ _ _ (s _ _ _ (s _ _ _ (s _ _ _ (s _ _ _ h)))))
theorem sC {D:Cs} : cv D=.agg #[qzI D.iss,qzI D.acq,qzI D.cur,qzI D.am,qzI D.st,qzI D.rsn,qzI D.cl,qzI D.bk,qzI D.fee,.bool D.cop,qzI D.sta,qzI D.due]:=rfl
def Ja (F:Ff) (b:Bk) (i:Int) (x:Ac):Bk×Int :=
 if ¬ (0<=i/\i<=(b.cs.length:Int) - 1) then (b,5)
 else if F.doV (A8 b.cs i.toNat) x b.today b.off≠0 then (b,10+F.doV (A8 b.cs i.toNat) x b.today b.off)
 else if F.allOk b.ls (F.doE (A8 b.cs i.toNat) x b.today b.off)=false then (b,6)
 else (⟨b.today,b.off,b.az,b.cs.set i.toNat (F.doC (A8 b.cs i.toNat) x b.today b.off),F.all b.ls (F.doE (A8 b.cs i.toNat) x b.today b.off),b.log⟩,0)
theorem cE (F:Ff) {b:Bk} {i:Int} (x:Ac) (h:¬ (0<=i/\i<=(b.cs.length:Int) - 1)):Ja F b i x=(b,5):=if_pos h
theorem cD (F:Ff) {b:Bk} {i:Int} {x:Ac} (h:0<=i/\i<=(b.cs.length:Int) - 1) (g:F.doV (A8 b.cs i.toNat) x b.today b.off≠0):Ja F b i x=(b,10+F.doV (A8 b.cs i.toNat) x b.today b.off):=by
 rw [Ja,if_neg (fun e=>e h),if_pos g]
theorem dC (F:Ff) {b:Bk} {i:Int} {x:Ac} (h:0<=i/\i<=(b.cs.length:Int) - 1) (g:F.doV (A8 b.cs i.toNat) x b.today b.off=0) (k:F.allOk b.ls (F.doE (A8 b.cs i.toNat) x b.today b.off)=false):Ja F b i x=(b,6):=by
 rw [Ja,if_neg (fun e=>e h),if_neg (fun e=>e g),if_pos k]
theorem bE (F:Ff) {b:Bk} {i:Int} {x:Ac} (h:0<=i/\i<=(b.cs.length:Int) - 1) (g:F.doV (A8 b.cs i.toNat) x b.today b.off=0) (k:F.allOk b.ls (F.doE (A8 b.cs i.toNat) x b.today b.off)=true) :
  Ja F b i x=(⟨b.today,b.off,b.az,b.cs.set i.toNat (F.doC (A8 b.cs i.toNat) x b.today b.off),F.all b.ls (F.doE (A8 b.cs i.toNat) x b.today b.off),b.log⟩,0):=by
 rw [Ja,if_neg (fun e=>e h),if_neg (fun e=>e g),if_neg (by rw [k];decide)]
def Jk (F:Ff) (b:Bk) (n0 n1 n2 n3 x:Int):Bk×Int :=
 if x<0 then (b,3)
 else if 150<=b.cs.length then (b,2)
 else if F.stOk n0 n1 n2 n3 b.today=false then (b,5)
 else if F.allOk b.ls (F.stE n0 n1 n2 n3 b.today)=false then (b,6)
 else (⟨b.today,b.off,F.use b.az x,b.cs++[F.stC n0 n1 n2 n3 b.today],F.all b.ls (F.stE n0 n1 n2 n3 b.today),b.log⟩,0)
theorem cK (F:Ff) {b:Bk} {n0 n1 n2 n3 x:Int} (h:x<0):Jk F b n0 n1 n2 n3 x=(b,3):=if_pos h
theorem bQ (F:Ff) {b:Bk} {n0 n1 n2 n3 x:Int} (h:¬ x<0) (g:150<=b.cs.length):Jk F b n0 n1 n2 n3 x=(b,2):=by rw [Jk,if_neg h,if_pos g]
theorem cO (F:Ff) {b:Bk} {n0 n1 n2 n3 x:Int} (h:¬ x<0) (g:¬ 150<=b.cs.length) (k:F.stOk n0 n1 n2 n3 b.today=false):Jk F b n0 n1 n2 n3 x=(b,5):=by rw [Jk,if_neg h,if_neg g,if_pos k]
theorem cM (F:Ff) {b:Bk} {n0 n1 n2 n3 x:Int} (h:¬ x<0) (g:¬ 150<=b.cs.length) (k:F.stOk n0 n1 n2 n3 b.today=true) (m:F.allOk b.ls (F.stE n0 n1 n2 n3 b.today)=false):Jk F b n0 n1 n2 n3 x=(b,6):=by
 rw [Jk,if_neg h,if_neg g,if_neg (by rw [k];decide),if_pos m]
theorem bF (F:Ff) {b:Bk} {n0 n1 n2 n3 x:Int} (h:¬ x<0) (g:¬ 150<=b.cs.length) (k:F.stOk n0 n1 n2 n3 b.today=true) (m:F.allOk b.ls (F.stE n0 n1 n2 n3 b.today)=true) :
  Jk F b n0 n1 n2 n3 x=(⟨b.today,b.off,F.use b.az x,b.cs++[F.stC n0 n1 n2 n3 b.today],F.all b.ls (F.stE n0 n1 n2 n3 b.today),b.log⟩,0):=by
 rw [Jk,if_neg h,if_neg g,if_neg (by rw [k];decide),if_neg (by rw [m];decide)]
theorem Jq {w:World} {base n:Nat} {v:Value} {j:List Value} (h:w.ownsRow base 61 12 v n j) (l:v≠.slice none 0 0):∃ g c,v=.slice (some (qzA g 0)) n c:=by
 rcases h.2 with ⟨h,_⟩ | ⟨g,c,L,h,_⟩
 ·exact absurd h l
 ·exact ⟨g,c,h⟩
theorem Cv {q:Array Oper} {o:Oper} {a:Act} {w:World} {K:Act->World->Prop} {Q:Exit->Act->World->Prop} {E:Prop} (H:o.guard=none) (s x:Operand)
  (ho:o.op=.call { callee:=.builtin .append,args:=#[s,x],argTypes:=#[26,26] }) (base:Nat) (v:Value) (n:Nat) (j:List Value) (hs:a.eval s=v) (hown:w.ownsRow base 61 12 v n j)
  (ao:Option Addr) (c:Nat) (fs:List Cs) (hx:a.eval x=.slice ao fs.length c) (hz:A0 w ao fs) (f:n+fs.length<=5000000) (hbase:base<=w.heap.size)
  (h:∀ y w',w'.ownsRow base 61 12 y (n+fs.length) (j++Aj fs)->w.grownBy w' v.ownBlock->(v≠.slice none 0 0->y≠.slice none 0 0)->K (a.put o.dst y) w') :
  if Region.wanted o (yielded q a.tmps)=true then Oper.wp prog o a w K Q else E:=by
 have hw:Region.wanted o (yielded q a.tmps)=true:=by simp [Region.wanted,H]
 rw [if_pos hw];obtain ⟨y,w',I,M,A,G⟩:=Ix w base o.type v n j hown ao c fs hz f hbase;unfold Oper.wp execOp
 simp only [ho,resolve,invoke,builtin,Sem.run_bind,Sem.run_pure,Result.andThen_ok,List.map_toArray,List.map_cons,List.map_nil,hs,hx,I]
 exact h y w' M A G
theorem J3 {u:World} {g:Nat} {C:Cs} (h:CB g 0 C u):A0 u (some (qzA g 0)) [C] :=
 .inr ⟨g,0,rfl,h.lt,fun i hi=>by
  obtain rfl:i=0:=by simpa using hi
  simpa [A8] using h⟩
theorem qK (w:World) (C:Cs):((w.alloc (.cells #[qzI C.iss,qzI C.acq,qzI C.cur,qzI C.am,qzI C.st,qzI C.rsn,qzI C.cl,qzI C.bk,qzI C.fee,.bool C.cop,qzI C.sta,qzI C.due] 61)).alloc (.cells #[] 61)).ownsRow w.heap.size 61 12 (.slice (some ⟨w.heap.size+1,0,none⟩) 0 0) 0 []:=by
 have h:=World.ownsRow_lit (base:=w.heap.size) (e:=61) (size:=12) (w.alloc (.cells #[qzI C.iss,qzI C.acq,qzI C.cur,qzI C.am,qzI C.st,qzI C.rsn,qzI C.cl,qzI C.bk,qzI C.fee,.bool C.cop,qzI C.sta,qzI C.due] 61)) #[] 0 (by simp) (by unfold maxLen;omega) rfl
 simpa using h
theorem rF (w:World) (C:Cs):CB (w.heap.size+1) 0 C ((w.alloc (.cells #[] 61)).alloc (.cells #[qzI C.iss,qzI C.acq,qzI C.cur,qzI C.am,qzI C.st,qzI C.rsn,qzI C.cl,qzI C.bk,qzI C.fee,.bool C.cop,qzI C.sta,qzI C.due] 61)):=by
 have h:=CB.new (w.alloc (.cells #[] 61)) C 61
 simpa using h
def Eo:List UInt8:=[100,97,121]
def Dy:List UInt8:=[97,117,116,104]
def I7:List UInt8:=[112,97,121]
def Nz:List UInt8:=[97,99,116]
def Ca (ws:Be):Bool:=decide (Al ws 0=Eo) && (decide (ws.length=2) && decide (0<=Ae (Al ws 1)))
def Bq (ws:Be):Bool:=decide (Al ws 0=Dy) && decide (ws.length=5)
def Da (ws:Be):Bool:=decide (Al ws 0=I7) && decide (ws.length=5)
def Fl (ws:Be):Bool:=decide (Al ws 0=Nz) && (decide (ws.length=5) && decide (0<=Bz (Al ws 2)))
def Fq (F:Ff) (b:Bk) (ref:List UInt8) (n0 n1 n2:Int):Bk×Int :=
 if F.addOk b.az ⟨ref,n0,n1,n2,b.today,false⟩=true then (⟨b.today,b.off,F.add b.az ⟨ref,n0,n1,n2,b.today,false⟩,b.cs,b.ls,b.log⟩,0) else (b,3)
def Db (F:Ff) (z:Bk->Int->Int->Int->Int->Bk×Int->Prop) (Act:Bk->Int->Ac->Bk×Int) (b:Bk) (d:List UInt8) (r:Bk×Int):Prop :=
 if Ca (Ab d)=true then r=Fr F b (Ae (Al (Ab d) 1))
 else if Bq (Ab d)=true then (if Ap ((Ab d).drop 2)=true then r=Fq F b (Al (Ab d) 1) (Ae (Al (Ab d) 2)) (Ae (Al (Ab d) 3)) (Ae (Al (Ab d) 4)) else r=(b,1))
 else if Da (Ab d)=true then (if Ap ((Ab d).drop 1)=true then z b (Ae (Al (Ab d) 1)) (Ae (Al (Ab d) 2)) (Ae (Al (Ab d) 3)) (Ae (Al (Ab d) 4)) r else r=(b,1))
 else if Fl (Ab d)=true then (if Ap [Al (Ab d) 1,Al (Ab d) 3,Al (Ab d) 4]=true then r=Act b (Ae (Al (Ab d) 1)) ⟨Bz (Al (Ab d) 2),Ae (Al (Ab d) 3),Ae (Al (Ab d) 4)⟩ else r=(b,1))
 else r=(b,1)
namespace Kb
structure Z8 (B:Nat) (y d f A p C D F:Value) (u:World):Prop where
 c0:u.cell? (qzA B 0)=some y
 c1:u.cell? (qzA B 1)=some d
 c2:u.cell? (qzA B 2)=some f
 c3:u.cell? (qzA B 3)=some A
 c4:u.cell? (qzA B 4)=some p
 c5:u.cell? (qzA B 5)=some C
 c6:u.cell? (qzA B 6)=some D
 c7:u.cell? (qzA B 7)=some F
 z0:u.frozen? (qzA B 0)=false
 z1:u.frozen? (qzA B 1)=false
 z2:u.frozen? (qzA B 2)=false
 z3:u.frozen? (qzA B 3)=false
 z4:u.frozen? (qzA B 4)=false
 z5:u.frozen? (qzA B 5)=false
 z6:u.frozen? (qzA B 6)=false
 z7:u.frozen? (qzA B 7)=false
theorem Z8.lt {B:Nat} {y d f A p C D F:Value} {u:World} (h:Z8 B y d f A p C D F u):B<u.heap.size:=World.block_lt_of_cell? u _ h.c0
theorem Z8.grown {B:Nat} {y d f A p C D F:Value} {u G:World} (h:Z8 B y d f A p C D F u) {row:Option Nat} (g:u.grownBy G row) (H:some B≠row):Z8 B y d f A p C D F G:=by
 have l:=h.lt;obtain ⟨c0,c1,c2,c3,c4,c5,c6,c7,z0,z1,z2,z3,z4,z5,z6,z7⟩:=h;exact ⟨(g.cell_far (qzA B 0) l H).trans c0,(g.cell_far (qzA B 1) l H).trans c1,(g.cell_far (qzA B 2) l H).trans c2,(g.cell_far (qzA B 3) l H).trans c3,(g.cell_far (qzA B 4) l H).trans c4,(g.cell_far (qzA B 5) l H).trans c5,(g.cell_far (qzA B 6) l H).trans c6,(g.cell_far (qzA B 7) l H).trans c7,(g.frozen_far (qzA B 0) l H).trans z0,(g.frozen_far (qzA B 1) l H).trans z1,(g.frozen_far (qzA B 2) l H).trans z2,(g.frozen_far (qzA B 3) l H).trans z3,(g.frozen_far (qzA B 4) l H).trans z4,(g.frozen_far (qzA B 5) l H).trans z5,(g.frozen_far (qzA B 6) l H).trans z6,(g.frozen_far (qzA B 7) l H).trans z7⟩
theorem Z8.set0 {B:Nat} {y d f A p C D F:Value} {u:World} (h:Z8 B y d f A p C D F u) (x:Value):Z8 B x d f A p C D F (u.setCell (qzA B 0) x):=by
 obtain ⟨c0,c1,c2,c3,c4,c5,c6,c7,z0,z1,z2,z3,z4,z5,z6,z7⟩:=h
 constructor<;>simp [go_sem, *]
theorem Z8.set2 {B:Nat} {y d f A p C D F:Value} {u:World} (h:Z8 B y d f A p C D F u) (x:Value):Z8 B y d x A p C D F (u.setCell (qzA B 2) x):=by
 obtain ⟨c0,c1,c2,c3,c4,c5,c6,c7,z0,z1,z2,z3,z4,z5,z6,z7⟩:=h
 constructor<;>simp [go_sem, *]
theorem Z8.set3 {B:Nat} {y d f A p C D F:Value} {u:World} (h:Z8 B y d f A p C D F u) (x:Value):Z8 B y d f x p C D F (u.setCell (qzA B 3) x):=by
 obtain ⟨c0,c1,c2,c3,c4,c5,c6,c7,z0,z1,z2,z3,z4,z5,z6,z7⟩:=h
 constructor<;>simp [go_sem, *]
theorem Z8.set5 {B:Nat} {y d f A p C D F:Value} {u:World} (h:Z8 B y d f A p C D F u) (x:Value):Z8 B y d f A p x D F (u.setCell (qzA B 5) x):=by
 obtain ⟨c0,c1,c2,c3,c4,c5,c6,c7,z0,z1,z2,z3,z4,z5,z6,z7⟩:=h
 constructor<;>simp [go_sem, *]
theorem Z8.set6 {B:Nat} {y d f A p C D F:Value} {u:World} (h:Z8 B y d f A p C D F u) (x:Value):Z8 B y d f A p C x F (u.setCell (qzA B 6) x):=by
 obtain ⟨c0,c1,c2,c3,c4,c5,c6,c7,z0,z1,z2,z3,z4,z5,z6,z7⟩:=h
 constructor<;>simp [go_sem, *]
theorem Z8.set7 {B:Nat} {y d f A p C D F:Value} {u:World} (h:Z8 B y d f A p C D F u) (x:Value):Z8 B y d f A p C D x (u.setCell (qzA B 7) x):=by
 obtain ⟨c0,c1,c2,c3,c4,c5,c6,c7,z0,z1,z2,z3,z4,z5,z6,z7⟩:=h
 constructor<;>simp [go_sem, *]
theorem Z8.new (w:World) (y d f A p C D F:Value) (ty:TypeId):Z8 w.heap.size y d f A p C D F (w.alloc (.cells #[y,d,f,A,p,C,D,F] ty)) :=
 ⟨by simp,by simp,by simp,by simp,by simp,by simp,by simp,by simp,by simp [go_sem],by simp [go_sem],by simp [go_sem],by simp [go_sem],by simp [go_sem],by simp [go_sem],by simp [go_sem],by simp [go_sem]⟩
theorem Pv {u:World} {base n size:Nat} {t:TypeId} {v:Value} {S:List Value} (h:u.ownsRow base t size v n S):∀ g,v.ownBlock=some g->∃ I fz,u.heap[g]?=some (.cells I t fz):=by
 intro g hg
 rcases h.2 with ⟨M,_⟩ | ⟨g',cap,I,M,_,hh,_⟩
 ·rw [M] at hg;cases hg
 ·rw [M] at hg
  injection hg with hg
  subst hg;exact ⟨I,(0,0),hh⟩
def El (u:World) (g:Nat) (t:TypeId):Prop:=∃ I fz,u.heap[g]?=some (.cells I t fz)
theorem Bj {u:World} {T n1 W b2 n2 s2:Nat} {J N:TypeId} {d f:Value} {X x2:List Value} (O:u.ownsRow T J W d n1 X) (U:u.ownsRow b2 N s2 f n2 x2) (R:J≠N):d.ownBlock=none\/d.ownBlock≠f.ownBlock:=by
 cases M:d.ownBlock with
 | none=>exact .inl rfl
 | some g =>
  refine .inr fun e=>R ?_
  obtain ⟨c1,f1,e1⟩:=Pv O g M;obtain ⟨c2,f2,e2⟩:=Pv U g e.symm;rw [e1] at e2
  simp only [Option.some.injEq,Obj.cells.injEq] at e2
  exact e2.2.1
theorem dB {u:World} {T n1 W K:Nat} {J N:TypeId} {d:Value} {X:List Value} (O:u.ownsRow T J W d n1 X) (U:El u K N) (R:J≠N):d.ownBlock=none\/d.ownBlock≠some K:=by
 cases M:d.ownBlock with
 | none=>exact .inl rfl
 | some g =>
  refine .inr fun e=>R ?_
  injection e with e
  subst e;obtain ⟨c1,f1,e1⟩:=Pv O g M;obtain ⟨c2,f2,e2⟩:=U;rw [e1] at e2
  simp only [Option.some.injEq,Obj.cells.injEq] at e2
  exact e2.2.1
theorem D8 {u:World} {T n1 W K:Nat} {J N:TypeId} {d:Value} {X:List Value} (O:u.ownsRow T J W d n1 X) (U:El u K N) (R:J≠N):some K≠d.ownBlock:=by
 rcases dB O U R with h | h
 ·rw [h];exact fun e=>by cases e
 ·exact fun e=>h e.symm
theorem El.grown {u G:World} {g:Nat} {t:TypeId} {row:Option Nat} (h:El u g t) (hg:u.grownBy G row) (H:some g≠row):El G g t:=by
 obtain ⟨I,fz,e⟩:=h
 have hl:g<u.heap.size:=by
  rcases Nat.lt_or_ge g u.heap.size with h | h
  ·exact h
  ·rw [Array.getElem?_eq_none h] at e;cases e
 exact ⟨I,fz,(hg.block g hl H).trans e⟩
theorem El.set {u:World} {g:Nat} {t:TypeId} (h:El u g t) (i:Nat) (x:Value):El (u.setCell (qzA g i) x) g t:=by
 obtain ⟨I,fz,e⟩:=h;refine ⟨I.setIfInBounds i x,fz,?_⟩;unfold World.setCell
 simp only [Array.getElem?_modify,if_true,e,Option.map_some]
 rfl
theorem Ez {u:World} {base base' n size:Nat} {t:TypeId} {v:Value} {S:List Value} (h:u.ownsRow base t size v n S) (hb:base'<=base):u.ownsRow base' t size v n S :=
 ⟨h.1,h.2.imp id (fun ⟨g,cap,I,M,hg,r⟩=>⟨g,cap,I,M,Nat.le_trans hb hg,r⟩)⟩
def tF (o:Obj):Prop:=∃ I t fz,o=.cells I t fz/\(t=61\/t=9\/t=143)
structure Ce (B:Nat) (w w':World):Prop where
 b:Below B w w'
 i:∀ (k:Nat) (o:Obj),w.heap[k]?=some o->¬ tF o->w'.heap[k]?=some o
theorem Ed {w:World} {k:Nat} {o:Obj} (h:w.heap[k]?=some o):k<w.heap.size:=by
 rcases Nat.lt_or_ge k w.heap.size with Y | Y
 ·exact Y
 ·rw [Array.getElem?_eq_none Y] at h;cases h
theorem Ce.refl (B:Nat) (w:World):Ce B w w:=⟨bR,fun _ _ h _=>h⟩
theorem Ce.trans {B:Nat} {w u v:World} (h:Ce B w u) (g:Ce B u v):Ce B w v:=⟨h.b.trans g.b,fun k o e m=>g.i k o (h.i k o e m) m⟩
theorem Ce.of {B:Nat} {w u:World} (h:BW w u) (hB:B<=w.heap.size):Ce B w u:=⟨h.mono hB,fun k _ e _=>(h.block k (Ed e)).trans e⟩
theorem Ce.drew {B:Nat} {w u:World} (h:Ce B w u):Ce B w u.drew:=⟨h.b.drew,h.i⟩
theorem Ce.setK {B K i:Nat} {w u:World} {x:Value} (h:Ce B w u) (kt:El u K 143) (hK:B<=K):Ce B w (u.setCell (qzA K i) x) :=
 ⟨h.b.setCell hK _,fun k o e m=>by
  have e1:=h.i k o e m
  refine ((An u K i x).block k (Ed e1) (fun c=>m ?_)).trans e1
  injection c with c
  subst c;obtain ⟨I,fz,e2⟩:=kt;rw [e1] at e2
  injection e2 with e2
  exact ⟨I,_,fz,e2,.inr (.inr rfl)⟩⟩
theorem Ce.grownO {B n size:Nat} {w u G:World} {t:TypeId} {v:Value} {S:List Value} (h:Ce B w u) (g:u.grownBy G v.ownBlock) (o:u.ownsRow B t size v n S) (hs:B<=u.heap.size) (R:t=61\/t=9):Ce B w G :=
 ⟨h.b.grown g hs (fun k hk=>(o.lt k hk).1),fun k x e m=>by
  have e1:=h.i k x e m
  refine (g.block k (Ed e1) (fun c=>m ?_)).trans e1
  obtain ⟨I,fz,e2⟩:=Pv o k c.symm;rw [e1] at e2
  injection e2 with e2
  exact ⟨I,_,fz,e2,R.elim .inl (fun e=>.inr (.inl e))⟩⟩
structure KS (B K:Nat) (st:Int) (b:Bk) (q:Bp) (u:World):Prop where
 z:Z8 K (.int .i32 st) (.int .u32 0) (.slice q.l b.ls.length q.lc) (qzI b.today) (.slice q.o b.off.length q.oc) (.slice q.a b.az.length q.ac) (.slice q.c b.cs.length q.cc) (.slice q.g b.log.length q.gc) u
 kt:El u K 143
 off:u.ownsRow B 3 1 (.slice q.o b.off.length q.oc) b.off.length (b.off.map (Value.int .i64))
 az:u.ownsRow B 107 6 (.slice q.a b.az.length q.ac) b.az.length (Ah b.az)
 cs:u.ownsRow B 61 12 (.slice q.c b.cs.length q.cc) b.cs.length (Aj b.cs)
 ls:u.ownsRow B 113 3 (.slice q.l b.ls.length q.lc) b.ls.length (Ag b.ls)
 log:u.ownsRow B 9 1 (.slice q.g b.log.length q.gc) b.log.length (Am b.log)
 hK:B<=K
theorem KS.at {B K:Nat} {st:Int} {b:Bk} {q:Bp} {u:World} (h:KS B K st b q u):Aq u b q:=⟨Hq h.off,Fd h.az,F2 h.cs,Df h.ls,Ep h.log⟩
theorem KS.far {B K:Nat} {st:Int} {b:Bk} {q:Bp} {u G:World} {row:Option Nat} (h:KS B K st b q u) (g:u.grownBy G row) (H:∀ x,row=some x->x<B):KS B K st b q G:=by
 have hK:=h.hK
 have ne:∀ {t:TypeId} {s n:Nat} {v:Value} {S:List Value},u.ownsRow B t s v n S->v.ownBlock=none\/v.ownBlock≠row:=fun o=>by
  rename_i t s n v S
  cases M:v.ownBlock with
  | none=>exact .inl rfl
  | some j =>
   refine .inr fun e=>?_
   have O:=(o.lt j M).1;have U:=H j e.symm
   omega
 have V:some K≠row:=fun e=>by have:=H K e.symm;omega
 exact ⟨h.z.grown g V,h.kt.grown g V,h.off.kept g (ne h.off),h.az.kept g (ne h.az),h.cs.kept g (ne h.cs),h.ls.kept g (ne h.ls),h.log.kept g (ne h.log),h.hK⟩
theorem KS.below {B K:Nat} {st:Int} {b:Bk} {q:Bp} {u G:World} (h:KS B K st b q u) (hb:BW u G):KS B K st b q G :=
 h.far (row:=none) ⟨hb.os,hb.tape,hb.output,hb.size,fun k hk _=>hb.block k hk⟩ (fun x hx=>by cases hx)
theorem KS.drew {B K:Nat} {st:Int} {b:Bk} {q:Bp} {u:World} (h:KS B K st b q u):KS B K st b q u.drew:=h.below (bR.drew)
theorem KS.al {B K:Nat} {st:Int} {b:Bk} {q:Bp} {u:World} (h:KS B K st b q u) (o:Obj):KS B K st b q (u.alloc o):=h.below (bR.alloc nL _)
theorem Em {u:World} {T n1 W K i:Nat} {J N:TypeId} {d x:Value} {X:List Value} (O:u.ownsRow T J W d n1 X) (U:El u K N) (R:J≠N):(u.setCell (qzA K i) x).ownsRow T J W d n1 X :=
 O.kept (An u K i x) (dB O U R)
theorem KS.setSt {B K:Nat} {st:Int} {b:Bk} {q:Bp} {u:World} (h:KS B K st b q u) (s:Int):KS B K s b q (u.setCell (qzA K 0) (.int .i32 s)) :=
 ⟨h.z.set0 _,h.kt.set _ _,Em h.off h.kt (by decide),Em h.az h.kt (by decide),Em h.cs h.kt (by decide),Em h.ls h.kt (by decide),Em h.log h.kt (by decide),h.hK⟩
theorem KS.setDay {B K:Nat} {st:Int} {b:Bk} {q:Bp} {u:World} (h:KS B K st b q u) (n:Int):KS B K st ⟨n,b.off,b.az,b.cs,b.ls,b.log⟩ q (u.setCell (qzA K 3) (qzI n)) :=
 ⟨h.z.set3 _,h.kt.set _ _,Em h.off h.kt (by decide),Em h.az h.kt (by decide),Em h.cs h.kt (by decide),Em h.ls h.kt (by decide),Em h.log h.kt (by decide),h.hK⟩
theorem KS.setA {B K:Nat} {st:Int} {b:Bk} {q:Bp} {u:World} (h:KS B K st b q u) {L:List Au} {a:Option Addr} {c m:Nat} (o:u.ownsRow m 107 6 (.slice a L.length c) L.length (Ah L)) (Z:B<=m) :
  KS B K st ⟨b.today,b.off,L,b.cs,b.ls,b.log⟩ ⟨q.o,q.oc,a,c,q.c,q.cc,q.l,q.lc,q.g,q.gc⟩ (u.setCell (qzA K 5) (.slice a L.length c)) :=
 ⟨h.z.set5 _,h.kt.set _ _,Em h.off h.kt (by decide),Em (Ez o Z) h.kt (by decide),Em h.cs h.kt (by decide),Em h.ls h.kt (by decide),Em h.log h.kt (by decide),h.hK⟩
theorem KS.setL {B K:Nat} {st:Int} {b:Bk} {q:Bp} {u:World} (h:KS B K st b q u) {L:List Ln} {a:Option Addr} {c m:Nat} (o:u.ownsRow m 113 3 (.slice a L.length c) L.length (Ag L)) (Z:B<=m) :
  KS B K st ⟨b.today,b.off,b.az,b.cs,L,b.log⟩ ⟨q.o,q.oc,q.a,q.ac,q.c,q.cc,a,c,q.g,q.gc⟩ (u.setCell (qzA K 2) (.slice a L.length c)) :=
 ⟨h.z.set2 _,h.kt.set _ _,Em h.off h.kt (by decide),Em h.az h.kt (by decide),Em h.cs h.kt (by decide),Em (Ez o Z) h.kt (by decide),Em h.log h.kt (by decide),h.hK⟩
theorem KS.setC {B K:Nat} {st:Int} {b:Bk} {q:Bp} {u G:World} (h:KS B K st b q u) (g:u.grownBy G (Value.slice q.c b.cs.length q.cc).ownBlock) {L:List Cs} {a:Option Addr} {c:Nat} (o:G.ownsRow B 61 12 (.slice a L.length c) L.length (Aj L)) :
  KS B K st ⟨b.today,b.off,b.az,L,b.ls,b.log⟩ ⟨q.o,q.oc,q.a,q.ac,a,c,q.l,q.lc,q.g,q.gc⟩ (G.setCell (qzA K 6) (.slice a L.length c)):=by
 have V:=D8 h.cs h.kt (by decide)
 have kt:=h.kt.grown g V
 exact ⟨(h.z.grown g V).set6 _,kt.set _ _,Em (h.off.kept g (Bj h.off h.cs (by decide))) kt (by decide),Em (h.az.kept g (Bj h.az h.cs (by decide))) kt (by decide),Em o kt (by decide),Em (h.ls.kept g (Bj h.ls h.cs (by decide))) kt (by decide),Em (h.log.kept g (Bj h.log h.cs (by decide))) kt (by decide),h.hK⟩
theorem KS.setG {B K:Nat} {st:Int} {b:Bk} {q:Bp} {u G:World} (h:KS B K st b q u) (g:u.grownBy G (Value.slice q.g b.log.length q.gc).ownBlock) {L:Be} {a:Option Addr} {c:Nat} (o:G.ownsRow B 9 1 (.slice a L.length c) L.length (Am L)) :
  KS B K st ⟨b.today,b.off,b.az,b.cs,b.ls,L⟩ ⟨q.o,q.oc,q.a,q.ac,q.c,q.cc,q.l,q.lc,a,c⟩ (G.setCell (qzA K 7) (.slice a L.length c)):=by
 have V:=D8 h.log h.kt (by decide)
 have kt:=h.kt.grown g V
 exact ⟨(h.z.grown g V).set7 _,kt.set _ _,Em (h.off.kept g (Bj h.off h.log (by decide))) kt (by decide),Em (h.az.kept g (Bj h.az h.log (by decide))) kt (by decide),Em (h.cs.kept g (Bj h.cs h.log (by decide))) kt (by decide),Em (h.ls.kept g (Bj h.ls h.log (by decide))) kt (by decide),Em o kt (by decide),h.hK⟩
def Rp (x:Int):Prop:=0<=x/\x<1000000000000000000
structure Rq (F:Ff) (E:World->Prop) (G:Nat):Prop where
 keep:∀ w w',E w->Below G w w'->E w'
 size:∀ w,E w->G<=w.heap.size
 num:∀ (l:List UInt8) (w:World),l.length<=1048576->Calls prog 275 #[.string ⟨l.toArray⟩] w fun e w'=>e=.returned (qzI (Dr l))/\BW w w'
 dec:∀ (m:Nat) (w:World),m<1000000000000000000->E w->Calls prog 127 #[qzI m] w fun e w'=>e=.returned (.string ⟨(Lib.decDigits m).toArray⟩)/\BW w w'
 clone:∀ (l:List UInt8) (w:World),l.length<=1048576->Calls prog 138 #[.string ⟨l.toArray⟩] w fun e w'=>e=.returned (.string ⟨l.toArray⟩)/\BW w w'
 split:∀ (l:List UInt8) (w:World),l.length<=1048576->E w->Calls prog 66 #[.string ⟨l.toArray⟩,.string ⟨#[32]⟩] w fun e w'=>∃ a,e=.returned (.slice a (Ab l).length (Ab l).length)/\Bh w' a (Ab l)/\BW w w'
 eFull:∀ w,E w->∃ t a,w.cell? (qzA 1 0)=some (.iface t (.pointer (some a)))
 eLine:∀ w,E w->∃ t a,w.cell? (qzA 3 0)=some (.iface t (.pointer (some a)))
 eDay:∀ w,E w->∃ t a,w.cell? (qzA 4 0)=some (.iface t (.pointer (some a)))
 eAuth:∀ w,E w->∃ t a,w.cell? (qzA 5 0)=some (.iface t (.pointer (some a)))
 eCases:∀ w,E w->∃ t a,w.cell? (qzA 6 0)=some (.iface t (.pointer (some a)))
 eCase:∀ w,E w->∃ t a,w.cell? (qzA 7 0)=some (.iface t (.pointer (some a)))
 eMoney:∀ w,E w->∃ t a,w.cell? (qzA 8 0)=some (.iface t (.pointer (some a)))
 eAct:∀ w,E w->∃ t a,w.cell? (qzA 9 0)=some (.iface t (.pointer (some a)))
 words:∀ w,E w->∀ k,k<10->w.cell? (qzA 0 k)=some (.string ⟨(Al Dm k).toArray⟩)
 prune:∀ (f:Option Addr) (cap:Nat) (az:List Au) (t:Int) (w:World),Ar w f az->az.length<=1048576->(∀ a ∈ az,a.ref.length<=1048576)->Calls prog 207 #[.slice f az.length cap,qzI t] w (pA w (F.prune az t))
 use:∀ (f:Option Addr) (cap:Nat) (az:List Au) (i:Int) (w:World),Ar w f az->az.length<=1048576->(∀ a ∈ az,a.ref.length<=1048576)->Calls prog 212 #[.slice f az.length cap,qzI i] w (Pi w (F.use az i) (F.useOk az i))
 add:∀ (f:Option Addr) (cap:Nat) (az:List Au) (a:Au) (w:World),Ar w f az->az.length<=1048576->(∀ x ∈ az,x.ref.length<=1048576)->a.ref.length<=1048576->Rp a.cur->Calls prog 208 #[.slice f az.length cap,Fe a] w (Pi w (F.add az a) (F.addOk az a))
 best:∀ (f:Option Addr) (cap:Nat) (az:List Au) (iY cQ am day:Int) (w:World),Ar w f az->az.length<=1048576->(∀ a ∈ az,a.ref.length<=1048576)->(∀ a ∈ az,(Lit.int .i64 a.cur).wf=true)->(Lit.int .i64 am).wf=true->(Lit.int .i64 day).wf=true ->
  Calls prog 209 #[.slice f az.length cap,qzI iY,qzI cQ,qzI am,qzI day] w fun e w'=>∃ x,e=.returned (qzI x)/\F.best az iY cQ am day x/\BW w w'
 start:∀ (iY aZ cQ am day:Int) (w:World),Rp cQ->Calls prog 210 #[qzI iY,qzI aZ,qzI cQ,qzI am,qzI day] w fun e w'=>∃ f cap,e=.returned (.tuple #[cv (F.stC iY aZ cQ am day),.slice f (F.stE iY aZ cQ am day).length cap,.bool (F.stOk iY aZ cQ am day)])/\w'.ownsRow w.heap.size 269 4 (.slice f (F.stE iY aZ cQ am day).length cap) (F.stE iY aZ cQ am day).length (Ba (F.stE iY aZ cQ am day))/\BW w w'
 small:∀ iY aZ cQ am day,(F.stE iY aZ cQ am day).length<=1048576/\(Rp iY->Rp aZ->Rp cQ->Rp am->∀ x ∈ F.stE iY aZ cQ am day,Ma x)
 act:∀ (c:Cs) (a:Ac) (t:Int) (f:Option Addr) (cp:Nat) (zs:List Int) (w:World),Aw w f zs->zs.length<=1048576->E w->Qk c->Calls prog 214 #[cv c,av a,qzI t,.slice f zs.length cp] w fun e w'=>∃ f cap,e=.returned (.tuple #[cv (F.doC c a t zs),.slice f (F.doE c a t zs).length cap,qzI (F.doV c a t zs)])/\w'.ownsRow w.heap.size 269 4 (.slice f (F.doE c a t zs).length cap) (F.doE c a t zs).length (Ba (F.doE c a t zs))/\BW w w'
 few:∀ c a t zs,(F.doE c a t zs).length<=1048576/\(Qk c->Rp a.am->∀ x ∈ F.doE c a t zs,Ma x)
 low:∀ az i c a d x,F.best az i c a d x->-1<=x
 stay:∀ ls es,F.allOk ls es=false->F.all ls es=ls
 code:∀ c a t zs,0<=F.doV c a t zs/\F.doV c a t zs<=1000
 post:∀ (f:Option Addr) (cap:Nat) (ls:List Ln) (eo:Option Addr) (ec:Nat) (es:List En) (w:World),Ai w f ls->ls.length<=1048576->(∀ x ∈ ls,Hw x)->C8 w eo es->es.length<=1048576->(∀ x ∈ es,Ma x) ->
  Calls prog 255 #[.agg #[.slice f ls.length cap],.slice eo es.length ec] w fun e w'=>∃ f cap,e=.returned (.tuple #[.agg #[.slice f (F.all ls es).length cap],.bool (F.allOk ls es)])/\w'.ownsRow w.heap.size 113 3 (.slice f (F.all ls es).length cap) (F.all ls es).length (Ag (F.all ls es))/\BW w w'
theorem Rq.grow {F:Ff} {E:World->Prop} {G:Nat} (K:Rq F E G) {w w':World} (h:E w) (hb:BW w w'):E w':=K.keep w w' h (hb.mono (K.size w h))
def Qv (s:List UInt8):Int:=if 0<=Ae s then Ae s else 0
theorem jJ {s:List UInt8} (h:Dr s<0):Ae s = -1:=by
 unfold Ae
 split
 ·rfl
 ·rw [if_pos (.inl h)]
theorem pB {s:List UInt8} (h:Lib.decDigits (Dr s).toNat≠s):Ae s = -1:=by
 unfold Ae
 split
 ·rfl
 ·rw [if_pos (.inr h)]
theorem qW (m:Nat):Lib.decDigits m≠[]:=by
 intro h;rw [Lib.decDigits] at h
 split at h <;> simp at h
theorem Oc {a b:Int} {p q:Bool} (S:a=b) (N:p=q):Ending.returned (.tuple #[qzI a,.bool p])=.returned (.tuple #[qzI b,.bool q]):=by rw [S,N]
theorem Xv {s:List UInt8} (h:Ae s = -1):Qv s=0/\decide (0<=Ae s)=false:=by
 unfold Qv;rw [h]
 exact ⟨by simp,by simp⟩
theorem dY {F:Ff} {E:World->Prop} {G:Nat} (K:Rq F E G) (s:List UInt8) (w:World) (hl:s.length<=1048576) (hE:E w) :
  Calls prog 246 #[.string ⟨s.toArray⟩] w fun e w'=>e=.returned (.tuple #[qzI (Qv s),.bool (decide (0<=Ae s))])/\BW w w':=by
 have Y:Hid (∀ u,Calls prog 275 #[.string ⟨s.toArray⟩] u fun e w'=>e=.returned (qzI (Dr s))/\BW u w'):=fun u=>K.num s u hl
 have U:=Qj s
 by_cases N:Dr s<0
 ·obtain ⟨e1,e2⟩:=Xv (jJ N)
  have z:Hid (Qv s=0/\decide (0<=Ae s)=false):=⟨e1,e2⟩;obtain ⟨n,hn⟩:∃ n,Dr s=n:=⟨_,rfl⟩;rw [hn] at Y N U;clear hn e1 e2
  go_enter func246,ntmps246
  go_wp2_with (go_at_call 275;refine (Y.o _).mono ?_;rintro e w' ⟨rfl,A⟩)
  go_ret2;exact ⟨Oc z.o.1.symm z.o.2.symm,A⟩
 obtain ⟨m,V⟩:=Int.eq_ofNat_of_zero_le (show 0<=Dr s by omega)
 have HD:Hid (∀ u,E u->Calls prog 127 #[qzI (m:Int)] u fun e w'=>e=.returned (.string ⟨(Lib.decDigits m).toArray⟩)/\BW u w'):=fun u h=>K.dec m u (by omega) h
 have HG:Hid (∀ u,BW w u->E u):=fun u h=>K.grow hE h
 by_cases S:15<s.length
 ·have b5:(15:Int)<(s.length:Int):=by omega
  obtain ⟨e1,e2⟩:=Xv (jY S);have z:Hid (Qv s=0/\decide (0<=Ae s)=false):=⟨e1,e2⟩;rw [V] at Y N U
  have a7:¬ (m:Int)<0:=by omega
  clear V e1 e2 S
  go_enter func246,ntmps246
  go_wp2_with (go_at_call 275;refine (Y.o _).mono ?_;rintro e w' ⟨rfl,A⟩)
  go_ret2;exact ⟨Oc z.o.1.symm z.o.2.symm,A⟩
 have b5:¬ (15:Int)<(s.length:Int):=by omega
 by_cases T:Lib.decDigits m=s
 ·have h0:s≠[]:=fun e=>qW m (T.trans e)
  have hW:Ae s=(m:Int):=by rw [kY h0 S N (by rw [V];exact T),V]
  have z:Hid (Qv s=(m:Int)/\decide (0<=Ae s)=true):=by
   unfold Qv;rw [hW]
   exact ⟨if_pos (by omega),decide_eq_true (by omega)⟩
  rw [V] at Y N U;rw [T] at HD
  have a7:¬ (m:Int)<0:=by omega
  clear S T hW h0 V
  go_enter func246,ntmps246
  go_wp2_with (first | (go_at_call 275;refine (Y.o _).mono ?_;rintro e w' ⟨rfl,A⟩) | (go_at_call 127;refine (HD.o _ (HG.o _ A)).mono ?_;rintro e w2 ⟨rfl,b2⟩))
  go_ret2;exact ⟨Oc z.o.1.symm z.o.2.symm,next A b2⟩
 ·obtain ⟨e1,e2⟩:=Xv (pB (s:=s) (by rw [V];exact T))
  have z:Hid (Qv s=0/\decide (0<=Ae s)=false):=⟨e1,e2⟩;rw [V] at Y N U;obtain ⟨D,hD⟩:∃ D,Lib.decDigits m=D:=⟨_,rfl⟩;rw [hD] at HD T
  have d2:(D == s)=false:=by simpa using T
  have a7:¬ (m:Int)<0:=by omega
  clear S hD V e1 e2
  go_enter func246,ntmps246
  go_wp2_with (first | (go_at_call 275;refine (Y.o _).mono ?_;rintro e w' ⟨rfl,A⟩) | (go_at_call 127;refine (HD.o _ (HG.o _ A)).mono ?_;rintro e w2 ⟨rfl,b2⟩))
  go_ret2;exact ⟨Oc z.o.1.symm z.o.2.symm,next A b2⟩
theorem Ks {F:Ff} {E:World->Prop} {G:Nat} (K:Rq F E G) (f:Option Addr) (cap:Nat) (rs:Be) (w:World) (hz:Bh w f rs) (hn:rs.length<=1048576) (hd:∀ r ∈ rs,r.length<=1048576) (hE:E w) :
  Calls prog 206 #[.slice f rs.length cap] w fun e w'=>∃ a k,e=.returned (.tuple #[.slice a (A7 rs).length k,.bool (Ap rs)])/\w'.ownsRow w.heap.size 3 1 (.slice a (A7 rs).length k) (A7 rs).length ((A7 rs).map (Value.int .i64))/\BW w w':=by
 obtain ⟨i0,hi,c8,c9,d0⟩:=info_parts mG;have HX:Hid (Bh w f rs):=hz
 have HD:Hid (∀ k,k<rs.length->(Al rs k).length<=1048576):=fun k hk=>hd _ (F7 hk)
 have HG:Hid (∀ u,BW w u->E u):=fun u h=>K.grow hE h
 have HK:Hid (Rq F E G):=K;clear hz hd hE K
 go_enter func206,ntmps206
 go_wp2
 go_loopw [4,11] (fun s i wr=>∃ (v:Value) (k:Nat),v=s/\k<=rs.length/\i=qzI (k:Int)/\(∀ j,j<k->0<=Ae (Al rs j))/\wr.ownsRow w.heap.size 3 1 v ((rs.take k).map Ae).length (((rs.take k).map Ae).map (Value.int .i64))/\BW w wr) (fun _ i _=>rs.length - (intOf i).toNat)
 case atStart=>exact ⟨_,0,rfl,Nat.zero_le _,rfl,fun j hj=>absurd hj (Nat.not_lt_zero _),World.ownsRow_nil _ _ _ _,bR⟩
 case round =>
  obtain ⟨v,k,b9,hk,rfl,H,g,I⟩:=hrel;subst b9;have C:Hid (BW w wr):=I;have X:Hid (∀ j,j<k->0<=Ae (Al rs j)):=H;have d1:Hid (w.heap.size<=wr.heap.size):=I.size
  have a9:Hid (∀ j,v.ownBlock=some j->w.heap.size<=j):=fun j hj=>(g.lt j hj).1
  have a6:((rs.take k).map Ae).length<=1048576:=by simp;omega
  by_cases hlt:k<rs.length
  ·have b7:(k:Int)<(rs.length:Int):=by omega
   obtain ⟨gb,off,rfl,d3,J⟩:∃ gb off,f=some (qzA gb off)/\gb<wr.heap.size/\wr.cell? (qzA gb (off+k))=some (.string ⟨(Al rs k).toArray⟩):=by
    rcases HX.o.below I with h | ⟨gb,off,S,N,T⟩
    ·rw [h] at hlt;simp at hlt
    ·exact ⟨gb,off,S,N,T k hlt⟩
   have Z:Hid _:=Tm rs k hlt;have a8:=HD.o k hlt;have a5:Hid _:=@S0 rs k hlt
   have B:Hid (∀ u,BW w u->Calls prog 246 #[.string ⟨(Al rs k).toArray⟩] u fun e w'=>e=.returned (.tuple #[qzI (Qv (Al rs k)),.bool (decide (0<=Ae (Al rs k)))])/\BW u w'):=fun u h=>dY HK.o _ u a8 (HG.o u h)
   have W:Hid (0<=Ae (Al rs k)->∀ j,j<k+1->0<=Ae (Al rs j)):=fun h j hj=>by
    rcases (show j<k\/j=k by omega) with hj | rfl
    ·exact X.o j hj
    ·exact h
   have a3:Hid (0<=Ae (Al rs k)->Qv (Al rs k)=Ae (Al rs k)):=fun h=>if_pos h
   obtain ⟨L,hL⟩:∃ L,(rs.take k).map Ae=L:=⟨_,rfl⟩;rw [hL] at Z g a6;obtain ⟨y,hy⟩:∃ y,Qv (Al rs k)=y:=⟨_,rfl⟩;rw [hy] at B a3;obtain ⟨x,hx⟩:∃ x,Ae (Al rs k)=x:=⟨_,rfl⟩;rw [hx] at Z B a5 W a3;obtain ⟨r,hr⟩:∃ r,Al rs k=r:=⟨_,rfl⟩;rw [hr] at J B a8;have HO:Hid (wr.ownsRow w.heap.size 3 1 v L.length (L.map (Value.int .i64))):=g;clear hL hx hr hy g I H
   by_cases hxn:x<0
   ·have z:Hid (Ap rs=false):=a5.o hxn
    have R:Hid (A7 rs=[]):=if_neg (by rw [z.o];decide)
    have M:decide (0<=x)=false:=decide_eq_false (by omega)
    rw [M] at B;clear M
    go_wp2_with (go_at_call 246;refine (B.o _ C.o).mono ?_;rintro e w' ⟨rfl,A⟩)
    have O:Hid (BW w w'):=next C.o A;clear A;go_ret2;rw [z.o,R.o];exact ⟨_,_,rfl,World.ownsRow_nil _ _ _ _,O.o⟩
   ·have M:decide (0<=x)=true:=decide_eq_true (by omega)
    rw [M] at B
    have b4:Hid (y=x):=a3.o (by omega)
    clear M;go_wp2_with fail
    refine (B.o _ C.o).mono ?_;rintro e w1 ⟨rfl,A⟩;have O:Hid (BW w w1):=next C.o A;have b0:Hid (w1.ownsRow w.heap.size 3 1 v L.length (L.map (Value.int .i64))):=Av HO.o A;have a4:Hid (w.heap.size<=w1.heap.size):=O.o.size;rw [b4.o];clear A J
    go_wp2_with (at_builtin;refine wpList_append_own _ rfl (.tmp 22) (.tmp 24) 22 rfl w.heap.size 3 i0 (qzI 0) 1 8 underlying22 hi c8 c9 d0 rfl (by decide) _ _ _ rfl (b0.o.alloc _) ⟨w1.heap.size,0,none⟩ 1 1 [qzI x] rfl rfl (World.news_of_block (heap_alloc_new w1 _)) (cJ _) (by unfold maxLen;omega) (by omega) (by simp;have:=a4.o;omega) ?_;intro v5 w5 o5 g5 _)
    have q5:BW w w5:=(O.o.alloc (by have:=a4.o;omega) _).grown g5 (by have:=a4.o;simp;omega) a9.o
    have b3:Hid (w5.ownsRow w.heap.size 3 1 v5 ((rs.take (k+1)).map Ae).length (((rs.take (k+1)).map Ae).map (Value.int .i64))):=by
     rw [Hid,Z.o,List.length_append,List.map_append];exact o5
    clear o5 g5;go_wp2
    go_roundw
    case rel=>exact ⟨_,k+1,rfl,by omega,by go_num,W.o (by omega),b3.o,q5⟩
    case measure=>simp [intOf];omega
  ·have b6:k=rs.length:=by omega
   subst b6
   have b7:¬ (rs.length:Int)<(rs.length:Int):=by omega
   have z:Hid (Ap rs=true):=Qe X.o;have R:Hid (A7 rs=rs.map Ae):=if_pos z.o;rw [List.take_length] at g;obtain ⟨L,hL⟩:∃ L,rs.map Ae=L:=⟨_,rfl⟩;rw [hL] at g R;clear hL a6;obtain ⟨va,vk,b8⟩:=Fz g;subst b8;have HO:Hid _:=g;clear I g H;go_wp2;go_ret2;rw [z.o,R.o];exact ⟨_,_,rfl,HO.o,C.o⟩
def aL:List Nat:=[3,4,5,6,7,8,9]
def NF (E:World->Prop) (y:Value):Prop:=∃ w g,E w/\g ∈ aL/\w.cell? (qzA g 0)=some y
def sQ (E:World->Prop) (code:Int) (v:Value):Prop:=(code=0/\v=.nilIface)\/(code≠0/\∃ y,NF E y/\v=.iface 170 (.agg #[y,qzI code]))
def Wz (E:World->Prop) (B K:Nat) (w:World) (r:Bk×Int) (e:Ending) (w':World):Prop:=∃ q v,e=.returned v/\sQ E r.2 v/\KS B K 1 r.1 q w'/\Ce B w w'
theorem Et {E:World->Prop} {B K:Nat} {w w':World} {b:Bk} {q:Bp} {c:Int} {y:Value} (hy:NF E y) (hc:c≠0) (k:KS B K 1 b q w') (hb:Ce B w w'):Wz E B K w (b,c) (.returned (.iface 170 (.agg #[y,qzI c]))) w' :=
 ⟨q,_,rfl,.inr ⟨hc,y,hy,rfl⟩,k,hb⟩
theorem Uv {E:World->Prop} {B K:Nat} {w w':World} {b:Bk} {q:Bp} (k:KS B K 1 b q w') (hb:Ce B w w'):Wz E B K w (b,0) (.returned .nilIface) w':=⟨q,_,rfl,.inl ⟨rfl,rfl⟩,k,hb⟩
structure Ej (b:Bk):Prop where
 sm:D0 b
 ref:∀ a ∈ b.az,a.ref.length<=1048576
 cur:∀ a ∈ b.az,(Lit.int .i64 a.cur).wf=true
 cc:∀ c ∈ b.cs,Qk c
 lb:∀ x ∈ b.ls,Hw x
 day:(Lit.int .i64 b.today).wf=true
def N8 (F:Ff) (b:Bk) (rs:Be):Bk×Int:=if Ap rs=true/\rs.length=1 then Fr F b (Ae (Al rs 0)) else (b,1)
theorem KS.lt {B K:Nat} {st:Int} {b:Bk} {q:Bp} {u:World} (h:KS B K st b q u):B<=u.heap.size:=by have:=h.z.lt;have:=h.hK;omega
theorem lF {F:Ff} {E:World->Prop} {G B K:Nat} (KI:Rq F E G) (b:Bk) (q:Bp) (ao:Option Addr) (cap:Nat) (rs:Be) (w:World) (hk:KS B K 1 b q w) (hE:E w) (hP:Ej b) (hz:Bh w ao rs) (hn:rs.length<=1048576) (hd:∀ r ∈ rs,r.length<=1048576) :
  Calls prog 172 #[.pointer (some (qzA K 0)),.slice ao rs.length cap] w (Wz E B K w (N8 F b rs)):=by
 have i:Hid (Calls prog 206 #[.slice ao rs.length cap] w fun e w'=>∃ a k,e=.returned (.tuple #[.slice a (A7 rs).length k,.bool (Ap rs)])/\w'.ownsRow w.heap.size 3 1 (.slice a (A7 rs).length k) (A7 rs).length ((A7 rs).map (Value.int .i64))/\BW w w'):=Ks KI ao cap rs w hz hn hd hE
 have U:Hid (B<=w.heap.size):=hk.lt;have Y:Hid (KS B K 1 b q w):=hk;have J:Hid (E w):=hE;have Z:Hid (Ej b):=hP;have m:Hid (Rq F E G):=KI;clear hz hd hk hE hP KI
 by_cases hok:Ap rs=true/\rs.length=1
 ·obtain ⟨M,T⟩:=hok
  obtain ⟨r0,R⟩:∃ r0,rs=[r0]:=by
   match rs,T with
   | [r],_=>exact ⟨r,rfl⟩
  have hv:A7 rs=[Ae r0]:=by rw [A7,if_pos M,R];rfl
  have HR:Hid (N8 F b rs=Fr F b (Ae r0)):=by rw [Hid,N8,if_pos ⟨M,T⟩,R];rfl
  rw [hv,M] at i;rw [HR.o];have a8:=Ib r0;obtain ⟨n,a4⟩:∃ n,Ae r0=n:=⟨_,rfl⟩;rw [a4] at i a8 ⊢
  simp only [List.length_singleton,List.map_cons,List.map_nil] at i
  clear hv a4 HR M R T
  go_enter func172,ntmps172
  go_wp2_with fail
  refine Calls.mono i.o ?_;rintro e p ⟨a,k,rfl,o1,D⟩
  obtain ⟨g,rfl,-,-⟩:=Hf o1 (by omega)
  have N:p.cell? (qzA g 0)=some (qzI n):=by simpa using o1.cellAt 0 (by omega)
  have f:Hid (KS B K 1 b q p):=Y.o.below D;have l:Hid (Ce B w p):=.of D U.o;have X:Hid (E p):=m.o.grow J.o D;clear o1 D i
  have t:Hid (∀ u,Calls prog 99 #[qzI n] u fun e w'=>e=.returned (.bool (Dn n))/\w'=u):=fun u=>Bm n u
  obtain ⟨c0,c1,c2,c3,c4,c5,c6,c7,z0,z1,z2,z3,z4,z5,z6,z7⟩:=f.o.z;obtain ⟨et,ea,H⟩:=m.o.eDay p X.o
  have A:Hid (NF E (.iface et (.pointer (some ea)))):=⟨p,4,X.o,by decide,H⟩
  by_cases hdy:Dn n=true
  ·rw [hdy] at t
   by_cases hlt:b.today<n
   ·have a9:¬ n<=b.today:=by omega
    have s:Hid _:=cA F hdy hlt;clear hdy H
    go_upto_region 8 with (go_at_call 99;refine (t.o _).mono ?_;rintro e w' ⟨rfl,d⟩;replace d:=d.symm;subst d)
    obtain ⟨W,hW⟩:∃ W,W=p.setCell (qzA K 3) (qzI n):=⟨_,rfl⟩;rw [<- hW]
    have j:Hid (KS B K 1 ⟨n,b.off,b.az,b.cs,b.ls,b.log⟩ q W):=by rw [hW];exact f.o.setDay n
    have a5:Hid (Ce B w W):=by rw [hW];exact l.o.setK f.o.kt f.o.hK
    clear hW c0 c1 c2 c3 c4 c5 c6 c7 z0 z1 z2 z3 z4 z5 z6 z7 N;obtain ⟨c0,c1,c2,c3,c4,c5,c6,c7,z0,z1,z2,z3,z4,z5,z6,z7⟩:=j.o.z;go_wp2_with fail
    refine Calls.mono (m.o.prune q.a q.ac b.az n W j.o.at.az Z.o.sm.2.1 Z.o.ref) ?_;rintro e w3 ⟨a3,k3,rfl,o3,S⟩;have V:Hid (B<=W.heap.size):=j.o.lt;have a7:Hid _:=(j.o.below S).setA o3 V.o;have a6:Hid (Ce B w (w3.setCell (qzA K 5) (.slice a3 (F.prune b.az n).length k3))):=(a5.o.trans (.of S V.o)).setK (j.o.below S).kt f.o.hK;have b5:=(j.o.below S).z.z5;have b2:=(j.o.below S).z.c5;clear o3 S c0 c1 c2 c3 c4 c5 c6 c7 z0 z1 z2 z3 z4 z5 z6 z7;go_wp2;go_ret;rw [s.o];exact Uv a7.o a6.o
   ·have a9:n<=b.today:=by omega
    have s:Hid _:=cS F hlt;clear hdy
    go_wp2_with (go_at_call 99;refine (t.o _).mono ?_;rintro e w' ⟨rfl,d⟩;replace d:=d.symm;subst d)
    go_ret;rw [s.o]
    exact Et A.o (by decide) f.o l.o
  ·have O:Dn n=false:=by simpa using hdy
   rw [O] at t;have s:Hid _:=bH F b O;clear hdy O
   go_wp2_with (go_at_call 99;refine (t.o _).mono ?_;rintro e w' ⟨rfl,d⟩;replace d:=d.symm;subst d)
   go_ret;rw [s.o]
   exact Et A.o (by decide) f.o l.o
 ·have HR:Hid (N8 F b rs=(b,1)):=if_neg hok
  have C:Ap rs=true->¬ (A7 rs).length=1:=fun M T=>hok ⟨M,by rw [A7,if_pos M] at T;simpa using T⟩
  rw [HR.o]
  have b0:(A7 rs).length<=1048576:=by unfold A7;split <;> simp;omega
  obtain ⟨L,hL⟩:∃ L,A7 rs=L:=⟨_,rfl⟩;rw [hL] at i C b0;obtain ⟨ok,I⟩:∃ x,Ap rs=x:=⟨_,rfl⟩;rw [I] at i C;clear hL I hok HR
  go_enter func172,ntmps172
  go_wp2_with fail
  refine Calls.mono i.o ?_;rintro e p ⟨a,k,rfl,o1,D⟩;have f:Hid (KS B K 1 b q p):=Y.o.below D;have l:Hid (Ce B w p):=.of D U.o;obtain ⟨et,ea,H⟩:=m.o.eLine p (m.o.grow J.o D)
  have A:Hid (NF E (.iface et (.pointer (some ea)))):=⟨p,3,(m.o.grow J.o D),by decide,H⟩
  clear o1 D i
  cases ok
  ·clear C
   go_wp2;go_ret
   exact Et A.o (by decide) f.o l.o
  ·have b4:((L.length:Int) == 1)=false:=by
     have:=C rfl
     simp;omega
   clear C;go_wp2;go_ret
   exact Et A.o (by decide) f.o l.o
def Gt (F:Ff) (b:Bk) (rs:Be):Bk×Int :=
 if rs.length=4/\Al rs 0≠[]/\Ap (rs.drop 1)=true then Fq F b (Al rs 0) (Ae (Al rs 1)) (Ae (Al rs 2)) (Ae (Al rs 3)) else (b,1)
theorem kK (F:Ff) {b:Bk} {ref:List UInt8} {n0 n1 n2:Int} (h:F.addOk b.az ⟨ref,n0,n1,n2,b.today,false⟩=true):Fq F b ref n0 n1 n2=(⟨b.today,b.off,F.add b.az ⟨ref,n0,n1,n2,b.today,false⟩,b.cs,b.ls,b.log⟩,0):=if_pos h
theorem bZ (F:Ff) {b:Bk} {ref:List UInt8} {n0 n1 n2:Int} (h:F.addOk b.az ⟨ref,n0,n1,n2,b.today,false⟩=false):Fq F b ref n0 n1 n2=(b,3):=if_neg (by rw [h];decide)
theorem nP {α:Type} {rs:List α} (h:rs.length=4):∃ a b c d,rs=[a,b,c,d]:=by
 match rs,h with
 | [a,b,c,d],_=>exact ⟨a,b,c,d,rfl⟩
theorem pV {w:World} {ao:Option Addr} {a b c d:List UInt8} (h:Bh w ao [a,b,c,d]):∃ g off,ao=some (qzA g off)/\g<w.heap.size/\w.cell? (qzA g off)=some (.string ⟨a.toArray⟩)/\w.cell? (qzA g (off+1))=some (.string ⟨b.toArray⟩)/\w.cell? (qzA g (off+2))=some (.string ⟨c.toArray⟩)/\w.cell? (qzA g (off+3))=some (.string ⟨d.toArray⟩):=by
 rcases h with h | ⟨g,off,h1,h2,Z⟩
 ·cases h
 ·exact ⟨g,off,h1,h2,Z 0 (by simp),Z 1 (by simp),Z 2 (by simp),Z 3 (by simp)⟩
theorem pY {w:World} {g off:Nat} {b c d:List UInt8} (hg:g<w.heap.size) (h1:w.cell? (qzA g off)=some (.string ⟨b.toArray⟩)) (h2:w.cell? (qzA g (off+1))=some (.string ⟨c.toArray⟩)) (Z:w.cell? (qzA g (off+2))=some (.string ⟨d.toArray⟩)):Bh w (some (qzA g off)) [b,c,d] :=
 .inr ⟨g,off,rfl,hg,fun i hi=>by
  rcases (show i=0\/i=1\/i=2 by simp at hi;omega) with rfl | rfl | rfl
  ·exact h1
  ·exact h2
  ·exact Z⟩
theorem eM {F:Ff} {E:World->Prop} {G B K:Nat} (KI:Rq F E G) (b:Bk) (q:Bp) (ao:Option Addr) (cap:Nat) (rs:Be) (w:World) (hk:KS B K 1 b q w) (hE:E w) (hP:Ej b) (S:Bh w ao rs) (C:rs.length<=cap) (b7:cap<=1048577) (hd:∀ r ∈ rs,r.length<=1048576) :
  Calls prog 173 #[.pointer (some (qzA K 0)),.slice ao rs.length cap] w (Wz E B K w (Gt F b rs)):=by
 have a4:Hid (B<=w.heap.size):=hk.lt;have O:Hid (KS B K 1 b q w):=hk;have N:Hid (E w):=hE;have a9:Hid (Ej b):=hP;have s:Hid (Rq F E G):=KI;obtain ⟨et,ea,y⟩:=KI.eLine w hE
 have D:Hid (NF E (.iface et (.pointer (some ea)))):=⟨w,3,hE,by decide,y⟩
 have a6:Hid (Ce B w w):=.refl _ _
 by_cases hl4:rs.length=4
 ·obtain ⟨r0,t,m,v,A⟩:=nP hl4
  have d0:=hd r0 (by rw [A];simp)
  have d1:=hd t (by rw [A];simp)
  have d2:=hd m (by rw [A];simp)
  have d3:=hd v (by rw [A];simp)
  rw [A] at S;obtain ⟨g,off,rfl,hg,t0,t1,t2,t3⟩:=pV S;rw [A] at C ⊢
  simp only [List.length_cons,List.length_nil] at C
  clear hd S hl4 hk hE hP KI A
  by_cases hr0:r0=[]
  ·have HR:Hid (Gt F b [r0,t,m,v]=(b,1)):=if_neg (by rintro ⟨_,h,_⟩;exact h hr0)
   rw [HR.o];subst hr0;clear HR
   go_enter func173,ntmps173
   go_wp2;go_ret
   exact Et D.o (by decide) O.o a6.o
  ·have c8:(r0 == [])=false:=by simpa using hr0
   have l:Hid (Calls prog 206 #[.slice (some (qzA g (off+1))) 3 (cap - 1)] w fun e w'=>∃ a k,e=.returned (.tuple #[.slice a (A7 [t,m,v]).length k,.bool (Ap [t,m,v])])/\w'.ownsRow w.heap.size 3 1 (.slice a (A7 [t,m,v]).length k) (A7 [t,m,v]).length ((A7 [t,m,v]).map (Value.int .i64))/\BW w w') :=
    Ks s.o (some (qzA g (off+1))) (cap - 1) [t,m,v] w (pY hg t1 t2 t3) (by simp) (by
     intro r hr
     simp at hr
     rcases hr with rfl | rfl | rfl <;> assumption) N.o
   have b0:Hid (Gt F b [r0,t,m,v]=if Ap [t,m,v]=true then Fq F b r0 (Ae t) (Ae m) (Ae v) else (b,1)):=by
    rw [Hid,Gt]
    by_cases h:Ap [t,m,v]=true
    ·rw [if_pos ⟨rfl,hr0,h⟩,if_pos h];rfl
    ·rw [if_neg (fun e=>h e.2.2),if_neg h]
   rw [b0.o];clear b0 hr0
   by_cases f:Ap [t,m,v]=true
   ·have hv:A7 [t,m,v]=[Ae t,Ae m,Ae v]:=if_pos f
    have b1:=Ib t;have V:=Ib m;have b2:=Ib v
    have W:0<=Ae m:=by
     have:=List.all_eq_true.1 f m (by simp)
     simpa using this
    rw [hv,f] at l;rw [if_pos f];obtain ⟨n1,e1⟩:∃ n,Ae t=n:=⟨_,rfl⟩;obtain ⟨n2,e2⟩:∃ n,Ae m=n:=⟨_,rfl⟩;obtain ⟨n3,e3⟩:∃ n,Ae v=n:=⟨_,rfl⟩;rw [e1] at l b1 ⊢;rw [e2] at l V W ⊢;rw [e3] at l b2 ⊢
    simp only [List.length_cons,List.length_nil,List.map_cons,List.map_nil] at l
    clear hv e1 e2 e3 f y
    go_enter func173,ntmps173
    go_wp2_with fail
    refine Calls.mono l.o ?_;rintro e j ⟨a,k,rfl,X,J⟩
    obtain ⟨H,rfl,-,-⟩:=Hf X (by omega)
    have m0:j.cell? (qzA H 0)=some (qzI n1):=by simpa using X.cellAt 0 (by omega)
    have m1:j.cell? (qzA H 1)=some (qzI n2):=by simpa using X.cellAt 1 (by omega)
    have m2:j.cell? (qzA H 2)=some (qzI n3):=by simpa using X.cellAt 2 (by omega)
    have s0:j.cell? (qzA g off)=some (.string ⟨r0.toArray⟩):=(J.cell (p:=(qzA g off)) hg).trans t0;have x:Hid (KS B K 1 b q j):=O.o.below J;have U:Hid (Ce B w j):=.of J a4.o;have a8:Hid (E j):=s.o.grow N.o J;have S:=x.o.z;have lK:=S.lt
    have HS:Hid (∀ u,BW j u->u.cell? (qzA K 3)=some (qzI b.today)/\u.cell? (qzA K 5)=some (.slice q.a b.az.length q.ac)/\u.cell? (qzA g off)=some (.string ⟨r0.toArray⟩)/\u.cell? (qzA H 0)=some (qzI n1)/\u.cell? (qzA H 1)=some (qzI n2)/\u.cell? (qzA H 2)=some (qzI n3)):=fun u h=>by
     have l1:=World.block_lt_of_cell? j _ m0;have l2:=World.block_lt_of_cell? j _ s0;exact ⟨(h.cell (p:=(qzA K 3)) lK).trans S.c3,(h.cell (p:=(qzA K 5)) lK).trans S.c5,(h.cell (p:=(qzA g off)) l2).trans s0,(h.cell (p:=(qzA H 0)) l1).trans m0,(h.cell (p:=(qzA H 1)) l1).trans m1,(h.cell (p:=(qzA H 2)) l1).trans m2⟩
    have M:Hid (∀ u,BW j u->Calls prog 208 #[.slice q.a b.az.length q.ac,.agg #[.string ⟨r0.toArray⟩,qzI n1,qzI n2,qzI n3,qzI b.today,.bool false]] u (Pi u (F.add b.az ⟨r0,n1,n2,n3,b.today,false⟩) (F.addOk b.az ⟨r0,n1,n2,n3,b.today,false⟩))):=fun u h =>
     s.o.add q.a q.ac b.az ⟨r0,n1,n2,n3,b.today,false⟩ u (x.o.below h).at.az a9.o.sm.2.1 a9.o.ref d0 ⟨W,V.2⟩
    have k0:BW j j:=bR;have HY:Hid _:=@kK F b r0 n1 n2 n3;have R:Hid _:=@bZ F b r0 n1 n2 n3;obtain ⟨L,hL⟩:∃ L,F.add b.az ⟨r0,n1,n2,n3,b.today,false⟩=L:=⟨_,rfl⟩;obtain ⟨ok,f⟩:∃ o,F.addOk b.az ⟨r0,n1,n2,n3,b.today,false⟩=o:=⟨_,rfl⟩;rw [hL] at M HY;rw [f] at M HY R;clear X J l hL f S lK t0 t1 t2 t3 W b1 V b2;obtain ⟨q3,q5,qg,qa,qb,qc⟩:=HS.o _ k0;clear m0 m1 m2 s0;go_upto_region 6 with fail
    go_region_held3 (fun u=>u.cell? (qzA K 3)=some (qzI b.today)/\u.cell? (qzA K 5)=some (.slice q.a b.az.length q.ac)/\u.cell? (qzA g off)=some (.string ⟨r0.toArray⟩)/\u.cell? (qzA H 0)=some (qzI n1)/\u.cell? (qzA H 1)=some (qzI n2)/\u.cell? (qzA H 2)=some (qzI n3)) (first | with_reducible exact HS.o _ k0 | with_reducible exact HS.o _ k0.drew | with_reducible exact HS.o _ k3) ((go_at_call 208;(first | with_reducible refine Calls.mono (M.o _ k0) ?_ | with_reducible refine Calls.mono (M.o _ k0.drew) ?_);rintro e Y ⟨a3,c3,rfl,o3,p3⟩;have k3:BW j Y:=(by first | exact p3 | exact (Below.trans (Below.refl j.heap.size j).drew p3))))
    all_goals
     rename_i hheld
     have I:Hid (KS B K 1 b q Y):=x.o.below k3;have a7:Hid (B<=j.heap.size):=x.o.lt;have a5:Hid (Ce B w Y):=U.o.trans (.of k3 a7.o);obtain ⟨et,ea,y⟩:=s.o.eAuth Y (s.o.grow a8.o k3)
     have D:Hid (NF E (.iface et (.pointer (some ea)))):=⟨Y,5,(s.o.grow a8.o k3),by decide,y⟩
     have b6:Hid (Y.ownsRow j.heap.size 107 6 (.slice a3 L.length c3) L.length (Ah L)):=(by first | exact o3 | exact (by simpa using o3))
     clear hheld q3 q5 qg qa qb qc k0 k3 p3 o3
     cases ok
     ·have HQ:Hid _:=R.o rfl
      clear HY R;go_wp2;go_ret;rw [HQ.o]
      exact Et D.o (by decide) I.o a5.o
     ·have HQ:Hid _:=HY.o rfl
      have b5:Hid _:=I.o.setA b6.o a7.o;have b4:Hid (Ce B w (Y.setCell (qzA K 5) (.slice a3 L.length c3))):=a5.o.setK I.o.kt x.o.hK;have z5:=I.o.z.z5;have c5:=I.o.z.c5;clear HY R;go_wp2;go_ret;rw [HQ.o];exact Uv b5.o b4.o
   ·have T:Ap [t,m,v]=false:=by simpa using f
    rw [if_neg f];obtain ⟨L,hL⟩:∃ L,A7 [t,m,v]=L:=⟨_,rfl⟩;rw [hL,T] at l;clear hL f T y
    go_enter func173,ntmps173
    go_wp2_with fail
    refine Calls.mono l.o ?_;rintro e j ⟨a,k,rfl,X,J⟩;have x:Hid (KS B K 1 b q j):=O.o.below J;have U:Hid (Ce B w j):=.of J a4.o;obtain ⟨et,ea,y⟩:=s.o.eLine j (s.o.grow N.o J)
    have D:Hid (NF E (.iface et (.pointer (some ea)))):=⟨j,3,(s.o.grow N.o J),by decide,y⟩
    clear X J l t0 t1 t2 t3;go_wp2;go_ret
    exact Et D.o (by decide) x.o U.o
 ·have HR:Hid (Gt F b rs=(b,1)):=if_neg (fun e=>hl4 e.1)
  rw [HR.o];obtain ⟨n,b3⟩:∃ n,rs.length=n:=⟨_,rfl⟩;rw [b3] at hl4 C ⊢
  have b8:((n:Int) == 4)=false:=by
   have:¬ (n:Int)=4:=by omega
   simpa using this
  have b9:((n:Int) != 4)=true:=by
   have:¬ (n:Int)=4:=by omega
   simpa using this
  clear HR hl4 hd S hk hE hP KI b3 C b7
  go_enter func173,ntmps173
  go_wp2;go_ret
  exact Et D.o (by decide) O.o a6.o
def PsR (B K:Nat) (F:Ff) (b:Bk) (q:Bp) (es:List En) (w:World) (e:Ending) (w':World):Prop :=
 e=.returned (.bool (F.allOk b.ls es))/\(∃ a c,KS B K 1 ⟨b.today,b.off,b.az,b.cs,F.all b.ls es,b.log⟩ ⟨q.o,q.oc,q.a,q.ac,q.c,q.cc,a,c,q.g,q.gc⟩ w')/\Ce B w w'/\w.grownBy w' (some K)
theorem K9 {F:Ff} {E:World->Prop} {G B K:Nat} (N:Rq F E G) (b:Bk) (q:Bp) (u:Option Addr) (I:Nat) (es:List En) (w:World) (s:KS B K 1 b q w) (J:Ej b) (R:C8 w u es) (U:es.length<=1048576) (hd:∀ x ∈ es,Ma x) :
  Calls prog 211 #[.pointer (some (qzA K 2)),.slice u es.length I] w (PsR B K F b q es w):=by
 have m:Hid (Calls prog 255 #[.agg #[.slice q.l b.ls.length q.lc],.slice u es.length I] w fun e w'=>∃ ao cap,e=.returned (.tuple #[.agg #[.slice ao (F.all b.ls es).length cap],.bool (F.allOk b.ls es)])/\w'.ownsRow w.heap.size 113 3 (.slice ao (F.all b.ls es).length cap) (F.all b.ls es).length (Ag (F.all b.ls es))/\BW w w'):=N.post q.l q.lc b.ls u I es w s.at.ls J.sm.2.2.2.1 J.lb R U hd
 have p:Hid (B<=w.heap.size):=s.lt;have r:Hid (KS B K 1 b q w):=s;obtain ⟨L,hL⟩:∃ L,F.all b.ls es=L:=⟨_,rfl⟩;obtain ⟨ok,n⟩:∃ o,F.allOk b.ls es=o:=⟨_,rfl⟩;have C:Hid (F.all b.ls es=L):=hL;have D:Hid (F.allOk b.ls es=ok):=n;rw [hL,n] at m;obtain ⟨c0,c1,c2,c3,c4,c5,c6,c7,z0,z1,z2,z3,z4,z5,z6,z7⟩:=s.z;clear R hd s J N hL n
 go_enter func211,ntmps211
 go_wp2_with fail
 refine Calls.mono m.o ?_;rintro e f ⟨a,k,rfl,S,H⟩;have t:Below f.heap.size f (f.alloc (.cells #[.slice a L.length k] 29)):=bR.alloc nL _;have M:Hid ((f.alloc (.cells #[.slice a L.length k] 29)).ownsRow w.heap.size 113 3 (.slice a L.length k) L.length (Ag L)):=Av S t;have d:Hid (KS B K 1 b q (f.alloc (.cells #[.slice a L.length k] 29))):=(r.o.below H).below t;have i:Hid (Below w.heap.size w (f.alloc (.cells #[.slice a L.length k] 29))):=next H t
 have T:(f.alloc (.cells #[.slice a L.length k] 29)).cell? ⟨f.heap.size,0,none⟩=some (.slice a L.length k):=by simp
 clear c0 c1 c2 c3 c4 c5 c6 c7 z0 z1 z2 z3 z4 z5 z6 z7 S H t m;go_upto_region 2 with fail
 obtain ⟨W,O⟩:∃ W,W=f.alloc (.cells #[.slice a L.length k] 29):=⟨_,rfl⟩;rw [<- O] at M d i T ⊢;clear O;have c2:=d.o.z.c2;have z2:=d.o.z.z2;have A:Hid _:=d.o.setL M.o p.o
 have y:Hid (w.grownBy (W.setCell (qzA K 2) (.slice a L.length k)) (some K)):=by
  have h:=i.o
  exact (World.grownBy.trans ⟨h.os,h.tape,h.output,h.size,fun j hj _=>h.block j hj⟩ (An W K 2 _))
 have v:Hid (Ce B w (W.setCell (qzA K 2) (.slice a L.length k))):=(Ce.of i.o p.o).setK d.o.kt r.o.hK;go_wp2;go_ret;refine ⟨?_,⟨a,k,?_⟩,v.o,y.o⟩
 ·rw [D.o];rfl
 ·rw [C.o];exact A.o
def sL:Array Value:=#[.string ⟨#[97,115,107]⟩,.string ⟨#[103,105,118,101]⟩,.string ⟨#[99,104,97,114,103,101]⟩,.string ⟨#[97,110,115,119,101,114]⟩,.string ⟨#[115,101,99,111,110,100]⟩,.string ⟨#[97,99,99,101,112,116]⟩,.string ⟨#[114,101,102,117,115,101]⟩,.string ⟨#[114,117,108,101]⟩,.string ⟨#[101,120,112,105,114,101]⟩,.string ⟨#[99,108,111,115,101]⟩]
theorem pJ (k:Nat) (h:k<10) (V:World):(Instr.index 156 (.agg sL) (qzI (k:Int))).run prog V=.ok (.string ⟨(Al Dm k).toArray⟩) V:=by
 rcases (show k=0\/k=1\/k=2\/k=3\/k=4\/k=5\/k=6\/k=7\/k=8\/k=9 by omega) with rfl | rfl | rfl | rfl | rfl | rfl | rfl | rfl | rfl | rfl <;> kernel_rfl
def Oz (s:List UInt8):Int:=if 0<=Bz s then Bz s else 0
theorem fD {F:Ff} {E:World->Prop} {G:Nat} (K:Rq F E G) (s:List UInt8) (w:World) (m:E w) :
  Calls prog 213 #[.string ⟨s.toArray⟩] w fun e w'=>e=.returned (.tuple #[qzI (Oz s),.bool (decide (0<=Bz s))])/\BW w w':=by
 have l:Hid (Bz s=Dh s (Dm.drop 0) 0):=rfl;have hw:=K.words w m
 have p:w.cell? (qzA 0 0)=some (.string ⟨#[97,115,107]⟩):=hw 0 (by decide)
 have q:w.cell? (qzA 0 1)=some (.string ⟨#[103,105,118,101]⟩):=hw 1 (by decide)
 have t:w.cell? (qzA 0 2)=some (.string ⟨#[99,104,97,114,103,101]⟩):=hw 2 (by decide)
 have u:w.cell? (qzA 0 3)=some (.string ⟨#[97,110,115,119,101,114]⟩):=hw 3 (by decide)
 have v:w.cell? (qzA 0 4)=some (.string ⟨#[115,101,99,111,110,100]⟩):=hw 4 (by decide)
 have x:w.cell? (qzA 0 5)=some (.string ⟨#[97,99,99,101,112,116]⟩):=hw 5 (by decide)
 have y:w.cell? (qzA 0 6)=some (.string ⟨#[114,101,102,117,115,101]⟩):=hw 6 (by decide)
 have z:w.cell? (qzA 0 7)=some (.string ⟨#[114,117,108,101]⟩):=hw 7 (by decide)
 have A:w.cell? (qzA 0 8)=some (.string ⟨#[101,120,112,105,114,101]⟩):=hw 8 (by decide)
 have B:w.cell? (qzA 0 9)=some (.string ⟨#[99,108,111,115,101]⟩):=hw 9 (by decide)
 clear hw m K
 go_enter func213,ntmps213
 go_wp2;clear p q t u v x y z A B
 go_loopw [7] (fun i wr=>∃ (k:Nat),k<=10/\i=qzI (k:Int)/\Bz s=Dh s (Dm.drop k) k/\BW w wr) (fun i _=>10 - (intOf i).toNat)
 case atStart=>exact ⟨0,Nat.zero_le _,rfl,l.o,bR⟩
 case round =>
  obtain ⟨k,H,rfl,b,f⟩:=hrel;have c:Hid (BW w wr):=f
  by_cases hlt:k<10
  ·have D:(k:Int)<10:=by omega
   have a:=Sz s Dm k hlt;have g:=pJ k hlt;unfold sL at g;obtain ⟨r,n⟩:∃ r,Al Dm k=r:=⟨_,rfl⟩;rw [n] at a g;clear n f l
   by_cases hrs:r=s
   ·subst hrs
    rw [if_pos rfl] at a
    have d:Hid (Oz r=(k:Int)/\decide (0<=Bz r)=true):=by
     have e:Bz r=(k:Int):=b.trans a;unfold Oz;rw [e]
     exact ⟨if_pos (by omega),decide_eq_true (by omega)⟩
    clear a b;go_wp2;go_ret2;exact ⟨Oc d.o.1.symm d.o.2.symm,c.o⟩
   ·rw [if_neg hrs] at a
    have d:Hid (Bz s=Dh s (Dm.drop (k+1)) (k+1)):=b.trans a
    have C:(r == s)=false:=by simpa using hrs
    clear a b;go_wp2
    go_roundw
    case rel=>exact ⟨k+1,by omega,by go_num,d.o,c.o⟩
    case measure=>simp [intOf];omega
  ·have j:k=10:=by omega
   subst j
   have d:Hid (Oz s=0/\decide (0<=Bz s)=false):=by
    have e:Bz s = -1:=b;unfold Oz;rw [e]
    exact ⟨by simp,by simp⟩
   clear f b;go_wp2;go_ret2;exact ⟨Oc d.o.1.symm d.o.2.symm,c.o⟩
end Kb
theorem Mj (F:Ff) (K:Nc F) (b:Bk) (p:Bp) (n:Int) (w:World) (hx:Aq w b p) (hn:D0 b) :
  Calls prog 141 #[C5 b p,qzI n] w (U8 w p (Fr F b n).1 (Fr F b n).2):=by
 have HX:Hid (∀ u,BW w u->Aq u b p):=fun u h=>hx.below h
 have HN:Hid (D0 b):=hn;clear hx hn;obtain ⟨td,k,az,cs,ls,lg⟩:=b;obtain ⟨o,oc,a,ac,c,cc,l,lc,g,gc⟩:=p;unfold C5
 simp only
 obtain ⟨u0,f⟩:∃ u,u=((w.alloc (.cells #[qzI td,.slice o k.length oc,.slice a az.length ac,.slice c cs.length cc,.slice l ls.length lc,.slice g lg.length gc] 31))).alloc (.cells qzB 31):=⟨_,rfl⟩
 have m:Hid (BW w u0):=by rw [Hid,f];go_grown
 have a5:Hid ((w.heap.size+1)<u0.heap.size):=by rw [Hid,f];simp
 have G:Hid (Z6 w.heap.size (qzI td) (.slice o k.length oc) (.slice a az.length ac) (.slice c cs.length cc) (.slice l ls.length lc) (.slice g lg.length gc) u0):=by
  rw [Hid,f];exact ((Z6.new w (qzI td) (.slice o k.length oc) (.slice a az.length ac) (.slice c cs.length cc) (.slice l ls.length lc) (.slice g lg.length gc) 31)).below (bR.alloc nL _)
 have B:Hid (Z6 (w.heap.size+1) (qzI 0) (.slice none 0 0) (.slice none 0 0) (.slice none 0 0) (.slice none 0 0) (.slice none 0 0) u0):=by
  have h:=Z6.new ((w.alloc (.cells #[qzI td,.slice o k.length oc,.slice a az.length ac,.slice c cs.length cc,.slice l ls.length lc,.slice g lg.length gc] 31))) (qzI 0) (.slice none 0 0) (.slice none 0 0) (.slice none 0 0) (.slice none 0 0) (.slice none 0 0) 31
  rw [Hid,f];simpa using h
 have a6:Hid _:=f;clear f
 go_enter func141,ntmps141
 go_upto_region 1 with fail
 rw [<- a6.o];clear a6;obtain ⟨X,Y,Z,t3,t4,t5,O,S,T,U,V,W⟩:=G.o;obtain ⟨q,r,s,t,v,y,J,M,p2,p3,p4,N⟩:=B.o
 cases hd:Dn n
 ·have HE:Hid _:=bH F ⟨td,k,az,cs,ls,lg⟩ hd
  go_wp2_with (go_at_call 102;refine (A9 _ _).mono ?_;rintro e w' ⟨rfl,d⟩;replace d:=d.symm;subst d;rw [hd])
  refine bodyPost_ret (by simp [results,results141,go_sem,q,r,s,t,v,y];try rfl) rfl ?_
  rw [HE.o]
  have bel:=Ax (R:=(w.heap.size+1)) (by omega) m.o
  exact ⟨⟨o,oc,a,ac,c,cc,l,lc,g,gc⟩,rfl,HX.o _ (bel _ _ _ _ _ _),rfl,rfl,⟨rfl,.inl rfl,.inl rfl,.inl rfl⟩,bel _ _ _ _ _ _⟩
 by_cases hlt:td<n
 case neg =>
  have b1:n<=td:=by omega
  have HE:Hid _:=@cS F ⟨td,k,az,cs,ls,lg⟩ n hlt
  go_wp2_with (go_at_call 102;refine (A9 _ _).mono ?_;rintro e w' ⟨rfl,d⟩;replace d:=d.symm;subst d;rw [hd])
  refine bodyPost_ret (by simp [results,results141,go_sem,q,r,s,t,v,y];try rfl) rfl ?_
  rw [HE.o]
  have bel:=Ax (R:=(w.heap.size+1)) (by omega) m.o
  exact ⟨⟨o,oc,a,ac,c,cc,l,lc,g,gc⟩,rfl,HX.o _ (bel _ _ _ _ _ _),rfl,rfl,⟨rfl,.inl rfl,.inl rfl,.inl rfl⟩,bel _ _ _ _ _ _⟩
 have b1:¬ n<=td:=by omega
 have HE:Hid _:=@cA F ⟨td,k,az,cs,ls,lg⟩ n hd hlt
 go_upto_region 4 with (go_at_call 102;refine (A9 _ _).mono ?_;rintro e w' ⟨rfl,d⟩;replace d:=d.symm;subst d;rw [hd])
 obtain ⟨u1,i⟩:∃ u,u=u0.setCell ⟨w.heap.size,0,none⟩ (qzI n):=⟨_,rfl⟩
 have H:Hid (Z6 w.heap.size (qzI n) (.slice o k.length oc) (.slice a az.length ac) (.slice c cs.length cc) (.slice l ls.length lc) (.slice g lg.length gc) u1):=by rw [Hid,i];exact G.o.set0 _
 have C:Hid (Z6 (w.heap.size+1) (qzI 0) (.slice none 0 0) (.slice none 0 0) (.slice none 0 0) (.slice none 0 0) (.slice none 0 0) u1):=by rw [Hid,i];exact B.o.far (by omega)
 have z:Hid (BW w u1):=by rw [Hid,i];exact m.o.setCell nL _
 have a9:Hid (w.heap.size+1<u1.heap.size):=by rw [Hid,i];simpa using a5.o
 rw [<- i];clear i G B m a5 X Y Z t3 t4 t5 O S T U V W q r s t v y J M p2 p3 p4 N;obtain ⟨X,Y,Z,t3,t4,t5,O,S,T,U,V,W⟩:=H.o;obtain ⟨q,r,s,t,v,y,J,M,p2,p3,p4,N⟩:=C.o;go_wp2_with fail
 refine (K.prune a ac az n _ (HX.o _ z.o).az (by have:=HN.o.2.1;simpa using this)).mono ?_
 rintro e u2 ⟨b2,k2,rfl,o2,bb⟩;have I:Hid _:=H.o.below bb;have D:Hid _:=C.o.below bb;have a3:Hid (BW w u2):=next z.o bb;have A:Hid _:=Bi o2 a9.o;obtain ⟨L,hL⟩:∃ L,F.prune az n=L:=⟨_,rfl⟩;rw [hL] at A ⊢;clear X Y Z t3 t4 t5 O S T U V W q r s t v y J M p2 p3 p4 N bb o2 H C z;obtain ⟨X,Y,Z,t3,t4,t5,O,S,T,U,V,W⟩:=I.o;obtain ⟨q,r,s,t,v,y,J,M,p2,p3,p4,N⟩:=D.o;go_upto_region 5 with fail
 obtain ⟨u3,j⟩:∃ u,u=u2.setCell ⟨w.heap.size,2,none⟩ (.slice b2 L.length k2):=⟨_,rfl⟩
 have b0:Hid (Z6 w.heap.size (qzI n) (.slice o k.length oc) (.slice b2 L.length k2) (.slice c cs.length cc) (.slice l ls.length lc) (.slice g lg.length gc) u3):=by rw [Hid,j];exact I.o.set2 _
 have a8:Hid (Z6 (w.heap.size+1) (qzI 0) (.slice none 0 0) (.slice none 0 0) (.slice none 0 0) (.slice none 0 0) (.slice none 0 0) u3):=by rw [Hid,j];exact D.o.far (by omega)
 have a7:Hid (BW w u3):=by rw [Hid,j];exact a3.o.setCell nL _
 have a4:Hid (u3.ownsRow (w.heap.size+2) 107 6 (.slice b2 L.length k2) L.length (Ah L)):=by rw [Hid,j];exact Ad A.o (by omega)
 rw [<- j];clear j I D a3 A X Y Z t3 t4 t5 O S T U V W q r s t v y J M p2 p3 p4 N;obtain ⟨X,Y,Z,t3,t4,t5,O,S,T,U,V,W⟩:=b0.o;obtain ⟨q,r,s,t,v,y,J,M,p2,p3,p4,N⟩:=a8.o;go_wp2
 refine bodyPost_ret (by simp [results,results141,go_sem,q,r,s,t,v,y];try rfl) rfl ?_
 rw [HE.o,hL]
 have bel:=Ax (R:=w.heap.size+1) (by omega) a7.o
 have hX:=HX.o _ (bel (qzI n) (.slice o k.length oc) (.slice b2 L.length k2) (.slice c cs.length cc) (.slice l ls.length lc) (.slice g lg.length gc))
 exact ⟨⟨o,oc,b2,k2,c,cc,l,lc,g,gc⟩,rfl,⟨hX.off,Fd (Ea a4.o (by omega) _ _ _ _ _ _),hX.cs,hX.ls,hX.log⟩,rfl,rfl,⟨rfl,.inr (fun x hx=>by have:=Cw a4.o x hx;omega),.inl rfl,.inl rfl⟩,bel _ _ _ _ _ _⟩
def Fg (Rel:Bk->List UInt8->Bk×Int->Prop) (b:Bk) (c:List UInt8) (r:Bk×Int):Prop :=
 (600<=b.log.length/\r=(b,2))\/(b.log.length<600/\∃ s,Rel b c s/\((s.2≠0/\r=(b,s.2))\/(s.2=0/\r=(⟨s.1.today,s.1.off,s.1.az,s.1.cs,s.1.ls,b.log++[c]⟩,0))))
structure cB (Pre:Bk->Prop) (Rel:Bk->List UInt8->Bk×Int->Prop):Prop where
 log:∀ b l r,Rel b l r->r.1.log=b.log
 small:∀ b,Pre b->D0 b
 calls:∀ (b:Bk) (p:Bp) (c:List UInt8) (w:World),Aq w b p->Vb p w.heap.size->Pre b->c.length<=1048575 ->
  Calls prog 84 #[C5 b p,.string ⟨c.toArray⟩] w fun e w'=>∃ r,Rel b c r/\U8 w p r.1 r.2 e w'
theorem Z6.grown {B:Nat} {m o q t v y:Value} {u f:World} {row:Option Nat} (h:Z6 B m o q t v y u) (g:u.grownBy f row) (d:some B≠row):Z6 B m o q t v y f:=by
 have l:=h.lt;obtain ⟨c0,c1,c2,c3,c4,c5,z0,z1,z2,z3,z4,z5⟩:=h;exact ⟨(g.cell_far (qzA B 0) l d).trans c0,(g.cell_far (qzA B 1) l d).trans c1,(g.cell_far (qzA B 2) l d).trans c2,(g.cell_far (qzA B 3) l d).trans c3,(g.cell_far (qzA B 4) l d).trans c4,(g.cell_far (qzA B 5) l d).trans c5,(g.frozen_far (qzA B 0) l d).trans z0,(g.frozen_far (qzA B 1) l d).trans z1,(g.frozen_far (qzA B 2) l d).trans z2,(g.frozen_far (qzA B 3) l d).trans z3,(g.frozen_far (qzA B 4) l d).trans z4,(g.frozen_far (qzA B 5) l d).trans z5⟩
theorem aC {u f:World} {row:Option Nat} {T i:Nat} {x:Value} (h:u.grownBy f row) (hT:u.heap.size<=T):u.grownBy (f.setCell (qzA T i) x) row :=
 ⟨h.os,h.tape,h.output,by simpa using h.size,fun j hj hne=>(Below.heap_setCell _ _ _ _ (fun e=>by have:j=T:=e;omega)).trans (h.block j hj hne)⟩
theorem Mz {a a1:Option Addr} {n base B:Nat} (h:a=a1\/Cm a n) (k:Dt a1 base) (hb:base<=B) (hB:B<n):Im a B:=by
 rcases h with rfl | h
 ·exact Td k hb
 ·exact Bb h hB
theorem Ky {a a1:Option Addr} {n B:Nat} (h:a=a1\/Cm a n) (k:Im a1 B) (hB:B<n):Im a B:=by
 rcases h with rfl | h
 ·exact k
 ·exact Bb h hB
structure Tp (Pre:Bk->Prop) (Pay:Bk->Int->Int->Int->Int->Bk×Int->Prop) (Act:Bk->Int->Ac->Bk×Int):Prop where
 pay:∀ (b:Bk) (p:Bp) (g k:Nat) (n0 n1 n2 n3:Int) (w:World),Aq w b p->Vb p w.heap.size->Pre b->w.cell? (qzA g 0)=some (qzI n0)->w.cell? (qzA g 1)=some (qzI n1)->w.cell? (qzA g 2)=some (qzI n2)->w.cell? (qzA g 3)=some (qzI n3)->n3<1000000000000000000->-1<=n3 ->
  Calls prog 144 #[C5 b p,.slice (some (qzA g 0)) 4 k] w fun e w'=>∃ r,Pay b n0 n1 n2 n3 r/\U8 w p r.1 r.2 e w'
 act:∀ (b:Bk) (p:Bp) (i:Int) (x:Ac) (w:World),Aq w b p->Vb p w.heap.size->Pre b->Calls prog 146 #[C5 b p,qzI i,av x] w (U8 w p (Act b i x).1 (Act b i x).2)
theorem Cm.mono {a:Option Addr} {n m:Nat} (h:Cm a n) (f:m<=n):Cm a m:=fun x hx=>by have:=h x hx;omega
theorem Vb.mono {p:Bp} {n m:Nat} (h:Vb p n) (f:n<=m):Vb p m:=⟨h.o.mono f,h.a.mono f,h.c.mono f,h.l.mono f,h.g.mono f⟩
theorem Dz {u:World} {R:Nat} {p:Addr} {v:Value} (h:u.cell? p=some v) (B:p.block≠R) (D F G H I J:Value) :
  ((((((u.setCell (qzA R 0) D).setCell (qzA R 1) F).setCell (qzA R 2) G).setCell (qzA R 3) H).setCell (qzA R 4) I).setCell (qzA R 5) J).cell? p=some v:=by
 have s:∀ (y:World) (i:Nat) (x:Value),y.cell? p=some v->(y.setCell (qzA R i) x).cell? p=some v:=fun y i x hy=>((An y R i x).cell_far p (World.block_lt_of_cell? y _ hy) (by simp;exact B)).trans hy
 exact s _ _ _ (s _ _ _ (s _ _ _ (s _ _ _ (s _ _ _ (s _ _ _ h)))))
theorem Qp {w u C:World} {p q:Bp} {j:Bk} {code:Int} {R:Nat} (z:Vb p w.heap.size) (d:BW w u) (L:w.heap.size<=R) (t:R<u.heap.size) (hb:Aq C j q) (hg:q.g=p.g) (A:q.gc=p.gc)
  (hpt:q.o=p.o/\(q.a=p.a\/Cm q.a u.heap.size)/\(q.c=p.c\/Cm q.c u.heap.size)/\(q.l=p.l\/Cm q.l u.heap.size)) (b4:BW u C) (D F G H I J:Value) :
  U8 w p j code (.returned (.tuple #[C5 j q,qzI code])) ((((((C.setCell (qzA R 0) D).setCell (qzA R 1) F).setCell (qzA R 2) G).setCell (qzA R 3) H).setCell (qzA R 4) I).setCell (qzA R 5) J) :=
 ⟨q,rfl,hb.put6 (nX z hg hpt L t) _ _ _ _ _ _,hg,A,⟨hpt.1,hpt.2.1.imp id (fun h=>h.mono d.size),hpt.2.2.1.imp id (fun h=>h.mono d.size),hpt.2.2.2.imp id (fun h=>h.mono d.size)⟩,Ax L (next d b4) _ _ _ _ _ _⟩
def Jl (w:World) (ls:List Ln) (ok:Bool) (e:Ending) (w':World):Prop :=
 ∃ d cap,e=.returned (.tuple #[.agg #[.slice d ls.length cap],.bool ok])/\w'.ownsRow w.heap.size 113 3 (.slice d ls.length cap) ls.length (Ag ls)/\BW w w'
structure PB (s:Nat) (d:Option Addr) (cap n:Nat) (a b c m:Int) (u:World):Prop where
 l0:u.cell? (qzA s 0)=some (.slice d n cap)
 e0:u.cell? ⟨s+1,0,none⟩=some (.int .i64 a)
 e1:u.cell? ⟨s+1,1,none⟩=some (.int .i64 b)
 e2:u.cell? ⟨s+1,2,none⟩=some (.int .i64 c)
 e3:u.cell? ⟨s+1,3,none⟩=some (.int .i64 m)
 r0:u.cell? ⟨s+1+1,0,none⟩=some (.slice none 0 0)
 rf:u.frozen? ⟨s+1+1,0,none⟩=false
 sz:s+1+1<u.heap.size
theorem PB.below {s:Nat} {d:Option Addr} {cap n:Nat} {a b c m:Int} {u u':World} (h:PB s d cap n a b c m u) (hb:BW u u'):PB s d cap n a b c m u':=by
 have h1:=h.sz
 exact ⟨(hb.cell (p:=(qzA s 0)) (by show s<u.heap.size;omega)).trans h.l0,(hb.cell (p:=⟨s+1,0,none⟩) (by show s+1<u.heap.size;omega)).trans h.e0,(hb.cell (p:=⟨s+1,1,none⟩) (by show s+1<u.heap.size;omega)).trans h.e1,
  (hb.cell (p:=⟨s+1,2,none⟩) (by show s+1<u.heap.size;omega)).trans h.e2,(hb.cell (p:=⟨s+1,3,none⟩) (by show s+1<u.heap.size;omega)).trans h.e3,(hb.cell (p:=⟨s+1+1,0,none⟩) h1).trans h.r0,(hb.frozen (p:=⟨s+1+1,0,none⟩) h1).trans h.rf,Nat.lt_of_lt_of_le h1 hb.size⟩
theorem Gd {w u:World} {ls gs:List Ln} {ok:Bool} {d:Option Addr} {cap base:Nat} (hg:gs=ls) (ho:u.ownsRow base 113 3 (.slice d ls.length cap) ls.length (Ag ls)) (hb:w.heap.size+1+1<base) (bel:BW w u) :
  Jl w gs ok (.returned (.tuple #[.agg #[.slice d ls.length cap],.bool ok])) (u.setCell ⟨w.heap.size+1+1,0,none⟩ (.slice d ls.length cap)):=by
 subst hg
 exact ⟨d,cap,rfl,Bi (A5 ho _ _ (fun g hg=>by have:=(ho.lt g hg).1;simp only;omega)) (by omega),bel.setCell (by show w.heap.size<=w.heap.size+1+1;omega) _⟩
theorem Hs {ls:List Ln} {e:En} (h:Cj ls e=false):Gg ls e=ls:=if_neg (by rw [h];decide)
theorem N9 {ls:List Ln} {e:En} (h:Cj ls e=true):Gg ls e=G5 ls e:=if_pos h
theorem P0 {ls:List Ln} {a c m:Int} : ∀ x ∈ Cr ls a c m,x ∈ ls\/x.2.2=m\/∃ y ∈ ls,x.2.2=y.2.2+m:=by
 induction ls with
 | nil=>intro x t;simp [Cr] at t;subst t;exact .inr (.inl rfl)
 | cons y r ih =>
  intro x t
  simp only [Cr] at t
  split at t
  ·split at t
   ·split at t
    ·rcases List.mem_cons.1 t with rfl | h
     ·exact .inr (.inr ⟨y,List.mem_cons_self ..,rfl⟩)
     ·exact .inl (List.mem_cons_of_mem _ h)
    ·exact .inl (List.mem_cons_of_mem _ t)
   ·rcases List.mem_cons.1 t with rfl | h
    ·exact .inr (.inl rfl)
    ·exact .inl h
  ·rcases List.mem_cons.1 t with rfl | h
   ·exact .inl (List.mem_cons_self ..)
   ·rcases ih x h with h | h | ⟨z,hz,h⟩
    ·exact .inl (List.mem_cons_of_mem _ h)
    ·exact .inr (.inl h)
    ·exact .inr (.inr ⟨z,List.mem_cons_of_mem _ hz,h⟩)
theorem Dq {ls:List Ln} (h:At ls=true):Az none ls=true/\ls.length<=400/\Wo ls=true:=by
 simp only [At,Bool.and_eq_true,decide_eq_true_eq] at h
 exact ⟨h.1,h.2.1,h.2.2⟩
theorem Lq {e:En} (h:Bt e=true):Cb e.1=true/\Cb e.2.1=true/\e.1≠e.2.1/\0<=Dc e.2.2.1/\1<=e.2.2.2/\e.2.2.2<=1000000000000:=by
 simp only [Bt,Bool.and_eq_true,decide_eq_true_eq] at h
 exact ⟨h.1,h.2.1,h.2.2.1,h.2.2.2.1,h.2.2.2.2⟩
theorem eE (d:Option Addr) (cap:Nat) (ls:List Ln) (a b c m:Int) (w:World) (hz:Ai w d ls) (hn:ls.length<=1048576) :
  Calls prog 220 #[.agg #[.slice d ls.length cap],.agg #[.int .i64 a,.int .i64 b,.int .i64 c,.int .i64 m]] w (Jl w (Gg ls (a,b,c,m)) (Cj ls (a,b,c,m))):=by
 obtain ⟨W,hW⟩:∃ W,W=((w.alloc (.cells #[.slice d ls.length cap] 29)).alloc (.cells #[.int .i64 a,.int .i64 b,.int .i64 c,.int .i64 m] 269)).alloc (.cells #[.slice none 0 0] 29):=⟨_,rfl⟩
 have bW:BW w W:=by rw [hW];go_grown
 have PW:PB w.heap.size d cap ls.length a b c m W:=by
  rw [hW];exact ⟨by simp [go_sem],by simp [go_sem],by simp [go_sem],by simp [go_sem],by simp [go_sem],by simp [go_sem],by simp [go_sem],by simp⟩
 have HZ:Hid (Ai W d ls):=hz.below bW;have HW:Hid _:=hW;have l0:=PW.l0;have a6:Hid _:=PW;clear hz hW PW
 cases hL:At ls
 ·have i:Cj ls (a,b,c,m)=false:=by simp [Cj,hL]
  have v:Hid _:=Hs i;rw [i];have HL:Hid _:=hL
  have HC:Hid (Calls prog 260 #[.agg #[.slice d ls.length cap]] W fun e w'=>e=.returned (.bool false)/\BW W w'):=by
   have h:=Ik d cap ls W HZ.o (by omega)
   rw [hL] at h;exact h
  clear i hL
  go_enter func220,ntmps220
  go_upto_region 1 with fail
  rw [<- HW.o];go_wp2_with fail
  refine HC.o.mono ?_;rintro e I ⟨rfl,F⟩;have q:=a6.o.below F;have q1:=next bW F;have L:Hid (Ai I d ls):=HZ.o.below F;have Y:=q.l0;have G:Hid _:=q;clear HC F q l0;go_wp2_with fail
  refine (Hh d cap ls I L.o (by omega)).mono ?_
  rintro e l ⟨g2,c2,rfl,o2,H⟩;have B:=G.o.below H;have r0:=B.r0;have rf:=B.rf;have HE:Hid _:=Gd (w:=w) (ok:=false) v.o o2 G.o.sz (next q1 H);clear o2 H B Y;go_wp2
  refine bodyPost_ret (by simp [results,results220,go_sem,r0];try rfl) rfl ?_
  exact HE.o
 have O:Hid (Calls prog 260 #[.agg #[.slice d ls.length cap]] W fun e w'=>e=.returned (.bool true)/\BW W w'):=by
  have h:=Ik d cap ls W HZ.o (by omega)
  rw [hL] at h;exact h
 cases hE:Bt (a,b,c,m)
 ·have i:Cj ls (a,b,c,m)=false:=by simp [Cj,hE]
  have v:Hid _:=Hs i;rw [i];have a3:Hid _:=hE;clear i hL hE
  go_enter func220,ntmps220
  go_upto_region 1 with fail
  rw [<- HW.o];go_wp2_with fail
  refine O.o.mono ?_;rintro e I ⟨rfl,F⟩;have q:=a6.o.below F;have q1:=next bW F;have L:Hid (Ai I d ls):=HZ.o.below F;have k0:=q.e0;have k1:=q.e1;have k2:=q.e2;have k3:=q.e3
  have J:Hid (Calls prog 261 #[.agg #[.int .i64 a,.int .i64 b,.int .i64 c,.int .i64 m]] I fun e w'=>e=.returned (.bool false)/\BW I w'):=by
   have h:=Nf a b c m I;rw [a3.o] at h;exact h
  have G:Hid _:=q;clear O F q l0;go_wp2_with fail
  refine J.o.mono ?_;rintro e l ⟨rfl,H⟩;have B:=G.o.below H;have q2:=next q1 H;have S:Hid (Ai l d ls):=L.o.below H;have Y:=B.l0;have f:Hid _:=B;clear J H B k0 k1 k2 k3;go_wp2_with fail
  refine (Hh d cap ls l S.o (by omega)).mono ?_
  rintro e U ⟨X,c3,rfl,o3,C⟩;have P3:=f.o.below C;have r0:=P3.r0;have rf:=P3.rf;have HE:Hid _:=Gd (w:=w) (ok:=false) v.o o3 f.o.sz (next q2 C);clear o3 C P3 Y;go_wp2
  refine bodyPost_ret (by simp [results,results220,go_sem,r0];try rfl) rfl ?_
  exact HE.o
 ·obtain ⟨d0,g1,_⟩:=Dq hL
  obtain ⟨_,_,_,_,d5,d6⟩:=Lq hE
  simp only at d5 d6
  have T:∀ x ∈ ls,-1000000000000<=x.2.2/\x.2.2<=1000000000000:=fun x t=>(Ig (Dv d0 x t)).2.2.1
  have a9:Hid (∀ x ∈ ls,-4000000000000<=x.2.2/\x.2.2<=4000000000000):=fun x t=>by have:=T x t;omega
  have Z:Hid (∀ x ∈ Cr ls a c (-m),-4000000000000<=x.2.2/\x.2.2<=4000000000000):=fun x t=>by
   rcases P0 x t with h | h | ⟨y,hy,h⟩
   ·have:=T x h;omega
   ·omega
   ·have:=T y hy;omega
  have d1:=Mp ls a c (-m);have a8:=Mp (Cr ls a c (-m)) b c m;have a5:Hid (G5 ls (a,b,c,m)=Cr (Cr ls a c (-m)) b c m):=rfl
  have R:Hid (Cj ls (a,b,c,m)=At (Cr (Cr ls a c (-m)) b c m)):=by rw [Hid,Cj,hL,hE];rfl
  obtain ⟨D,a7⟩:∃ D,Cr ls a c (-m)=D:=⟨_,rfl⟩;rw [a7] at Z d1 a8 a5 R;obtain ⟨A,hA⟩:∃ A,Cr D b c m=A:=⟨_,rfl⟩;rw [hA] at a8 a5 R;have d2:Hid _:=a7;have HA:Hid _:=hA;have a3:Hid _:=hE
  have g0:A.length<=402:=by omega
  have d8:D.length<=401:=by omega
  clear hL hE d0 T d1 a8 a7 hA
  have g5:IntKind.i64.wrap (-m) = -m:=by simp [IntKind.wrap,IntKind.bits,IntKind.signed];omega
  go_enter func220,ntmps220
  go_upto_region 1 with fail
  rw [<- HW.o];go_wp2_with fail
  refine O.o.mono ?_;rintro e I ⟨rfl,F⟩;have q:=a6.o.below F;have q1:=next bW F;have L:Hid (Ai I d ls):=HZ.o.below F;have k0:=q.e0;have k1:=q.e1;have k2:=q.e2;have k3:=q.e3
  have J:Hid (Calls prog 261 #[.agg #[.int .i64 a,.int .i64 b,.int .i64 c,.int .i64 m]] I fun e w'=>e=.returned (.bool true)/\BW I w'):=by
   have h:=Nf a b c m I;rw [a3.o] at h;exact h
  have G:Hid _:=q;clear O F q l0;go_wp2_with fail
  refine J.o.mono ?_;rintro e l ⟨rfl,H⟩;have B:=G.o.below H;have q2:=next q1 H;have S:Hid (Ai l d ls):=L.o.below H;have Y:=B.l0;have i0:=B.e0;have i1:=B.e1;have i2:=B.e2;have i3:=B.e3;have f:Hid _:=B
  have H1:Hid (Calls prog 262 #[.slice d ls.length cap,.int .i64 a,.int .i64 c,.int .i64 (-m)] l.drew fun e w'=>∃ g cap',e=.returned (.slice g D.length cap')/\w'.ownsRow l.heap.size 113 3 (.slice g D.length cap') D.length (Ag D)/\BW l w'):=by
   have h:=Tf d cap ls a c (-m) l.drew (S.o.below (bR.drew)) hn (by omega) a9.o
   rw [d2.o] at h;refine h.mono ?_;rintro e w' ⟨g,k,rfl,o,bb⟩;exact ⟨g,k,rfl,o,(bR.drew).trans bb⟩
  have b0:Hid (∀ (U:World) (X:Option Addr) (c3:Nat),U.ownsRow l.heap.size 113 3 (.slice X D.length c3) D.length (Ag D)->BW l U->Calls prog 262 #[.slice X D.length c3,.int .i64 b,.int .i64 c,.int .i64 m] U fun e w'=>∃ g cap',e=.returned (.slice g A.length cap')/\w'.ownsRow l.heap.size 113 3 (.slice g A.length cap') A.length (Ag A)/\BW l w'):=fun U X c3 o3 C=>by
   have h:=Tf X c3 D b c m U (Df o3) (by omega) ⟨by omega,by omega⟩ Z.o
   rw [HA.o] at h;refine h.mono ?_;rintro e w' ⟨g,k,rfl,o,bb⟩;exact ⟨g,k,rfl,Bi o C.size,C.trans (bb.mono C.size)⟩
  clear J H B k0 k1 k2 k3 a9 Z;go_upto_region 3 with fail
  go_region_held3 (fun u=>u.cell? ⟨w.heap.size,0,none⟩=some (.slice d ls.length cap)/\u.cell? ⟨w.heap.size+1,0,none⟩=some (.int .i64 a)/\u.cell? ⟨w.heap.size+1,1,none⟩=some (.int .i64 b)/\u.cell? ⟨w.heap.size+1,2,none⟩=some (.int .i64 c)/\u.cell? ⟨w.heap.size+1,3,none⟩=some (.int .i64 m)) (first | exact ⟨Y,i0,i1,i2,i3⟩ | exact ⟨(f.o.below b4).l0,(f.o.below b4).e0,(f.o.below b4).e1,(f.o.below b4).e2,(f.o.below b4).e3⟩ | exact ⟨(f.o.below C).l0,(f.o.below C).e0,(f.o.below C).e1,(f.o.below C).e2,(f.o.below C).e3⟩) ((first
   | (go_at_call_of 262 (Value.int .i64 (-m));refine H1.o.mono ?_;rintro e U ⟨X,c3,rfl,o3,C⟩;have H2:Hid (Calls prog 262 #[.slice X D.length c3,.int .i64 b,.int .i64 c,.int .i64 m] U fun e w'=>∃ g cap',e=.returned (.slice g A.length cap')/\w'.ownsRow l.heap.size 113 3 (.slice g A.length cap') A.length (Ag A)/\BW l w'):=b0.o U X c3 o3 C;clear o3)
   | (go_at_call 262;refine H2.o.mono ?_;rintro e w4 ⟨g4,c4,rfl,o4,b4⟩;have b8:Hid (w4.ownsRow l.heap.size 113 3 (.slice g4 A.length c4) A.length (Ag A)):=o4;clear o4)))
  all_goals
   obtain ⟨u,hu⟩:∃ x,x=w4:=⟨_,rfl⟩;subst hu;have g:=g4;obtain ⟨g,hg⟩:∃ g,g=g4:=⟨_,rfl⟩;obtain ⟨k,hk⟩:∃ k,k=c4:=⟨_,rfl⟩;subst hg hk;have o5:=b8.o;have b5:=b4;clear b4 b8 H1 H2 b0 C;have P5:=f.o.below b5;have q5:=next q2 b5;have d9:Hid (u.ownsRow l.heap.size 113 3 (.slice g A.length k) A.length (Ag A)):=o5;obtain ⟨V,hV⟩:∃ V,V=u.alloc (.cells #[.slice g A.length k] 29):=⟨_,rfl⟩
   have bV:BW u V:=by rw [hV];go_grown
   have v0:V.cell? ⟨u.heap.size,0,none⟩=some (.slice g A.length k):=by rw [hV];simp
   have PV:=P5.below bV;have qV:=next q5 bV;have b9:Hid (V.ownsRow l.heap.size 113 3 (.slice g A.length k) A.length (Ag A)):=Av o5 bV;have d4:Hid (Ai V d ls):=(S.o.below b5).below bV;have c9:Hid _:=PV
   have j:Hid (Calls prog 260 #[.agg #[.slice g A.length k]] V fun e w'=>e=.returned (.bool (At A))/\BW V w'):=Ik g k A V (Df b9.o) (by omega)
   have d7:w.heap.size+1+1<l.heap.size:=f.o.sz;clear o5 b5 bV P5 PV q5 Y i0 i1 i2 i3;go_upto_region 5 with fail
   rw [<- hV];clear hV
   cases hLA:At A
   ·have i:Cj ls (a,b,c,m)=false:=R.o.trans hLA
    have v:Hid _:=Hs i;have a4:Hid _:=i;rw [hLA] at j;clear i hLA;go_wp2_with fail
    refine j.o.mono ?_;rintro e w6 ⟨rfl,N⟩;have P6:=c9.o.below N;have q6:=next qV N;have d3:Hid (Ai w6 d ls):=d4.o.below N;have Y:=P6.l0;have c8:Hid _:=P6;clear j N P6 v0;go_wp2_with fail
    refine (Hh d cap ls w6 d3.o (by omega)).mono ?_
    rintro e w7 ⟨g7,c7,rfl,o7,b7⟩;have P7:=c8.o.below b7;have r0:=P7.r0;have rf:=P7.rf;have HE:Hid _:=Gd (w:=w) (ok:=false) v.o o7 c8.o.sz (next q6 b7);clear o7 b7 P7 Y;go_wp2
    refine bodyPost_ret (by simp [results,results220,go_sem,r0];try rfl) rfl ?_
    rw [a4.o];exact HE.o
   ·have M:Cj ls (a,b,c,m)=true:=R.o.trans hLA
    have v:Hid (Gg ls (a,b,c,m)=A):=(N9 M).trans a5.o;have a4:Hid _:=M;rw [hLA] at j;clear M hLA;go_wp2_with fail
    refine j.o.mono ?_;rintro e w6 ⟨rfl,N⟩;have P6:=c9.o.below N;have q6:=next qV N;have v6:=(N.cell (p:=⟨u.heap.size,0,none⟩) (World.block_lt_of_cell? V _ v0)).trans v0;have r0:=P6.r0;have rf:=P6.rf;have HE:Hid _:=Gd (w:=w) (ok:=true) v.o (Av b9.o N) d7 q6;clear j N P6 v0;go_wp2
    refine bodyPost_ret (by simp [results,results220,go_sem,r0];try rfl) rfl ?_
    rw [a4.o];exact HE.o
def Hv (ls:List Ln) (es:List En):List Ln:=(Ch ls es).getD ls
def allOk (ls:List Ln) (es:List En):Bool:=(Ch ls es).isSome
theorem Rb (a:List Ln) (es:List En) (k:Nat) (h:k<es.length):Ch a (es.drop k)=if Cj a (I4 es k)=true then Ch (G5 a (I4 es k)) (es.drop (k+1)) else none:=by
 rw [List.drop_eq_getElem_cons h,<- bI h];rfl
theorem Te (a:List Ln) (es:List En):Ch a (es.drop es.length)=some a:=by
 rw [List.drop_of_length_le nL];rfl
theorem Cq {x:Int} (h:-1000000000000<=x/\x<=1000000000000):Bf x:=WalkArith.wf_i64 (by omega)
theorem Vm {ls:List Ln} (h:At ls=true):∀ x ∈ ls,Hw x:=by
 intro x D;obtain ⟨j,q,C,_⟩:=Ig (Dv (Dq h).1 x D)
 refine ⟨Cq (by omega),Cq ?_,Cq C⟩
 have:=U2 q
 simp [Gi] at this
 omega
theorem N1 {ls:List Ln} {e:En} (h:Cj ls e=true):Gg ls e=G5 ls e/\At (G5 ls e)=true:=by
 refine ⟨N9 h,?_⟩
 simp only [Cj,Bool.and_eq_true] at h
 exact h.2
structure PA (s B:Nat) (c:Option Addr) (cap n:Nat) (a:List Ln) (a2:Option Addr) (i:Nat) (u:World):Prop where
 l0:u.cell? (qzA s 0)=some (.slice c n cap)
 r0:u.cell? ⟨s+1,0,none⟩=some (.slice none 0 0)
 rf:u.frozen? ⟨s+1,0,none⟩=false
 c6:u.cell? (qzA B 0)=some (.slice a2 a.length i)
 f6:u.frozen? (qzA B 0)=false
 own:u.ownsRow (s+2) 113 3 (.slice a2 a.length i) a.length (Ag a)
 ne:∀ g,(Value.slice a2 a.length i).ownBlock=some g->g≠B
 hB:s+2<=B
theorem PA.below {s B:Nat} {c:Option Addr} {cap n:Nat} {a:List Ln} {a2:Option Addr} {i:Nat} {u A:World} (h:PA s B c cap n a a2 i u) (b:BW u A):PA s B c cap n a a2 i A:=by
 have y:s<u.heap.size:=World.block_lt_of_cell? u _ h.l0;have j:s+1<u.heap.size:=World.block_lt_of_cell? u _ h.r0;have q:B<u.heap.size:=World.block_lt_of_cell? u _ h.c6;exact ⟨(b.cell (p:=(qzA s 0)) y).trans h.l0,(b.cell (p:=⟨s+1,0,none⟩) j).trans h.r0,(b.frozen (p:=⟨s+1,0,none⟩) j).trans h.rf,(b.cell (p:=(qzA B 0)) q).trans h.c6,(b.frozen (p:=(qzA B 0)) q).trans h.f6,Av h.own b,h.ne,h.hB⟩
theorem PA.put {s B base:Nat} {c:Option Addr} {cap n:Nat} {a d:List Ln} {a2 m:Option Addr} {i v:Nat} {u:World} (h:PA s B c cap n a a2 i u) (o:u.ownsRow base 113 3 (.slice m d.length v) d.length (Ag d)) (hb:B<base) :
  PA s B c cap n d m v (u.setCell (qzA B 0) (.slice m d.length v)):=by
 have hs:=h.hB
 have l:∀ g,(Value.slice m d.length v).ownBlock=some g->g≠B:=fun g hg=>by have:=(o.lt g hg).1;omega
 refine ⟨?_,?_,?_,by simp [go_sem,h.c6],?_,Bi (A5 o _ _ l) (by omega),l,hs⟩
 ·rw [World.cell?_setCell_far _ _ _ _ (by simp;omega)];exact h.l0
 ·rw [World.cell?_setCell_far _ _ _ _ (by simp;omega)];exact h.r0
 ·simp [go_sem,h.rf]
 ·simp [go_sem,h.f6]
theorem Vv {w f:World} {c a1:Option Addr} {cap r n:Nat} {ls:List Ln} {t:TypeId} (l0:f.cell? ⟨w.heap.size,0,none⟩=some (.slice c n cap)) (r0:f.cell? ⟨w.heap.size+1,0,none⟩=some (.slice none 0 0)) (rf:f.frozen? ⟨w.heap.size+1,0,none⟩=false)
  (o:f.ownsRow (w.heap.size+2) 113 3 (.slice a1 ls.length r) ls.length (Ag ls)):PA w.heap.size f.heap.size c cap n ls a1 r (f.alloc (.cells #[.slice a1 ls.length r] t)):=by
 have b:Below f.heap.size f (f.alloc (.cells #[.slice a1 ls.length r] t)):=by go_grown
 have y:w.heap.size<f.heap.size:=World.block_lt_of_cell? f _ l0;have j:w.heap.size+1<f.heap.size:=World.block_lt_of_cell? f _ r0
 exact ⟨(b.cell (p:=⟨w.heap.size,0,none⟩) y).trans l0,(b.cell (p:=⟨w.heap.size+1,0,none⟩) j).trans r0,(b.frozen (p:=⟨w.heap.size+1,0,none⟩) j).trans rf,by simp,by simp [go_sem],Av o b,fun g hg=>by have:=(o.lt g hg).2;omega,by omega⟩
theorem Pq {w u:World} {z a:List Ln} {ok:Bool} {c:Option Addr} {cap base:Nat} (hg:z=a) (ho:u.ownsRow base 113 3 (.slice c a.length cap) a.length (Ag a)) (hb:w.heap.size+1<base) (bel:BW w u) :
  Jl w z ok (.returned (.tuple #[.agg #[.slice c a.length cap],.bool ok])) (u.setCell ⟨w.heap.size+1,0,none⟩ (.slice c a.length cap)):=by
 subst hg
 exact ⟨c,cap,rfl,Bi (A5 ho _ _ (fun g hg=>by have:=(ho.lt g hg).1;simp only;omega)) (by omega),bel.setCell (by show w.heap.size<=w.heap.size+1;omega) _⟩
structure ZB (W u:World) (c:Option Nat) (K:World->Prop):Prop where
 bel:BW W u
 box:∀ B,c=some B->W.heap.size<=B/\B<u.heap.size/\u.cell? (qzA B 0)=some (.slice none 0 0)/\u.frozen? (qzA B 0)=false
 kept:∀ v,BW u v->K v
theorem ZB.start {W:World} {K:World->Prop} (h:∀ v,BW W v->K v):ZB W W none K:=⟨bR,(fun B h=>by cases h),h⟩
theorem ZB.call {W u i:World} {c:Option Nat} {K:World->Prop} (z:ZB W u c K) (b:BW u i):ZB W i c K :=
 ⟨next z.bel b,fun B h=>by
  obtain ⟨k,l,m,n⟩:=z.box B h
  exact ⟨k,Nat.lt_of_lt_of_le l b.size,(b.cell (p:=(qzA B 0)) l).trans m,(b.frozen (p:=(qzA B 0)) l).trans n⟩,fun v hv=>z.kept v (b.trans (hv.mono b.size))⟩
theorem ZB.drew {W u:World} {c:Option Nat} {K:World->Prop} (z:ZB W u c K):ZB W u.drew c K:=z.call (bR.drew)
theorem ZB.al {W u:World} {K:World->Prop} (z:ZB W u none K) (t:TypeId):ZB W (u.alloc (.cells #[.slice none 0 0] t)) (some u.heap.size) K:=by
 have b:Below u.heap.size u (u.alloc (.cells #[.slice none 0 0] t)):=by go_grown
 refine ⟨next z.bel b,fun B h=>?_,fun v hv=>z.kept v (b.trans (hv.mono b.size))⟩
 injection h with h
 subst h
 exact ⟨z.bel.size,by simp,by simp,by simp [go_sem]⟩
structure LB (W:World) (L:List Ln) (B:Nat) (a:Option Addr) (cap:Nat) (u:World):Prop where
 c0:u.cell? (qzA B 0)=some (.slice a L.length cap)
 own:u.ownsRow W.heap.size 113 3 (.slice a L.length cap) L.length (Ag L)
 ge:W.heap.size<=B
 ne:∀ g,(Value.slice a L.length cap).ownBlock=some g->g≠B
 bel:BW W u
theorem LB.new {W u j:World} {L:List Ln} {a:Option Addr} {cap:Nat} {c:Option Nat} {K:World->Prop} {t:TypeId} (o:u.ownsRow j.heap.size 113 3 (.slice a L.length cap) L.length (Ag L)) (z0:ZB W j c K) (z:ZB W u none K) :
  LB W L u.heap.size a cap (u.alloc (.cells #[.slice a L.length cap] t)):=by
 have b:Below u.heap.size u (u.alloc (.cells #[.slice a L.length cap] t)):=by go_grown
 exact ⟨by simp,Bi (Av o b) z0.bel.size,z.bel.size,fun g hg=>by have:=(o.lt g hg).2;omega,next z.bel b⟩
theorem LB.set {W u j:World} {L:List Ln} {B:Nat} {a:Option Addr} {cap:Nat} {K:World->Prop} (o:u.ownsRow j.heap.size 113 3 (.slice a L.length cap) L.length (Ag L)) (z0:ZB W j (some B) K) (z:ZB W u (some B) K) :
  LB W L B a cap (u.setCell (qzA B 0) (.slice a L.length cap)):=by
 obtain ⟨k,l,_,_⟩:=z0.box B rfl;obtain ⟨_,_,m,_⟩:=z.box B rfl
 have d:∀ g,(Value.slice a L.length cap).ownBlock=some g->g≠B:=fun g hg=>by have:=(o.lt g hg).1;omega
 exact ⟨by simp [go_sem,m],Bi (A5 o _ _ d) z0.bel.size,k,d,z.bel.setCell k _⟩
def sY (W u:World) (c:Option Nat) (K:World->Prop) (L:List Ln) (ok:Bool) (e:Ending) (i:World):Prop :=
 ∃ a cap,e=.returned (.tuple #[.agg #[.slice a L.length cap],.bool ok])/\i.ownsRow u.heap.size 113 3 (.slice a L.length cap) L.length (Ag L)/\ZB W u c K/\ZB W i c K
theorem Xh {W u:World} {c:Option Nat} {K:World->Prop} {f:FuncId} {args:Array Value} {L:List Ln} {ok:Bool} (z:ZB W u c K) (h:Calls prog f args u (Jl u L ok)):Calls prog f args u (sY W u c K L ok) :=
 h.mono fun _ _ ⟨a,cap,he,ho,hb⟩=>⟨a,cap,he,ho,z,z.call hb⟩
theorem ZB.now {W u:World} {c:Option Nat} {K:World->Prop} (z:ZB W u c K):K u:=z.kept u bR
theorem U3 (q:Option Addr) (cap:Nat) (ls:List Ln) (eo:Option Addr) (ec:Nat) (es:List En) (w:World) (hz:Ai w q ls) (hn:ls.length<=1048576) (hy:C8 w eo es) (hm:es.length<=1048576) :
  Calls prog 182 #[.agg #[.slice q ls.length cap],.slice eo es.length ec] w (Jl w (Hv ls es) (allOk ls es)):=by
 obtain ⟨W,M⟩:∃ W,W=(w.alloc (.cells #[.slice q ls.length cap] 29)).alloc (.cells #[.slice none 0 0] 29):=⟨_,rfl⟩
 have bW:BW w W:=by rw [M];go_grown
 have a9:W.heap.size=w.heap.size+2:=by rw [M];simp
 have l0:W.cell? ⟨w.heap.size,0,none⟩=some (.slice q ls.length cap):=by rw [M];simp [go_sem]
 have r0:W.cell? ⟨w.heap.size+1,0,none⟩=some (.slice none 0 0):=by rw [M];simp [go_sem]
 have rf:W.frozen? ⟨w.heap.size+1,0,none⟩=false:=by rw [M];simp [go_sem]
 have b4:Hid _:=l0;have b6:Hid _:=r0;have b7:Hid _:=rf;have HZ:Hid (Ai w q ls):=hz;have HY:Hid (C8 w eo es):=hy;have U:Hid (BW w W):=bW;have b8:Hid _:=a9;clear hz hy r0 rf bW a9
 go_enter func182,ntmps182
 go_upto_region 1 with fail
 rw [<- M];clear M;go_wp2_with fail
 refine (Hh q cap ls W (HZ.o.below U.o) (by omega)).mono ?_
 rintro e w1 ⟨a1,k1,rfl,o1,b1⟩;have d3:=b8.o
 have P1:PA w.heap.size w1.heap.size q cap ls.length ls a1 k1 (w1.alloc (.cells #[.slice a1 ls.length k1] 29)):=Vv ((b1.cell (p:=⟨w.heap.size,0,none⟩) (by show w.heap.size<W.heap.size;omega)).trans b4.o) ((b1.cell (p:=⟨w.heap.size+1,0,none⟩) (by show w.heap.size+1<W.heap.size;omega)).trans b6.o) ((b1.frozen (p:=⟨w.heap.size+1,0,none⟩) (by show w.heap.size+1<W.heap.size;omega)).trans b7.o) (Bi o1 (by omega))
 have q1:=next U.o b1;obtain ⟨V,hV⟩:∃ V,V=w1.alloc (.cells #[.slice a1 ls.length k1] 29):=⟨_,rfl⟩
 have qV:BW w V:=by rw [hV];exact q1.alloc q1.size _
 have I:Hid (PA w.heap.size w1.heap.size q cap ls.length ls a1 k1 V):=by rw [Hid,hV];exact P1
 obtain ⟨B,L⟩:∃ B,B=w1.heap.size:=⟨_,rfl⟩;clear P1 q1 o1 b1 l0 d3;go_upto_region 2 with fail
 rw [<- hV,<- L];rw [<- L] at I;clear hV L;go_wp2
 go_loopw [7] (fun i wr=>∃ (k:Nat) (d:List Ln) (a2:Option Addr) (A:Nat),k<=es.length/\i=qzI k/\Ch ls es=Ch d (es.drop k)/\PA w.heap.size B q cap ls.length d a2 A wr/\d.length<=1048576/\BW w wr) (fun i _=>es.length - (intOf i).toNat)
 case atStart=>exact ⟨0,ls,a1,k1,Nat.zero_le _,rfl,rfl,I.o,hn,qV⟩
 case round =>
  obtain ⟨k,d,a2,A,hk,rfl,b2,b0,d0,F⟩:=hrel;have f:Hid (PA w.heap.size B q cap ls.length d a2 A wr):=b0;have H:Hid (Ch ls es=Ch d (es.drop k)):=b2;clear b0 b2 I qV
  by_cases hlt:k<es.length
  ·have d2:(k:Int)<(es.length:Int):=by omega
   obtain ⟨b,off,rfl,D,y1,y2,y3,y4⟩:=(HY.o.below F).at hlt;have O:=Rb d es k hlt;obtain ⟨⟨a,G,c,m⟩,hx⟩:∃ x,I4 es k=x:=⟨_,rfl⟩;rw [hx] at y1 y2 y3 y4 O
   simp only at y1 y2 y3 y4
   have r:Hid _:=H.o.trans O;have c6:=f.o.c6
   have j:Hid (∀ u,BW wr u->u.cell? (qzA B 0)=some (.slice a2 d.length A)/\u.cell? (qzA b (off+k*4))=some (qzI a)/\u.cell? (qzA b (off+k*4+1))=some (qzI G)/\u.cell? (qzA b (off+k*4+2))=some (qzI c)/\u.cell? (qzA b (off+k*4+3))=some (qzI m)):=fun u R =>
    ⟨(f.o.below R).c6,(R.cell (p:=(qzA b (off+k*4))) D).trans y1,(R.cell (p:=(qzA b (off+k*4+1))) D).trans y2,(R.cell (p:=(qzA b (off+k*4+2))) D).trans y3,(R.cell (p:=(qzA b (off+k*4+3))) D).trans y4⟩
   have l:Hid (∀ u,Ai u a2 d->Calls prog 220 #[.agg #[.slice a2 d.length A],.agg #[qzI a,qzI G,qzI c,qzI m]] u (Jl u (Gg d (a,G,c,m)) (Cj d (a,G,c,m)))):=fun u h=>eE a2 A d a G c m u h d0
   clear O hx;go_upto_region 5 with fail
   have z:ZB wr wr none (fun v=>Ai v a2 d):=ZB.start (fun v hv=>(Df f.o.own).below hv)
   obtain ⟨y,N⟩:∃ y,Gg d (a,G,c,m)=y:=⟨_,rfl⟩;obtain ⟨ok,g⟩:∃ ok,Cj d (a,G,c,m)=ok:=⟨_,rfl⟩;rw [N,g] at l;have Z:Hid _:=N;have a4:Hid _:=g;clear N g
   go_cut [8,9] (fun v8 v9 wc=>∃ B8 a8 k8,v8=.pointer (some (qzA B8 0))/\v9=.bool ok/\LB wr y B8 a8 k8 wc)
   case first =>
    go_region_held3 (fun u=>u.cell? (qzA B 0)=some (.slice a2 d.length A)/\u.cell? (qzA b (off+k*4))=some (qzI a)/\u.cell? (qzA b (off+k*4+1))=some (qzI G)/\u.cell? (qzA b (off+k*4+2))=some (qzI c)/\u.cell? (qzA b (off+k*4+3))=some (qzI m)) (first | exact ⟨c6,y1,y2,y3,y4⟩ | exact j.o _ z.bel | exact j.o _ z.drew.bel | exact j.o _ (z.al _).bel | exact j.o _ (z.al _).drew.bel | exact j.o _ (z.drew.al _).bel | exact j.o _ (X.o _).bel | exact j.o _ X.o.bel) ((
     (go_at_call 220;(first | with_reducible refine (Xh z (l.o _ z.now)).mono ?_ | with_reducible refine (Xh z.drew (l.o _ z.drew.now)).mono ?_ | with_reducible refine (Xh (z.al _) (l.o _ (z.al _).now)).mono ?_ | with_reducible refine (Xh (z.al _).drew (l.o _ (z.al _).drew.now)).mono ?_ | with_reducible refine (Xh (z.drew.al _) (l.o _ (z.drew.al _).now)).mono ?_);rintro e v3 ⟨J,S,rfl,o3,z0,z⟩;(first | (have X:Hid (∀ t,LB wr y v3.heap.size J S (v3.alloc (.cells #[.slice J y.length S] t))):=(fun t=>LB.new o3 z0 z)) | (have X:Hid _:=LB.set o3 z0 z;obtain ⟨_,_,n0,n1⟩:=z.box _ rfl));clear o3 z0)))
    all_goals
     go_wp2_with fail
     go_meet
     first
      | exact ⟨_,_,_,rfl,rfl,X.o _⟩
      | exact ⟨_,_,_,rfl,rfl,X.o⟩
   obtain ⟨B8,J,S,rfl,rfl,P8⟩:=hcut;obtain ⟨T,R⟩:∃ x,x=wc:=⟨_,rfl⟩;subst R;have P3:=f.o.below P8.bel;have d6:=P3.c6;have f6:=P3.f6;have c8:=P8.c0;have q3:=next F P8.bel;have a7:B<wr.heap.size:=World.block_lt_of_cell? wr _ f.o.c6;have a6:Hid (PA w.heap.size B q cap ls.length y J S (T.setCell (qzA B 0) (.slice J y.length S))):=P3.put P8.own a7;have c9:=f.o.hB
   have q4:Below w.heap.size w (T.setCell (qzA B 0) (.slice J y.length S)):=q3.setCell (by show w.heap.size<=B;omega) _
   have C:Hid (PA w.heap.size B q cap ls.length d a2 A T):=P3;clear P3 P8 a7 c9 z c6 y1 y2 y3 y4 j l F;have g:=a4.o
   cases ok
   ·rw [g] at r
    have Y:Hid (Ch ls es=none):=r.o;clear r g;have l4:=C.o.l0;have b9:Hid (Ai T q ls):=HZ.o.below q3;clear d6 f6 q4 a6 c8;go_wp2_with fail
    refine (Hh q cap ls T b9.o (by omega)).mono ?_
    rintro e w5 ⟨a5,k5,rfl,o5,b5⟩;have P5:=C.o.below b5;have r5:=P5.r0;have d4:=P5.rf
    have HE:Hid (Jl w (Hv ls es) (allOk ls es) (.returned (.tuple #[.agg #[.slice a5 ls.length k5],.bool false])) (w5.setCell ⟨w.heap.size+1,0,none⟩ (.slice a5 ls.length k5))):=by
     have h1:allOk ls es=false:=by unfold allOk;rw [Y.o];rfl
     have h2:Hv ls es=ls:=by unfold Hv;rw [Y.o];rfl
     rw [Hid,h1];exact Pq (w:=w) h2 o5 (World.block_lt_of_cell? T _ C.o.r0) (next q3 b5)
    clear o5 b5 P5 l4;go_wp2
    refine bodyPost_ret (by simp [results,results182,go_sem,r5];try rfl) rfl ?_
    exact HE.o
   ·have s:=N1 g
    rw [g] at r;rw [Z.o] at s
    have HN:Hid (Ch ls es=Ch y (es.drop (k+1))):=by rw [Hid,r.o,s.1];rfl
    have b3:Hid (y.length<=1048576):=by
     rw [s.1,Hid]
     have:=(Dq s.2).2.1;omega
    clear r g s Z a4 C q3;go_wp2
    go_roundw
    case rel=>exact ⟨k+1,y,J,S,by omega,by go_num,HN.o,a6.o,b3.o,q4⟩
    case measure=>simp [intOf];omega
  ·have d1:k=es.length:=by omega
   subst d1
   have d2:¬ (es.length:Int)<(es.length:Int):=by omega
   have n:Ch ls es=some d:=by rw [H.o,Te]
   have c6:=f.o.c6;have r0:=f.o.r0;have rf:=f.o.rf
   have HE:Hid (Jl w (Hv ls es) (allOk ls es) (.returned (.tuple #[.agg #[.slice a2 d.length A],.bool true])) (wr.setCell ⟨w.heap.size+1,0,none⟩ (.slice a2 d.length A))):=by
    have h1:allOk ls es=true:=by unfold allOk;rw [n];rfl
    have h2:Hv ls es=d:=by unfold Hv;rw [n];rfl
    rw [Hid,h1]
    exact Pq (w:=w) h2 f.o.own (by omega) F
   clear n H;go_wp2
   refine bodyPost_ret (by simp [results,results182,go_sem,r0];try rfl) rfl ?_
   exact HE.o
theorem Ua (w:World) (base:Nat) (ty:TypeId) (v:Value) (n:Nat) (i:List Value) (l:w.ownsRow base 294 2 v n i) (r c:Nat) (x:Cd) (Y:w.cell? (qzA r 0)=some (qzI x.1)) (d:w.cell? (qzA r 1)=some (qzI x.2))
  (O:n+1<=5000000) (hbase:base<=w.heap.size) :
  ∃ z w',(Builtin.append_ #[291,291] ty #[v,.slice (some (qzA r 0)) 1 c]).run prog w=.ok z w'/\w'.ownsRow base 294 2 z (n+1) (i++Nj x)/\w.grownBy w' v.ownBlock:=by
 obtain ⟨i0,hi,R,F,S⟩:=info_parts iP
 have D:∀ j u,(Nj x)[j]?=some u->w.cell? (((qzA r 0):Addr).add j)=some u:=by
  intro j u C
  have f:j<2:=by have:=(List.getElem?_eq_some_iff.1 C).1;simpa [Nj] using this
  rcases (show j=0\/j=1 by omega) with rfl | rfl
  ·simp [Nj] at C;subst C;simpa [Addr.add] using Y
  ·simp [Nj] at C;subst C;simpa [Addr.add] using d
 obtain ⟨z,w',d,A,h3,_⟩:=run_append_own_at (P:=prog) w base 291 ty 294 i0 _ 2 16 underlying291 hi R F S rfl (by decide) v n i l (qzA r 0) 1 c (Nj x) rfl D (Yu [x]) (by unfold maxLen;omega) (by omega) hbase
 exact ⟨z,w',d,A,h3⟩
theorem Rs {T:Array Oper} {o:Oper} {a:Act} {w:World} {K:Act->World->Prop} {Q:Exit->Act->World->Prop} {E:Prop} (a7:o.guard=none) (s x:Operand)
  (ho:o.op=.call { callee:=.builtin .append,args:=#[s,x],argTypes:=#[291,291] }) (base:Nat) (v:Value) (n:Nat) (i:List Value) (hs:a.eval s=v) (l:w.ownsRow base 294 2 v n i)
  (r c:Nat) (y:Cd) (hx:a.eval x=.slice (some (qzA r 0)) 1 c) (Y:w.cell? (qzA r 0)=some (qzI y.1)) (d:w.cell? (qzA r 1)=some (qzI y.2)) (O:n+1<=5000000) (hbase:base<=w.heap.size)
  (h:∀ z w',w'.ownsRow base 294 2 z (n+1) (i++Nj y)->w.grownBy w' v.ownBlock->K (a.put o.dst z) w') :
  if Region.wanted o (yielded T a.tmps)=true then Oper.wp prog o a w K Q else E:=by
 have hw:Region.wanted o (yielded T a.tmps)=true:=by simp [Region.wanted,a7]
 rw [if_pos hw];obtain ⟨z,w',hr,d,A⟩:=Ua w base o.type v n i l r c y Y d O hbase;unfold Oper.wp execOp
 simp only [ho,resolve,invoke,builtin,Sem.run_bind,Sem.run_pure,Result.andThen_ok,List.map_toArray,List.map_cons,List.map_nil,hs,hx,hr]
 exact h z w' d A
theorem qJ {w:World} {base n:Nat} {v:Value} {i:List Value} (h:w.ownsRow base 294 2 v (n+1) i):∃ g cap,v=.slice (some (qzA g 0)) (n+1) cap:=by
 rcases h.2 with ⟨_,Y⟩ | ⟨g,c,cQ,rfl,_⟩
 ·omega
 ·exact ⟨g,c,rfl⟩
theorem iH {w:World} {base n size:Nat} {t:TypeId} {v:Value} {i:List Value} (h:w.ownsRow base t size v n i) (p:Addr) (u:Value) (hp:∀ g,v.ownBlock=some g->g≠p.block):(w.setCell p u).ownsRow base t size v n i:=by
 obtain ⟨d,A⟩:=h;refine ⟨d,?_⟩
 rcases A with h | ⟨g,cap,cQ,G,hg,hh,a1,a2,a3,a4⟩
 ·exact .inl h
 ·exact .inr ⟨g,cap,cQ,G,hg,(Below.heap_setCell w p u g (hp g (by rw [G];rfl))).trans hh,a1,a2,a3,a4⟩
theorem taC (s p:Int) (W:World):(Instr.typeAssert (.iface 294 (.agg #[qzI s,qzI p])) 20 294 false).run prog W=.ok (.agg #[qzI s,qzI p]) W:=by kernel_rfl
theorem tH (s p:Int) (W:World):(Instr.typeAssert (.iface 294 (.agg #[qzI s,qzI p])) 20 294 true).run prog W=.ok (.tuple #[.agg #[qzI s,qzI p],.bool true]) W:=by kernel_rfl
theorem eV {w u:World} {H:List Cd} {L:Option Addr} {cap:Nat} (h:HP none w H L cap u) (s p:Int) (O:H.length<=1000) :
  Calls prog 403 #[.pointer (some ⟨w.heap.size,0,none⟩),.iface 294 (.agg #[qzI s,qzI p])] u fun e u'=>e=.returned (.tuple #[])/\∃ g c,HP none w (H++[(s,p)]) (some (qzA g 0)) c u':=by
 have J:Hid (HP none w H L cap u):=h;have I:=h.box;have f0:=h.fz;have f:=h.lt;have ta:=taC s p;clear h
 go_enter func403,ntmps403
 have Z:∀ o,(u.alloc o).cell? ⟨w.heap.size,0,none⟩=some (.slice L H.length cap):=fun o=>by rw [World.cell?_alloc_lt _ _ _ f];exact I
 go_region_law ((refine Rs rfl (.tmp 7) (.tmp 10) rfl (w.heap.size+1) (.slice L H.length cap) H.length (Fj H) (by rfl) (pT J.o.own (by go_grown)) u.heap.size 1 (s,p) (by rfl) (by simp [go_sem]) (by simp [go_sem]) (by omega) (by simp;omega) ?_;intro v5 U o5 X;obtain ⟨h5,k5,rfl⟩:=qJ o5;have c5:U.cell? ⟨w.heap.size,0,none⟩=some (.slice L H.length cap):=(X.cell_far ⟨w.heap.size,0,none⟩ (by simp;omega) J.o.apart).trans (by simp [go_sem,World.cell?_alloc_some,I]);have z5:U.frozen? ⟨w.heap.size,0,none⟩=false:=(X.frozen_far ⟨w.heap.size,0,none⟩ (by simp;omega) J.o.apart).trans (by have:=((Below.refl u.heap.size u).alloc nL (.cells #[qzI s,qzI p] 294)).frozen (p:=⟨w.heap.size,0,none⟩) f;simpa [f0] using this)))
 all_goals
  have HO:Hid (U.ownsRow (w.heap.size+1) 294 2 (.slice (some (qzA h5 0)) (H++[(s,p)]).length k5) (H++[(s,p)]).length (Fj (H++[(s,p)]))):=by rw [Hid,List.length_append,Sa];exact o5
  have V:Hid (BW w U):=Below.grown (HP.below J.o (by go_grown)).bel X (by simp;omega) (fun j C=>by have:=(J.o.own.lt j C).1;omega)
  have b2:=(o5.lt h5 rfl).1;clear o5 X;go_wp2;go_end0
  refine ⟨rfl,h5,k5,V.o.setCell nL _,?_,by simp [z5],?_,fun _ _ e=>by cases e⟩
  ·rw [List.length_append];exact World.cell?_setCell_same U ⟨w.heap.size,0,none⟩ _ c5
  ·exact iH HO.o ⟨w.heap.size,0,none⟩ _ (fun x hx=>by have e:h5=x:=Option.some.inj hx;show x≠w.heap.size;omega)
theorem qX:prog.underlying 291=some (.slice (prog.elem 291)):=by
 have e:prog.elem 291=294:=by simp [Program.elem,underlying291]
 rw [e];exact underlying291
theorem sJ:prog.elem 291=294:=by simp [Program.elem,underlying291]
theorem rX (w:World):(sizeOf 294).run prog w=.ok 2 w:=by
 obtain ⟨i0,hi,R,F,S⟩:=info_parts iP
 simp [sizeOf,typeInfo,hi,F]
theorem qE {g n c s:Nat} (hs:s<=c) (W:World):(Instr.slice 291 (.slice (some (qzA g 0)) n c) none (some (qzI s)) none).run prog W=.ok (.slice (some (qzA g 0)) s c) W:=by
 rw [run_slice_h W _ _ _ _ qX .i64 _ (by omega) (by omega),sJ,rX]
 simp [Result.andThen,sliced,Addr.add]
theorem HP.cap {q:Option (Nat×Obj)} {w u:World} {H:List Cd} {g cap:Nat} (h:HP q w H (some (qzA g 0)) cap u):H.length<=cap:=by
 rcases h.own.2 with ⟨G,_⟩ | ⟨g',c,cQ,G,_,_,hc,_⟩
 ·cases G
 ·obtain ⟨rfl,rfl⟩:g=g'/\cap=c:=by simpa using G
  exact hc
theorem kA {q:Option (Nat×Obj)} {w u:World} {H:List Cd} {g cap:Nat} (h:HP q w H (some (qzA g 0)) cap u) (m:Nat) (hm:H.length=m+1) (O:H.length<=1000) :
  Calls prog 402 #[.pointer (some ⟨w.heap.size,0,none⟩)] u fun e u'=>e=.returned (.iface 294 (.agg #[qzI (Bc H m).1,qzI (Bc H m).2]))/\BW w u'/\∀ x o,q=some (x,o)->u'.heap[x]?=some o:=by
 have HK:Hid (∀ x o,q=some (x,o)->u.heap[x]?=some o/\w.heap.size<x):=fun x o e=>⟨(h.kp x o e).1,(h.kp x o e).2.1⟩
 have V:Hid (BW w u):=h.bel;have I:=h.box;have f0:=h.fz;have f:=h.lt
 obtain ⟨Z,k2⟩:=h.at (k:=m) (by omega)
 have N:=h.cap
 have a8:=h.row (by omega)
 obtain ⟨g',e,b0,b1⟩:=a8
 obtain rfl:g=g':=by simpa using e
 obtain ⟨⟨a,b⟩,M⟩:∃ x,Bc H m=x:=⟨_,rfl⟩;rw [M] at Z k2 ⊢
 simp only at Z k2 ⊢
 rw [hm] at I N O
 have b4:=qE (g:=g) (n:=m+1) (c:=cap) (s:=m) (by omega)
 clear M h e
 go_enter func402,ntmps402
 go_upto_region 3 with fail
 obtain ⟨W,B⟩:∃ W,u.alloc (.cells #[qzI a,qzI b] 294)=W:=⟨_,rfl⟩
 have j0:W.cell? ⟨u.heap.size,0,none⟩=some (qzI a):=by rw [<- B];simp
 have j1:W.cell? ⟨u.heap.size,1,none⟩=some (qzI b):=by rw [<- B];simp
 have j2:W.cell? ⟨w.heap.size,0,none⟩=some (.slice (some (qzA g 0)) (m+1) cap):=by rw [<- B,World.cell?_alloc_lt _ _ _ f];exact I
 have j3:W.frozen? ⟨w.heap.size,0,none⟩=false:=by rw [<- B];have:=((Below.refl u.heap.size u).alloc nL (.cells #[qzI a,qzI b] 294)).frozen (p:=⟨w.heap.size,0,none⟩) f;rw [this];exact f0
 have a6:Hid (∀ x o,q=some (x,o)->W.heap[x]?=some o/\w.heap.size<x):=fun x o e=>by
  obtain ⟨d,A⟩:=HK.o x o e;refine ⟨?_,A⟩;rw [<- B];exact (((Below.refl u.heap.size u).alloc nL _).block x (Array.getElem?_eq_some_iff.1 d).1).trans d
 have a5:Hid (BW w W):=by rw [Hid,<- B];exact V.o.alloc V.o.size _
 rw [B]
 have b3:¬ w.heap.size=u.heap.size:=by omega
 have a9:¬ u.heap.size=w.heap.size:=by omega
 clear B I f0 Z k2;go_wp2;go_ret
 refine ⟨rfl,a5.o.setCell nL _,fun x o e=>?_⟩
 obtain ⟨d,A⟩:=a6.o x o e
 rw [Below.heap_setCell _ _ _ _ (fun e=>by have e:x=w.heap.size:=e;omega)]
 exact d
def iC (w:World):Value:=.iface 322 (.pointer (some ⟨w.heap.size,0,none⟩))
theorem Mv (X:Option Addr) (n cap:Nat) (u:World):Calls prog 282 #[.slice X n cap] u fun e u'=>e=.returned (qzI n)/\u'=u:=by
 go_enter func282,ntmps282
 go_wp2;go_ret;exact ⟨rfl,rfl⟩
theorem fU {H:List Cd} {j:Nat} (h:Qr H j) (T:0<j) (L:j<H.length) (hl:Li (Bc H j) (Bc H (par j))=true):Qr (Cu H (par j) j) (par j):=by
 unfold Qr;have z:=J0 T
 rw [gP (show par j<H.length by omega) L,Hc]
 exact dR h T L hl
theorem qI {w u:World} {H:List Cd} {g cap:Nat} (h:HP none w H (some (qzA g 0)) cap u) (j:Nat) (L:j<H.length) (hn:H.length<=1000) (c:Qr H j) :
  Calls prog 310 #[iC w,qzI j] u fun e u'=>e=.returned (.tuple #[])/\∃ G,HP none w G (some (qzA g 0)) cap u'/\F1 G/\Fv H G:=by
 have R:Hid (HP none w H (some (qzA g 0)) cap u):=h;have S:Hid (Qr H j):=c;clear h c;unfold iC
 go_enter func310,ntmps310
 go_wp2
 go_loopw [1,4] (fun v _ wr=>∃ (k:Nat) (G:List Cd),k<=j/\v=qzI k/\HP none w G (some (qzA g 0)) cap wr/\Qr G k/\Fv H G) (fun v _ _=>(intOf v).toNat)
 case atStart=>exact ⟨j,H,nL,rfl,R.o,S.o,Fv.refl H⟩
 case round =>
  obtain ⟨k,G,hk,rfl,z,s,hs⟩:=hrel;have A:Hid (G.length=H.length):=hs.1
  have b:k<G.length:=by have:=A.o;omega
  have a:Hid (HP none w G (some (qzA g 0)) cap wr):=z;have f:Hid (Qr G k):=s;have F:Hid (Fv H G):=hs;have d:=z.box;have M:=Fk d;have N:=Iv d;clear R S z s hs
  by_cases hk0:k=0
  ·subst hk0
   have W:(-1:Int).tdiv 2=0:=by decide
   go_wp2;go_end0;exact ⟨rfl,G,a.o,Tt f.o (.inl rfl),F.o⟩
  ·have W:((k:Int) - 1).tdiv 2=((par k:Nat):Int):=by
     unfold par
     rw [Int.tdiv_eq_ediv_of_nonneg (by omega)]
     omega
   have y:=J0 (show 0<k by omega)
   obtain ⟨p,x⟩:∃ p,par k=p:=⟨_,rfl⟩
   have q:Hid (Li (Bc G k) (Bc G (par k))=true->Qr (Cu G (par k) k) (par k)):=fun hl=>fU f.o (by omega) b hl
   have m:Hid (Li (Bc G k) (Bc G (par k))=false->F1 G):=fun hl=>Tt f.o (.inr hl)
   rw [x] at W y q m
   have V:((p:Int) == (k:Int))=false:=by simp;omega
   have Y:(0:Int)<(k:Int):=by omega
   clear x
   cases hl:Li (Bc G k) (Bc G p)
   ·have C:Hid (∀ v,HP none w G (some (qzA g 0)) cap v->Calls prog 400 #[.slice (some (qzA g 0)) G.length cap,qzI k,qzI p] v fun e u'=>e=.returned (.bool false)/\BW v u'):=fun v hv=>by rw [<- hl];exact Dk hv k p b (by omega)
    have B:Hid (F1 G):=m.o hl;go_wp2_with fail
    refine (C.o _ a.o).mono ?_;rintro e O ⟨rfl,r⟩;have i:Hid (HP none w G (some (qzA g 0)) cap O):=a.o.below r;clear r;go_wp2;go_end0;exact ⟨rfl,G,i.o,B.o,F.o⟩
   ·have C:Hid (∀ v,HP none w G (some (qzA g 0)) cap v->Calls prog 400 #[.slice (some (qzA g 0)) G.length cap,qzI k,qzI p] v fun e u'=>e=.returned (.bool true)/\BW v u'):=fun v hv=>by rw [<- hl];exact Dk hv k p b (by omega)
    have I:Hid (Qr (Cu G p k) p):=q.o hl
    have J:Hid (Fv H (Cu G p k)):=F.o.trans (gQ (by omega) b)
    go_wp2_with fail
    refine (C.o _ a.o).mono ?_;rintro e O ⟨rfl,r⟩;have l:=a.o.below r;have i:Hid (HP none w G (some (qzA g 0)) cap O):=l;have U:=Iv l.box;clear r N M l;go_wp2_with fail
    refine (Ke i.o p k y b).mono ?_;rintro e Z ⟨rfl,t⟩;have D:Hid (HP none w (Cu G p k) (some (qzA g 0)) cap Z):=t;clear t;go_wp2
    go_roundw
    case rel=>exact ⟨p,Cu G p k,by omega,rfl,D.o,I.o,J.o⟩
    case measure=>simp [intOf];omega
theorem eL (g:Nat) (a:Option Addr) (cap:Nat) (ls:List Ln) (w:World) (B:w.cell? (qzA g 0)=some (.slice a ls.length cap)) (j:Ai w a ls) (y:ls.length<=1048577) :
  Calls prog 155 #[.slice (some (qzA g 0)) 1 1] w fun e w'=>∃ a2 c,e=.returned (.slice a2 ls.length c) /\
   w'.ownsRow w.heap.size 113 3 (.slice a2 ls.length c) ls.length (Ag ls)/\BW w w':=by
 have m:Hid (Ai w a ls):=j;clear j
 go_enter func155,ntmps155
 go_wp2;refine wp_loop_rounds 2 ?_;rw [rounds_succ]
 go_wp2_with (at_builtin;refine Gp _ rfl (.tmp 12) (.tmp 13) rfl w.heap.size _ 0 [] rfl (World.ownsRow_nil _ _ _ _) a cap ls rfl m.o (by omega) nL ?_;intro D l h x)
 have C:BW w l:=bR.grown x nL (fun k hk=>by cases hk)
 rw [Nat.zero_add,List.nil_append] at h;obtain ⟨a2,c,v,-,-⟩:=Ef h;subst v;have b:Hid (l.ownsRow w.heap.size 113 3 (.slice a2 ls.length c) ls.length (Ag ls)):=h;clear h x m B;go_wp2;rw [rounds_succ];go_wp2;go_ret;exact ⟨a2,c,rfl,b.o,C⟩
theorem Hg (a:Option Addr) (cap:Nat) (ls:List Ln) (w:World) (j:Ai w a ls) (y:ls.length<=1048577) :
  Calls prog 109 #[.agg #[.slice a ls.length cap]] w (rG w ls):=by
 obtain ⟨W,f⟩:∃ W,W=((w.alloc (.cells #[.slice a ls.length cap] 29)).alloc (.cells #[.slice none 0 0] 29)).alloc (.cells #[.slice a ls.length cap] 27):=⟨_,rfl⟩
 have i:W.heap.size=w.heap.size+3:=by rw [f];simp
 have u:BW w W:=by rw [f];go_grown
 have m:Hid (Ai W a ls):=j.below u
 have c1:W.cell? ⟨w.heap.size+1,0,none⟩=some (.slice none 0 0):=by rw [f];simp [go_sem]
 have c2:W.cell? ⟨w.heap.size+1+1,0,none⟩=some (.slice a ls.length cap):=by rw [f];simp [go_sem]
 have z1:W.frozen? ⟨w.heap.size+1,0,none⟩=false:=by rw [f];simp [go_sem]
 have s:Hid _:=c1;have t:Hid _:=z1;have r:Hid _:=u;have d:Hid _:=i;have z:Hid _:=f;clear j c1 z1 u i f
 go_enter func109,ntmps109
 go_wp2_with fail
 rw [<- z.o];refine (eL (w.heap.size+1+1) a cap ls W c2 m.o y).mono ?_;rintro e l ⟨a2,c,rfl,h,n⟩
 have A:=(n.cell (p:=⟨w.heap.size+1,0,none⟩) (by have:=d.o;show w.heap.size+1<W.heap.size;omega)).trans s.o
 have e1:=(n.frozen (p:=⟨w.heap.size+1,0,none⟩) (by have:=d.o;show w.heap.size+1<W.heap.size;omega)).trans t.o
 have b:Hid (l.ownsRow W.heap.size 113 3 (.slice a2 ls.length c) ls.length (Ag ls)):=h;have q:Hid (BW w l):=next r.o n;clear h n c2;go_wp2
 refine bodyPost_ret (by simp [results,results109,go_sem,A];try rfl) rfl ?_
 refine ⟨a2,c,rfl,?_,q.o.setCell (by show w.heap.size<=w.heap.size+1;omega) _⟩
 have hs:=d.o
 exact Bi (A5 b.o _ _ (fun g hg=>by have:=(b.o.lt g hg).1;simp only;omega)) (by omega)
theorem Nr (a b c x y z:Int) (w:World) :
  Calls prog 94 #[.agg #[.int .i64 a,.int .i64 b,.int .i64 c],.agg #[.int .i64 x,.int .i64 y,.int .i64 z]] w fun e w'=>e=.returned (.int .i64 (Qh (a,b,c) (x,y,z)))/\∃ q os,w'=Go.Sort.grow (w.drewN q) os:=by
 obtain ⟨p,g⟩:∃ p,Qm a x=p:=⟨_,rfl⟩;obtain ⟨r,h⟩:∃ r,Qm b y=r:=⟨_,rfl⟩
 have m:Hid (Qh (a,b,c) (x,y,z)=oL p r):=by rw [Hid,<- g,<- h];rfl
 have HP:Hid (∀ w,Calls prog 151 #[.int .i64 a,.int .i64 x] w fun e w'=>e=.returned (.int .i64 p)/\w'=w):=fun w=>by rw [<- g];exact O8 _ _ _
 have n:Hid (∀ w,Calls prog 151 #[.int .i64 b,.int .i64 y] w fun e w'=>e=.returned (.int .i64 r)/\w'=w):=fun w=>by rw [<- h];exact O8 _ _ _
 clear g h;obtain ⟨W,d⟩:∃ W,W=(w.alloc (.cells #[.int .i64 a,.int .i64 b,.int .i64 c] 113)).alloc (.cells #[.int .i64 x,.int .i64 y,.int .i64 z] 113):=⟨_,rfl⟩
 have i:W.cell? ⟨w.heap.size,0,none⟩=some (.int .i64 a):=by rw [d];simp [go_sem]
 have j:W.cell? ⟨w.heap.size,1,none⟩=some (.int .i64 b):=by rw [d];simp [go_sem]
 have k:W.cell? ⟨w.heap.size+1,0,none⟩=some (.int .i64 x):=by rw [d];simp [go_sem]
 have l:W.cell? ⟨w.heap.size+1,1,none⟩=some (.int .i64 y):=by rw [d];simp [go_sem]
 have f:Hid _:=d
 go_enter func94,ntmps94
 go_wp2;rw [<- d];clear d
 go_region_held3 (fun w'=>w'.cell? ⟨w.heap.size,0,none⟩=some (.int .i64 a)/\w'.cell? ⟨w.heap.size,1,none⟩=some (.int .i64 b)/\w'.cell? ⟨w.heap.size+1,0,none⟩=some (.int .i64 x)/\w'.cell? ⟨w.heap.size+1,1,none⟩=some (.int .i64 y)) (first | exact ⟨i,j,k,l⟩ | (simp [go_sem,World.cell?_alloc_some,i,j,k,l];done)) ((first
  | (go_at_call_of 151 (Value.int .i64 x);refine (HP.o _).mono ?_;rintro e w' ⟨rfl,rfl⟩)
  | (go_at_call_of 151 (Value.int .i64 y);refine (n.o _).mono ?_;rintro e w' ⟨rfl,rfl⟩)
  | (go_at_call 150;refine (rE _ p r _ ?_ ?_).mono ?_;simp [go_sem];simp [go_sem];rintro e w' ⟨rfl,rfl⟩)))
 all_goals
  go_wp2;go_ret;refine ⟨Af m.o.symm,1,#[.cells #[.int .i64 a,.int .i64 b,.int .i64 c] 113,.cells #[.int .i64 x,.int .i64 y,.int .i64 z] 113,.cells #[.int .i64 p,.int .i64 r] 3],?_⟩;rw [f.o]
  rfl
end Go.Proofs.YtomiclakhjncbaaGreatDoor
namespace Go.Proofs.YtomiclakhjncbaaGreatDoor
open Go.RowKit Go.Maps Go.Proofs.Tryz
def mW (ls:List Ln):Bool:=ls.all fun x=>decide (Ec x.2.1 ls=0)
def P9 (D:DataW Unit) (ls:List Ln):Prop :=
 (∀ c,Maps.has D (.int .i64 c)=ls.any fun x=>decide (x.2.1=c))/\∀ c,D.atKey (.int .i64 c) (.lit (.int .i64 0))=.lit (.int .i64 (Ec c ls))
theorem Xx:P9 (.map []) []:=⟨fun _=>rfl,fun _=>rfl⟩
theorem eA (c:Int) (ls:List Ln) (x:Ln):Ec c (ls++[x])=Ec c ls+if x.2.1=c then x.2.2 else 0:=by simp [Ec]
theorem Vl {D:DataW Unit} {ls:List Ln} (h:P9 D ls) (hm:IsMap D) (x y z:Int):P9 (D.put (.int .i64 y) (.lit (.int .i64 (Ec y ls+z)))) (ls++[(x,y,z)]):=by
 constructor
 ·intro c
  rw [List.any_append]
  by_cases m:c=y
  ·subst m
   rw [Maps.has_put_same (k:=.int .i64 c) hm trivial];simp
  ·rw [Maps.has_put_other (Ht m),h.1 c]
   simp [Ne.symm m]
 ·intro c
  rw [eA]
  by_cases m:c=y
  ·subst m
   rw [Maps.atKey_put_same (k:=.int .i64 c) hm trivial];simp
  ·rw [Maps.atKey_put_other (Ht m),h.2 c]
   simp [Ne.symm m]
theorem lV {ls:List Ln} (h:∀ x ∈ ls,-1000000000000<=x.2.2/\x.2.2<=1000000000000) (c:Int) (k:Nat):-1000000000000 * (k:Int)<=Ec c (ls.take k)/\Ec c (ls.take k)<=1000000000000 * (k:Int):=by
 induction k with
 | zero=>simp [Ec]
 | succ k ih =>
  by_cases hk:k<ls.length
  ·rw [N5 c ls k hk]
   have:=h _ (Ex hk)
   split <;> omega
  ·rw [List.take_of_length_le (by omega)]
   rw [List.take_of_length_le (by omega)] at ih
   omega
theorem iW (ao:Option Addr) (cap:Nat) (ls:List Ln) (w:World) (hz:Ai w ao ls) (hn:ls.length<=400) (Y:∀ x ∈ ls,-1000000000000<=x.2.2/\x.2.2<=1000000000000) (a8:∀ x ∈ ls,Bf x.2.1) :
  Calls prog 95 #[.slice ao ls.length cap] w fun e w'=>e=.returned (.bool (mW ls))/\BW w w':=by
 have d4:=@run_makeMap prog;have HZ:Hid (Ai w ao ls):=hz;have N:Hid (∀ x ∈ ls,-1000000000000<=x.2.2/\x.2.2<=1000000000000):=Y;have b6:Hid (∀ x ∈ ls,Bf x.2.1):=a8;clear hz Y a8;have n:=World.ownsMap_made w prog 3 (plainElem (H:=Unit) prog 3);have X:=(Below.refl w.heap.size w).alloc nL (.map #[] 0)
 go_enter func95,ntmps95
 go_wp2
 go_loopw [11] (fun i wr=>∃ (k:Nat) (D:DataW Unit),k<=ls.length/\i=.int .i64 k/\wr.ownsMap prog 3 (plainElem (H:=Unit) prog 3) w.heap.size k D/\P9 D (ls.take k)/\BW w wr) (fun i _=>ls.length - (intOf i).toNat)
 case atStart=>exact ⟨0,.map [],Nat.zero_le _,rfl,n,Xx,X⟩
 case round =>
  obtain ⟨k,D,hk,rfl,A,F,r⟩:=hrel;have I:=r.size;have a:Hid (P9 D (ls.take k)):=F;have g:Hid (wr.ownsMap prog 3 (plainElem (H:=Unit) prog 3) w.heap.size k D):=A;clear n X F A
  by_cases f:k<ls.length
  ·have b9:(k:Int)<(ls.length:Int):=by omega
   obtain ⟨b,off,rfl,d1,c1,c2,c3⟩:=(HZ.o.below r).at f;have G:=N.o _ (Ex f);have t:=b6.o _ (Ex f);have T:Hid _:=Kl ls k f;obtain ⟨⟨x,y,z⟩,M⟩:∃ x,Cg ls k=x:=⟨_,rfl⟩;rw [M] at c1 c2 c3 G t T
   simp only at c1 c2 c3 G t
   have b7:=lV N.o y k;have U:Hid (Bf y):=t
   have hy:∀ c:Int,D.atKey (.int .i64 y) (.lit (.int .i64 0))=.lit (.int .i64 c)->c=Ec y (ls.take k)/\IntKind.i64.wrap (c+z)=c+z/\(Lit.int .i64 (c+z)).wf=true:=fun c h=>by
    have e:=h.symm.trans (a.o.2 y)
    have m:c=Ec y (ls.take k):=by injection e with e1;injection e1
    have d3:(k:Int)<=400:=by omega
    refine ⟨m,?_,?_⟩
    ·rw [m];simp [IntKind.wrap,IntKind.bits,IntKind.signed];omega
    ·exact WalkArith.wf_i64 (by rw [m];omega)
   have HY:Hid _:=hy
   have b1:Hid (k<maxLen):=by unfold maxLen;rw [Hid];omega
   have O:Hid (∀ o,Below w.heap.size w (wr.alloc o)):=fun o=>r.alloc I o
   clear M t b7 hy G
   go_wp2_with (first
    | (at_lookup;refine wpList_lookup_own_int _ rfl _ _ 186 rfl 3 3 .i64 Fp underlying186 underlying3 (Ox _) w.heap.size k D rfl (g.o.alloc _) _ _ rfl (keyOf_int_mk underlying3 U.o) ?_;intro c d L;have HC:Hid (c=Ec y (ls.take k)):=(HY.o c d).1;have d6:=(HY.o c d).2.1;have b5:Hid ((Lit.int .i64 (c+z)).wf=true):=(HY.o c d).2.2;clear d L)
    | (at_mapUpdate;refine wpList_mapUpdate_own _ rfl _ _ _ 186 rfl 3 3 Fp underlying186 _ w.heap.size k D rfl (g.o.alloc _) b1.o _ _ _ rfl rfl (keyOf_int_mk underlying3 U.o) _ [] (plainElem_int underlying3 b5.o) ?_;intro w1 p l)
    | go_in)
   have b3:Hid (w1.ownsMap prog 3 (plainElem (H:=Unit) prog 3) w.heap.size (k+1) (D.put (.int .i64 y) (.lit (.int .i64 (c+z))))):=p
   have q1:BW w w1:=(O.o _).grown l (O.o _).size (fun j hj=>by cases hj;exact nL)
   clear p l;go_wp2
   go_roundw
   case rel=>exact ⟨k+1,_,by omega,by go_num,b3.o,by rw [T.o,HC.o];exact Vl a.o g.o.isMap x y z,q1⟩
   case measure=>simp [intOf];omega
  ·have b8:k=ls.length:=by omega
   subst b8
   have b9:¬ (ls.length:Int)<(ls.length:Int):=by omega
   rw [List.take_length] at a;obtain ⟨W,hW⟩:∃ W,W=wr:=⟨_,rfl⟩;subst hW
   go_wp2_with (first
    | (at_range;refine wpList_range_own _ rfl _ 186 rfl 3 3 Fp underlying186 _ w.heap.size ls.length _ rfl g.o ?_;intro w0 B a3 c9)
    | go_in)
   try go_frame
   have a9:BW w w0:=r.grown a3 I (fun j hj=>by cases hj)
   go_loopw [7] (fun _ wr=>∃ (left:Lit->Bool) (Mw:Nat),wr.ranges prog 3 (plainElem (H:=Unit) prog 3) w.heap.size W.heap.size ls.length D left Mw/\(∀ c,left (.int .i64 c)=true->Maps.has D (.int .i64 c)=true)/\(∀ c,Maps.has D (.int .i64 c)=true->left (.int .i64 c)=false->Ec c ls=0)/\BW w wr)
    (fun _ wr=>wr.rangeLeft w.heap.size W.heap.size)
   case atStart=>exact ⟨_,_,B,fun _ h=>h,(fun c h1 h2=>by rw [h1] at h2;cases h2),a9⟩
   case round =>
    obtain ⟨left,Mw,a7,a6,q,J⟩:=hrel;clear B a3 c9 a9;have R:Hid (∀ c,left (.int .i64 c)=true->Maps.has D (.int .i64 c)=true):=a6;have V:Hid (∀ c,Maps.has D (.int .i64 c)=true->left (.int .i64 c)=false->Ec c ls=0):=q;have S:Hid (wr.ranges prog 3 (plainElem (H:=Unit) prog 3) w.heap.size W.heap.size ls.length D left Mw):=a7;clear a6 q a7
    go_wp2_with (first
     | (at_next;refine wpList_next_ranges_ii _ rfl _ rfl 3 3 .i64 .i64 Fp underlying3 underlying3 w.heap.size W.heap.size ls.length _ _ _ rfl S.o ?_ ?_)
     | go_in)
    ·intro _ a5
     have HV:Hid (mW ls=true):=by
      rw [Hid,mW,List.all_eq_true];intro x M
      have hh:Maps.has D (.int .i64 x.2.1)=true:=by
       rw [a.o.1,List.any_eq_true];exact ⟨x,M,by simp⟩
      simpa using V.o _ hh (a5 _)
     clear a5;go_wp2;go_ret;exact ⟨Aa HV.o.symm,J⟩
    ·intro x c w1 v d0 L c8 d C f a4 d5 d2
     have s:c=Ec x ls:=by
      have e:=(d (.lit (.int .i64 0))).symm.trans (a.o.2 x)
      injection e with e1;injection e1
     have q1:BW w w1:=J.grown a4 J.size (fun j hj=>by cases hj;exact I)
     have u:Hid (w1.ranges prog 3 (plainElem (H:=Unit) prog 3) w.heap.size W.heap.size ls.length D (fun z=>left z && !z.sameKey (.int .i64 x)) v):=C
     have b2:Hid _:=f;have b0:Hid _:=R.o _ c8;clear d C f a4 d0 L
     by_cases hc0:c=0
     ·have Z:(c != 0)=false:=by simpa using hc0
      have b4:Hid (Ec x ls=0):=by rw [Hid,<- s,hc0]
      clear s hc0;go_wp2
      go_roundw
      case rel =>
       refine ⟨_,v,u.o,(fun c' h=>R.o c' (Bool.and_eq_true _ _ ▸ h).1),fun c' h1 h2=>?_,q1⟩
       by_cases M:c'=x
       ·rw [M];exact b4.o
       ·refine V.o c' h1 ?_
        have:=Maps.sameKey_ne (Ht M)
        simp [this] at h2
        exact h2
      case measure=>rw [u.o.left_eq,S.o.left_eq];exact b2.o
     ·have Z:(c != 0)=true:=by simpa using hc0
      have HV:Hid (mW ls=false):=by
       rw [Hid,mW];have hh:=b0.o;rw [a.o.1,List.any_eq_true] at hh;obtain ⟨y,hy,he⟩:=hh
       simp at he
       rw [List.all_eq_false]
       exact ⟨y,hy,by rw [he,<- s];simpa using hc0⟩
      clear s hc0;go_wp2;go_ret;exact ⟨Aa HV.o.symm,q1⟩
end Go.Proofs.YtomiclakhjncbaaGreatDoor
namespace Go.Proofs.YtomiclakhjncbaaGreatDoor
open Go.RowKit Go.Proofs.Tryz
theorem Zm (w:World) (q:Nat) (os:Array Obj):Below w.heap.size w (Go.Sort.grow (w.drewN q) os) :=
 ⟨rfl,rfl,rfl,by simp [Go.Sort.grow,World.drewN],fun k hk=>by simp [Go.Sort.grow,World.drewN,Array.getElem?_append,hk]⟩
theorem Kt {a c m:Int} {v:Bool} (h:G7 (a,c,m)=v) (hc:(Lit.int .i64 c).wf=true) (w:World) :
  Calls prog 93 #[.agg #[qzI a,qzI c,qzI m]] w fun e w'=>e=.returned (.bool v)/\BW w w':=by rw [<- h];exact aY a c m w hc
theorem Pb {a b c x y z v:Int} (h:Qh (a,b,c) (x,y,z)=v) (w:World) :
  Calls prog 94 #[.agg #[qzI a,qzI b,qzI c],.agg #[qzI x,qzI y,qzI z]] w fun e w'=>e=.returned (qzI v)/\BW w w' :=
 (Nr a b c x y z w).mono fun e w' ⟨he,q,os,hw⟩=>⟨by rw [he,h],by rw [hw];exact Zm w q os⟩
theorem nU {ls:List Ln} (h:Az none ls=true) (hl:ls.length<=400):At ls=mW ls:=by
 have he:Wo ls=mW ls:=by
  rw [Bool.eq_iff_iff,hH fun x I=>(Ig (Dv h x I)).2.1,mW,List.all_eq_true]
  simp
 simp [At,h,hl,he]
theorem Ij (J:Option Addr) (cap:Nat) (ls:List Ln) (w:World) (hz:Ai w J ls) (hn:ls.length<=1099511627776) (a5:∀ x ∈ ls,Hw x) :
  Calls prog 39 #[.agg #[.slice J ls.length cap]] w fun e w'=>e=.returned (.bool (At ls))/\BW w w':=by
 obtain ⟨W,O⟩:∃ W,W=w.alloc (.cells #[.slice J ls.length cap] 29):=⟨_,rfl⟩
 have N:BW w W:=by rw [O];go_grown
 have L:w.heap.size<W.heap.size:=by rw [O];simp
 have k0:W.cell? ⟨w.heap.size,0,none⟩=some (.slice J ls.length cap):=by rw [O];simp
 have HK:Hid (W.cell? ⟨w.heap.size,0,none⟩=some (.slice J ls.length cap)):=k0;have HZ:Hid (Ai W J ls):=hz.below N;have T:Hid (∀ x ∈ ls,Hw x):=a5;clear hz a5
 by_cases h4:(400:Int)<(ls.length:Int)
 ·have H:Hid (At ls=false):=by
    have:¬ ls.length<=400:=by omega
    simp [Hid,At,this]
  go_enter func39,ntmps39
  go_wp2;go_ret;rw [<- O];exact ⟨Aa H.o.symm,N⟩
 have Z:ls.length<=400:=by omega
 go_enter func39,ntmps39
 go_wp2;rw [<- O];clear O
 go_loopw [12] (fun i wr=>∃ k:Nat,k<=ls.length/\i=qzI k/\Az none ls=Az (Fc ls k) (ls.drop k)/\BW W wr) (fun i _=>ls.length - (intOf i).toNat)
 case atStart=>exact ⟨0,Nat.zero_le _,rfl,rfl,bR⟩
 case round =>
  obtain ⟨k,hk,rfl,a3,d⟩:=hrel;have j:Hid _:=a3;have Y:=d.size;have d1:w.heap.size<wr.heap.size:=Nat.lt_of_lt_of_le L Y;clear a3 k0
  by_cases hlt:k<ls.length
  ·have b3:(k:Int)<(ls.length:Int):=by omega
   obtain ⟨b,off,rfl,b7,c1,c2,c3⟩:=(HZ.o.below d).at hlt;have F:=Mq ls k hlt;have M:=T.o _ (Ex hlt);obtain ⟨p,hp⟩:∃ p,Fc ls k=p:=⟨_,rfl⟩;have HP:Hid _:=hp;rw [hp] at F j;obtain ⟨⟨x,y,z⟩,I⟩:∃ x,Cg ls k=x:=⟨_,rfl⟩;rw [I] at c1 c2 c3 F M
   simp only at c1 c2 c3
   have C:Hid ((Lit.int .i64 y).wf=true):=M.2.1;have B:Hid _:=j.o.trans F;obtain ⟨V,r⟩:∃ V,V=wr.alloc (.cells #[qzI x,qzI y,qzI z] 113):=⟨_,rfl⟩
   have U:BW W V:=by rw [r];exact d.alloc Y _
   have b5:V.heap.size=wr.heap.size+1:=by rw [r];simp
   have v0:V.cell? ⟨wr.heap.size,0,none⟩=some (qzI x):=by rw [r];simp
   have v1:V.cell? ⟨wr.heap.size,1,none⟩=some (qzI y):=by rw [r];simp
   have v2:V.cell? ⟨wr.heap.size,2,none⟩=some (qzI z):=by rw [r];simp
   have l0:=(U.cell (p:=⟨w.heap.size,0,none⟩) L).trans HK.o;have s:Hid (BW W V):=U;have t:Hid (BW w W):=N;have D:W.heap.size<=V.heap.size:=U.size;have d0:=K0 V;have g0:=As v0;have g1:=As v1;have g2:=As v2;have g3:=As l0;have S:Hid (Ai V (some (qzA b off)) ls):=HZ.o.below U;go_upto_region 6 with fail
   rw [<- r];clear r F I hp j M U N d c1 c2 c3
   cases h1:G7 (x,y,z)
   ·have H:Hid (At ls=false):=by
      unfold At
      rw [Hid,B.o,h1];rfl
    have R:Hid _:=h1;clear h1 B
    refine B6 (by kernel_rfl) (by kernel_rfl) ?_
    repeat (go_big_quiet_step (exact F8 (Kt R.o C.o _)))
    refine wpQuiet_nil ?_;rintro _ ⟨⟨u1,G⟩,f⟩;subst f;go_wp2;go_ret;exact ⟨Aa H.o.symm,t.o.trans ((s.o.trans (G.mono D)).mono t.o.size)⟩
   have R:Hid _:=h1
   have g:Hid (Az none ls=(Ni p (x,y,z) && Az (Fc ls (k+1)) (ls.drop (k+1)))):=by rw [Hid,B.o,h1];rfl
   clear h1 B
   cases k with
   | zero =>
    have HN:Hid (Az none ls=Az (Fc ls (0+1)) (ls.drop (0+1))):=by
     have b4:p=none:=by rw [<- HP.o];rfl
     rw [Hid,g.o,b4];rfl
    clear g HP
    refine B6 (by kernel_rfl) (by kernel_rfl) ?_
    repeat (go_big_quiet_step (exact F8 (Kt R.o C.o _)))
    refine wpQuiet_nil ?_;rintro _ ⟨⟨u1,G⟩,f⟩;subst f;go_wp2
    go_roundw
    case rel=>exact ⟨1,by omega,by go_num,HN.o,s.o.trans (G.mono D)⟩
    case measure=>simp [intOf];omega
   | succ k =>
    have a4:p=some (Cg ls k):=by rw [<- HP.o];simp [Fc]
    obtain ⟨b',a7,X,b6,e1,e2,e3⟩:=S.o.at (k:=k) (by omega)
    obtain ⟨rfl,rfl⟩:b=b'/\off=a7:=by simpa using X
    obtain ⟨⟨x',y',z'⟩,a6⟩:∃ x,Cg ls k=x:=⟨_,rfl⟩;rw [a6] at e1 e2 e3 a4
    simp only at e1 e2 e3
    subst a4;have A:Hid (Az none ls=(E3 (x',y',z') (x,y,z) && Az (Fc ls (k+1+1)) (ls.drop (k+1+1)))):=g.o
    have b8:((k+1:Nat):Int) - 1=(k:Int):=by omega
    have b9:(0:Int)<((k+1:Nat):Int):=by omega
    have c8:(k:Int)<(ls.length:Int):=by omega
    have g4:=As e1;have g5:=As e2;have g6:=As e3
    have c9:decide (0<k+1)=true:=by simp
    obtain ⟨v,hv⟩:∃ v,Qh (x',y',z') (x,y,z)=v:=⟨_,rfl⟩;have n:=cY (x',y',z') (x,y,z);rw [hv] at n;have HV:Hid _:=hv;have u:Hid _:=n;clear g HP a6 X S hv n
    by_cases h2:0<=v
    ·have b0:decide (0<=v)=true:=by simpa using h2
     have H:Hid (At ls=false):=by
      have:E3 (x',y',z') (x,y,z)=false:=by
       cases h:E3 (x',y',z') (x,y,z)
       ·rfl
       ·have:=u.o.2 h;omega
      unfold At
      rw [Hid,A.o,this];rfl
     clear A u
     refine B6 (by kernel_rfl) (by kernel_rfl) ?_
     repeat (go_big_quiet_step (first | exact F8 (Kt R.o C.o _) | exact F8 (Pb HV.o _)))
     refine wpQuiet_nil ?_;rintro _ ⟨⟨u1,G⟩,f⟩;subst f;go_wp2;go_ret;exact ⟨Aa H.o.symm,t.o.trans ((s.o.trans (G.mono D)).mono t.o.size)⟩
    ·have b0:decide (0<=v)=false:=by simpa using h2
     have HN:Hid (Az none ls=Az (Fc ls (k+1+1)) (ls.drop (k+1+1))):=by
      rw [Hid,A.o,u.o.1 (by omega)];rfl
     clear A u
     refine B6 (by kernel_rfl) (by kernel_rfl) ?_
     repeat (go_big_quiet_step (first | exact F8 (Kt R.o C.o _) | exact F8 (Pb HV.o _)))
     refine wpQuiet_nil ?_;rintro _ ⟨⟨u1,G⟩,f⟩;subst f;go_wp2
     go_roundw
     case rel=>exact ⟨k+1+1,by omega,by go_num,HN.o,s.o.trans (G.mono D)⟩
     case measure=>simp [intOf];omega
  ·have b2:k=ls.length:=by omega
   subst b2
   have b3:¬ (ls.length:Int)<(ls.length:Int):=by omega
   have l:Az none ls=true:=by rw [j.o,Pf]
   have H:Hid (At ls=mW ls):=nU l Z
   have a8:Hid (∀ x ∈ ls,-1000000000000<=x.2.2/\x.2.2<=1000000000000):=fun x I=>(Ig (Dv l x I)).2.2.1
   have l0:=(d.cell (p:=⟨w.heap.size,0,none⟩) L).trans HK.o;have q0:=next N d;have a9:Hid (Ai wr J ls):=HZ.o.below d;clear j l d N;go_wp2_with fail
   refine (iW _ _ _ _ a9.o Z a8.o (fun x I=>(T.o x I).2.1)).mono ?_
   rintro e u1 ⟨rfl,b1⟩;have G:=next q0 b1;obtain ⟨V,r⟩:∃ V,mW ls=V:=⟨_,rfl⟩;rw [r] at H ⊢;clear b1 q0 r;go_wp2;go_ret;exact ⟨Aa H.o.symm,G⟩
namespace Kb
theorem iV {u:World} {base n size:Nat} {t:TypeId} {v:Value} {xs:List Value} (h:u.ownsRow base t size v n xs):∃ a c,v=.slice a n c:=by
 rcases h.2 with ⟨V,h0⟩ | ⟨g,cap,cQ,V,_⟩
 ·exact ⟨none,0,by rw [V,h0]⟩
 ·exact ⟨_,_,V⟩
theorem fZ (g:Nat) (q:Option Addr) (cap:Nat) (cs:List Cs) (w:World) (hc:w.cell? (qzA g 0)=some (.slice q cs.length cap)) (L:A0 w q cs) (hn:cs.length<=1048577) :
  Calls prog 111 #[.slice (some (qzA g 0)) 1 1] w fun e w'=>∃ a2 J,e=.returned (.slice a2 cs.length J) /\
   w'.ownsRow w.heap.size 61 12 (.slice a2 cs.length J) cs.length (Aj cs)/\BW w w':=by
 have Z:Hid (A0 w q cs):=L;clear L
 go_enter func111,ntmps111
 go_wp2;refine wp_loop_rounds 2 ?_;rw [rounds_succ]
 go_wp2_with (at_builtin;refine Eh _ rfl (.tmp 12) (.tmp 13) rfl w.heap.size _ 0 [] rfl (World.ownsRow_nil _ _ _ _) q cap cs rfl Z.o (by omega) nL ?_;intro v2 z M g2 _)
 have q2:BW w z:=bR.grown g2 nL (fun k y=>by cases y)
 rw [Nat.zero_add,List.nil_append] at M;obtain ⟨a2,J,W⟩:=iV M;subst W;have U:Hid (z.ownsRow w.heap.size 61 12 (.slice a2 cs.length J) cs.length (Aj cs)):=M;clear M g2 Z hc;go_wp2;rw [rounds_succ];go_wp2;go_ret;exact ⟨a2,J,rfl,U.o,q2⟩
theorem Sb {F:Ff} {E:World->Prop} {G:Nat} (KI:Rq F E G) (q:Option Addr) (cap:Nat) (rs:Be) (w:World) (L:Bh w q rs) (hn:rs.length<=1048576) (hd:∀ r ∈ rs,r.length<=1048576) :
  Calls prog 112 #[.slice q rs.length cap] w fun e w'=>e=.returned (.slice (some ⟨w.heap.size,0,none⟩) rs.length rs.length) /\
   w'.ownsRow w.heap.size 9 1 (.slice (some ⟨w.heap.size,0,none⟩) rs.length rs.length) rs.length (Am rs)/\BW w w':=by
 obtain ⟨i0,hi,D,H,I⟩:=info_parts S1;have C:=Qc rs.length
 rcases L with rfl | ⟨b,off,rfl,hb,j⟩
 ·go_enter func112,ntmps112
  go_wp2_with (refine wpList_make_full _ rfl (.tmp 7) (.tmp 7) 23 rfl w.heap.size 9 i0 _ 1 underlying23 hi D H .i64 .i64 _ _ 0 rfl rfl rfl rfl (by rw [I];omega) (by unfold maxLen;omega) nL ?_;intro w1 d hg)
  refine wp_loop_rounds 1 ?_;rw [rounds_succ];go_wp2;go_ret
  exact ⟨rfl,by simpa [madeCells,Am] using d,bR.grown hg nL (fun k y=>by cases y)⟩
 ·have HC:Hid (∀ i,i<rs.length->w.cell? (qzA b (off+i))=some (.string ⟨(Al rs i).toArray⟩)):=j
  have T:Hid (∀ (i:Nat) (u:World),i<rs.length->Calls prog 138 #[.string ⟨(Al rs i).toArray⟩] u fun e w'=>e=.returned (.string ⟨(Al rs i).toArray⟩)/\BW u w'):=fun i u h=>KI.clone _ u (hd _ (F7 h))
  clear j KI hd
  go_enter func112,ntmps112
  go_wp2_with (refine wpList_make_full _ rfl (.tmp 7) (.tmp 7) 23 rfl w.heap.size 9 i0 _ 1 underlying23 hi D H .i64 .i64 _ _ rs.length rfl rfl rfl rfl (by rw [I];omega) (by unfold maxLen;omega) nL ?_;intro w1 d hg)
  rw [C,show List.replicate rs.length ([]:List UInt8)=Eg rs 0 from by simp [Eg]] at d
  have B:BW w w1:=bR.grown hg nL (fun k y=>by cases y)
  clear C hg
  go_loopw [11] (fun i wr=>∃ k:Nat,k<=rs.length/\i=qzI k/\wr.ownsRow w.heap.size 9 1 (.slice (some ⟨w.heap.size,0,none⟩) rs.length rs.length) rs.length (Am (Eg rs k))/\BW w wr) (fun i _=>rs.length - (intOf i).toNat)
  case atStart=>exact ⟨0,Nat.zero_le _,rfl,d,B⟩
  case round =>
   obtain ⟨k,y,rfl,ho,l⟩:=hrel;clear d B
   by_cases hlt:k<rs.length
   ·have c1:wr.cell? (qzA b (off+k))=some (.string ⟨(Al rs k).toArray⟩):=(l.cell (p:=(qzA b (off+k))) hb).trans (HC.o k hlt)
    have a3:(k:Int)<(rs.length:Int):=by omega
    have X:Hid _:=Q8 rs k hlt;have Y:Hid _:=Lu (Eg rs k) k (Al rs k)
    have x:=Hd (Eg rs k) k (by rw [Tq rs k y];exact hlt)
    rw [Wd rs k hlt] at x
    have A:Hid (∀ u,Calls prog 138 #[.string ⟨(Al rs k).toArray⟩] u fun e w'=>e=.returned (.string ⟨(Al rs k).toArray⟩)/\BW u w'):=fun u=>T.o k u hlt
    obtain ⟨s,hf⟩:∃ f,Al rs k=f:=⟨_,rfl⟩;rw [hf] at c1 X Y A;have HO:Hid (wr.ownsRow w.heap.size 9 1 (.slice (some ⟨w.heap.size,0,none⟩) rs.length rs.length) rs.length (Am (Eg rs k))):=ho;have S:Hid (BW w wr):=l;have N:Hid _:=x;clear ho hf l x;go_wp2_with fail
    refine Calls.mono (A.o wr) ?_;rintro e z ⟨rfl,p2⟩;have m:=Vs HO.o p2
    have c3:z.cell? ⟨w.heap.size,k,none⟩=some (.string ⟨#[]⟩):=by rw [m.cellAt k (by omega)];exact N.o
    have c5:z.frozen? ⟨w.heap.size,k,none⟩=false:=m.frozenAt _
    have HR:Hid ((z.setCell ⟨w.heap.size,k,none⟩ (.string ⟨s.toArray⟩)).ownsRow w.heap.size 9 1 (.slice (some ⟨w.heap.size,0,none⟩) rs.length rs.length) rs.length (Am (Eg rs (k+1)))):=by
     have R:=(m.stored k (.string ⟨s.toArray⟩)).1;rw [Y.o,X.o] at R;exact R
    have O:Hid (BW w z):=next S.o p2;clear m p2 c1;go_wp2
    go_roundw
    case rel=>exact ⟨k+1,by omega,by go_num,HR.o,O.o.setCell nL _⟩
    case measure=>simp [intOf];omega
   ·have:k=rs.length:=by omega
    subst this;rw [S5] at ho;go_wp2;go_ret;exact ⟨rfl,ho,l⟩
end Kb
structure FrB (q:Bp) (n:Nat):Prop where
 o:Cm q.o n
 a:Cm q.a n
 c:Cm q.c n
 l:Cm q.l n
 g:Cm q.g n
theorem Ey {a:Option Addr} {n m:Nat} (h:Cm a n) (hm:m<=n):Cm a m:=fun x hx=>by have:=h x hx;omega
theorem U7 {a a1:Option Addr} {n m:Nat} (h:a=a1\/Cm a n) (h1:Cm a1 m) (hm:m<=n):Cm a m:=by
 rcases h with rfl | h
 ·exact h1
 ·exact Ey h hm
def BoF (Rel:Bk->List UInt8->Bk×Int->Prop) (b:Bk) (f:List UInt8) (w:World) (e:Ending) (w':World):Prop :=
 ∃ r q,Fg Rel b f r/\e=.returned (.tuple #[C5 r.1 q,qzI r.2])/\Aq w' r.1 q/\BW w w'/\FrB q w.heap.size
theorem T5 {g6:Bk->Prop} {Rel:Bk->List UInt8->Bk×Int->Prop} (D:cB g6 Rel) (b:Bk) (p:Bp) (f:List UInt8) (w:World) (hx:Aq w b p) (hp:g6 b) (hl:f.length<=1048575) :
  Calls prog 31 #[C5 b p,.string ⟨f.toArray⟩] w (BoF Rel b f w):=by
 have hn:=D.small b hp;have i7:Hid (g6 b):=hp;clear hp
 have HX:Hid (∀ u,BW w u->Aq u b p):=fun u h=>hx.below h
 have HN:Hid (D0 b):=hn
 have a9:Hid (∀ u,BW w u->Calls prog 71 #[C5 b p] u (CpR u b)):=fun u h=>Oq b p u (hx.below h) hn
 clear hx hn;obtain ⟨td,Z,az,cs,ls,lg⟩:=b;obtain ⟨o,oc,a,ac,c,cc,l,lc,g,gc⟩:=p;unfold C5 at a9 ⊢
 simp only at a9 ⊢
 obtain ⟨u0,a6⟩:∃ u,u=((w.alloc (.cells #[qzI td,.slice o Z.length oc,.slice a az.length ac,.slice c cs.length cc,.slice l ls.length lc,.slice g lg.length gc] 31))).alloc (.cells qzB 31):=⟨_,rfl⟩
 have c8:Hid (BW w u0):=by rw [Hid,a6];go_grown
 have i8:Hid ((w.heap.size+1)<u0.heap.size):=by rw [Hid,a6];simp
 have g0:Hid (Z6 w.heap.size (qzI td) (.slice o Z.length oc) (.slice a az.length ac) (.slice c cs.length cc) (.slice l ls.length lc) (.slice g lg.length gc) u0):=by
  rw [Hid,a6];exact ((Z6.new w (qzI td) (.slice o Z.length oc) (.slice a az.length ac) (.slice c cs.length cc) (.slice l ls.length lc) (.slice g lg.length gc) 31)).below (bR.alloc nL _)
 have d5:Hid (Z6 (w.heap.size+1) (qzI 0) (.slice none 0 0) (.slice none 0 0) (.slice none 0 0) (.slice none 0 0) (.slice none 0 0) u0):=by
  have h:=Z6.new ((w.alloc (.cells #[qzI td,.slice o Z.length oc,.slice a az.length ac,.slice c cs.length cc,.slice l ls.length lc,.slice g lg.length gc] 31))) (qzI 0) (.slice none 0 0) (.slice none 0 0) (.slice none 0 0) (.slice none 0 0) (.slice none 0 0) 31
  rw [Hid,a6];simpa using h
 have j0:Hid _:=a6;clear a6
 go_enter func31,ntmps31
 go_upto_region 1 with fail
 rw [<- j0.o];clear j0
 have m4:lg.length<=1048576:=by have:=HN.o.2.2.2.2;simpa using this
 obtain ⟨t0,t1,t2,t3,t4,t5,s0,s1,s2,s3,s4,s5⟩:=g0.o;obtain ⟨q0,q1,q2,q3,q4,q5,p0,p1,p2,p3,p4,p5⟩:=d5.o;go_wp2_with fail
 refine Calls.mono (a9.o _ c8.o) ?_;rintro e u1 ⟨⟨q1,base,rfl,j5,g8,l5,j6,G,i⟩,b1⟩;obtain ⟨o1,v,a1,k,c1,s,l1,t,g1,y⟩:=q1;unfold C5
 simp only at g8 G i ⊢
 have g3:Hid _:=g0.o.below b1;have d6:Hid _:=d5.o.below b1;have h3:Hid (BW w u1):=next c8.o b1;have h8:Hid (Aq u1 ⟨td,Z,az,cs,ls,lg⟩ ⟨o1,v,a1,k,c1,s,l1,t,g1,y⟩):=j5;have i2:Hid (u1.ownsRow base 9 1 (.slice g1 lg.length y) lg.length (Am lg)):=g8;have a4:=i8.o
 have k8:Hid (Wq ⟨o1,v,a1,k,c1,s,l1,t,g1,y⟩ w.heap.size):=⟨Bb i.1 (by omega),Bb i.2.1 (by omega),Bb i.2.2.1 (by omega),Bb i.2.2.2.1 (by omega),Bb i.2.2.2.2 (by omega)⟩
 have d4:Hid (Wq ⟨o1,v,a1,k,c1,s,l1,t,g1,y⟩ (w.heap.size+1)):=⟨Bb i.1 a4,Bb i.2.1 a4,Bb i.2.2.1 a4,Bb i.2.2.2.1 a4,Bb i.2.2.2.2 a4⟩;have a7:Hid (Dt o1 base/\Dt a1 base/\Dt c1 base/\Dt l1 base):=G
 have d2:Hid (FrB ⟨o1,v,a1,k,c1,s,l1,t,g1,y⟩ w.heap.size):=⟨Ey i.1 (by omega),Ey i.2.1 (by omega),Ey i.2.2.1 (by omega),Ey i.2.2.2.1 (by omega),Ey i.2.2.2.2 (by omega)⟩
 have d0:Hid (w.heap.size+1<base/\base<=u1.heap.size):=⟨by omega,j6⟩
 clear t0 t1 t2 t3 t4 t5 s0 s1 s2 s3 s4 s5 q0 q1 q2 q3 q4 q5 p0 p1 p2 p3 p4 p5 g0 d5 c8 i8 a9 b1 j5 g8 G i l5 j6 a4;obtain ⟨t0,t1,t2,t3,t4,t5,s0,s1,s2,s3,s4,s5⟩:=g3.o;obtain ⟨q0,q1,q2,q3,q4,q5,p0,p1,p2,p3,p4,p5⟩:=d6.o;go_upto_region 2 with fail
 obtain ⟨u2,I⟩:∃ u,u=(((((u1.setCell ⟨w.heap.size,0,none⟩ (qzI td)).setCell ⟨w.heap.size,1,none⟩ (.slice o1 Z.length v)).setCell ⟨w.heap.size,2,none⟩ (.slice a1 az.length k)).setCell ⟨w.heap.size,3,none⟩ (.slice c1 cs.length s)).setCell ⟨w.heap.size,4,none⟩ (.slice l1 ls.length t)).setCell ⟨w.heap.size,5,none⟩ (.slice g1 lg.length y):=⟨_,rfl⟩
 have g4:Hid (Z6 w.heap.size (qzI td) (.slice o1 Z.length v) (.slice a1 az.length k) (.slice c1 cs.length s) (.slice l1 ls.length t) (.slice g1 lg.length y) u2):=by rw [Hid,I];exact g3.o.put6 _ _ _ _ _ _
 have d7:Hid (Z6 (w.heap.size+1) (qzI 0) (.slice none 0 0) (.slice none 0 0) (.slice none 0 0) (.slice none 0 0) (.slice none 0 0) u2):=by rw [Hid,I];exact d6.o.far6 (by omega) _ _ _ _ _ _
 have c9:Hid (BW w u2):=by rw [Hid,I];exact Ax nL h3.o _ _ _ _ _ _
 have b0:Hid (Aq u2 ⟨td,Z,az,cs,ls,lg⟩ ⟨o1,v,a1,k,c1,s,l1,t,g1,y⟩):=by rw [Hid,I];exact h8.o.put6 k8.o _ _ _ _ _ _
 have b4:Hid (u2.ownsRow base 9 1 (.slice g1 lg.length y) lg.length (Am lg)):=by rw [Hid,I];exact Ea i2.o (by have:=d0.o;omega) _ _ _ _ _ _
 have z:Hid (w.heap.size+1<base/\base<=u2.heap.size):=by rw [Hid,I];simpa using d0.o
 rw [<- I];clear I g3 d6 h3 h8 i2 d0 t0 t1 t2 t3 t4 t5 s0 s1 s2 s3 s4 s5 q0 q1 q2 q3 q4 q5 p0 p1 p2 p3 p4 p5;obtain ⟨t0,t1,t2,t3,t4,t5,s0,s1,s2,s3,s4,s5⟩:=g4.o;obtain ⟨q0,q1,q2,q3,q4,q5,p0,p1,p2,p3,p4,p5⟩:=d7.o
 by_cases hfull:600<=lg.length
 ·have l6:(600:Int)<=(lg.length:Int):=by omega
  go_wp2
  refine bodyPost_ret (by simp [results,results31,go_sem,q0,q1,q2,q3,q4,q5];try rfl) rfl ?_
  exact ⟨(⟨td,Z,az,cs,ls,lg⟩,2),⟨o1,v,a1,k,c1,s,l1,t,g1,y⟩,.inl ⟨hfull,rfl⟩,rfl,b0.o.put6 d4.o _ _ _ _ _ _,Ax (by omega) c9.o _ _ _ _ _ _,d2.o⟩
 have l6:¬ (600:Int)<=(lg.length:Int):=by omega
 have h0:Vb ⟨o1,v,a1,k,c1,s,l1,t,g1,y⟩ u2.heap.size:=⟨a7.o.1.mono z.o.2,a7.o.2.1.mono z.o.2,a7.o.2.2.1.mono z.o.2,a7.o.2.2.2.mono z.o.2,G8 b4.o nL⟩;have HD:Hid _:=D.calls ⟨td,Z,az,cs,ls,lg⟩ ⟨o1,v,a1,k,c1,s,l1,t,g1,y⟩ f u2 b0.o h0 i7.o hl;clear h0;have i1:Hid _:=D.log ⟨td,Z,az,cs,ls,lg⟩ f;unfold C5 at HD
 simp only at HD
 go_wp2_with fail
 refine Calls.mono HD.o ?_;rintro e A ⟨⟨⟨X,T,R,S,W,d⟩,code⟩,hrel,q2,rfl,g7,j8,b8,g9,b3⟩;obtain ⟨o2,M,a2,C,c2,F,l2,J,N,j⟩:=q2
 simp only at j8 b8 g9 hrel g7
 obtain rfl:d=lg:=i1.o _ hrel;subst j8;subst b8;unfold C5
 simp only
 have b7:Hid _:=hrel;have k6:Hid _:=g7;have k9:Hid _:=g9;obtain ⟨V,hV⟩:∃ V,V=A.alloc (.cells #[qzI X,.slice o2 T.length M,.slice a2 R.length C,.slice c2 S.length F,.slice l2 W.length J,.slice N d.length j] 31):=⟨_,rfl⟩
 have bV:BW A V:=by rw [hV];exact bR.alloc nL _
 have HT:Hid (Z6 A.heap.size (qzI X) (.slice o2 T.length M) (.slice a2 R.length C) (.slice c2 S.length F) (.slice l2 W.length J) (.slice N d.length j) V):=by rw [Hid,hV];exact Z6.new A (qzI X) (.slice o2 T.length M) (.slice a2 R.length C) (.slice c2 S.length F) (.slice l2 W.length J) (.slice N d.length j) 31
 have i9:Hid (∃ cQ,V.heap[A.heap.size]?=some (.cells cQ 31)):=by rw [Hid,hV];exact ⟨_,heap_alloc_new A _⟩
 have a3:=next b3 bV;have j1:Hid (Z6 w.heap.size (qzI td) (.slice o1 Z.length v) (.slice a1 az.length k) (.slice c1 cs.length s) (.slice l1 ls.length t) (.slice N d.length j) V):=g4.o.below a3;have d8:Hid (Z6 (w.heap.size+1) (qzI 0) (.slice none 0 0) (.slice none 0 0) (.slice none 0 0) (.slice none 0 0) (.slice none 0 0) V):=d7.o.below a3;have a8:Hid (BW w V):=next c9.o a3;have h9:Hid (Aq V ⟨td,Z,az,cs,ls,d⟩ ⟨o1,v,a1,k,c1,s,l1,t,N,j⟩):=b0.o.below a3;have i3:Hid (V.ownsRow base 9 1 (.slice N d.length j) d.length (Am d)):=Av b4.o a3
 have b2:Hid (∀ B,(Value.slice N d.length j).ownBlock=some B->base<=B/\B<u2.heap.size):=fun B h=>b4.o.lt B h
 have k3:Hid (∀ row,A.grownBy V row):=fun row=>by rw [hV];exact World.grownBy_alloc A _ row
 have d9:Hid (w.heap.size+1<base/\base<=u2.heap.size/\u2.heap.size<=A.heap.size/\A.heap.size<V.heap.size):=⟨z.o.1,z.o.2,b3.size,HT.o.lt⟩;have HV:Hid _:=hV;clear hV bV b3 a3 g7 g9 hrel g4 d7 c9 b0 b4 z HD t0 t1 t2 t3 t4 t5 s0 s1 s2 s3 s4 s5 q0 q1 q2 q3 q4 q5 p0 p1 p2 p3 p4 p5;go_upto_region 5 with fail
 rw [<- HV.o];clear HV
 by_cases hcode:code=0
 case neg =>
  have m3:(code != 0)=true:=by simpa using hcode
  obtain ⟨t0,t1,t2,t3,t4,t5,s0,s1,s2,s3,s4,s5⟩:=j1.o;obtain ⟨q0,q1,q2,q3,q4,q5,p0,p1,p2,p3,p4,p5⟩:=d8.o;go_wp2
  refine bodyPost_ret (by simp [results,results31,go_sem,q0,q1,q2,q3,q4,q5];try rfl) rfl ?_
  exact ⟨(⟨td,Z,az,cs,ls,d⟩,code),⟨o1,v,a1,k,c1,s,l1,t,N,j⟩,.inr ⟨by show d.length<600;omega,_,b7.o,.inl ⟨hcode,rfl⟩⟩,rfl,h9.o.put6 d4.o _ _ _ _ _ _,Ax (by omega) a8.o _ _ _ _ _ _,d2.o⟩
 subst hcode;obtain ⟨i0,hi,l9,m0,m1⟩:=info_parts S1;have t5:=(HT.o.below (bR.alloc nL (.cells #[.string ⟨f.toArray⟩] 9))).c5;have m2:=HT.o.c5;obtain ⟨O,j4⟩:∃ L,d++[f]=L:=⟨_,rfl⟩;have d1:Hid (d++[f]=O):=j4;clear j4
 have HP:Hid (∀ v5 w5,w5.ownsRow base 9 1 v5 (d.length+1) (Am d++[.string ⟨f.toArray⟩])->(V.alloc (.cells #[.string ⟨f.toArray⟩] 9)).grownBy w5 (Value.slice N d.length j).ownBlock ->
   ∃ Y k5,v5=.slice Y O.length k5/\w5.ownsRow base 9 1 (.slice Y O.length k5) O.length (Am O)/\Z6 A.heap.size (qzI X) (.slice o2 T.length M) (.slice a2 R.length C) (.slice c2 S.length F) (.slice l2 W.length J) (.slice N d.length j) w5/\Z6 (w.heap.size+1) (qzI 0) (.slice none 0 0) (.slice none 0 0) (.slice none 0 0) (.slice none 0 0) (.slice none 0 0) w5/\A.grownBy w5 (Value.slice N d.length j).ownBlock/\BW w w5/\Im Y A.heap.size):=by
  intro v5 w5 o5 g5;have k1:=d9.o
  have j9:some A.heap.size≠(Value.slice N d.length j).ownBlock:=fun e=>by have:=b2.o _ e.symm;omega
  have k0:some (w.heap.size+1)≠(Value.slice N d.length j).ownBlock:=fun e=>by have:=b2.o _ e.symm;omega
  have ga:=World.grownBy_alloc V (.cells #[.string ⟨f.toArray⟩] 9) (Value.slice N d.length j).ownBlock;have gv:=ga.trans g5
  have e1:d.length+1=O.length:=by rw [<- d1.o];simp
  have e2:Am d++[.string ⟨f.toArray⟩]=Am O:=by rw [<- d1.o,F6];rfl
  rw [e1,e2] at o5;obtain ⟨Y,k5,hv⟩:=Hb o5;subst hv
  refine ⟨Y,k5,rfl,o5,HT.o.grown gv j9,d8.o.grown gv k0,(k3.o _).trans gv,a8.o.grown gv a8.o.size (fun B hB=>by have:=b2.o B hB;omega),?_⟩
  intro x hx e;subst hx;obtain ⟨cQ,j7⟩:=i9.o;have hT:w5.heap[A.heap.size]?=some (.cells cQ 31):=(gv.block _ k1.2.2.2 j9).trans j7
  rcases o5.2 with ⟨h,_⟩ | ⟨g,cap,cr,h,_,hg,_⟩
  ·cases h
  ·have l8:x.block=g:=by
     injection h with h _ _
     injection h with h
     rw [h]
   rw [<- l8,e,hT] at hg
   injection hg with hg
   injection hg with _ h2
   exact absurd h2 (by decide)
 have i5:Hid ((V.alloc (.cells #[.string ⟨f.toArray⟩] 9)).ownsRow base 9 1 (.slice N d.length j) d.length (Am d)):=i3.o.alloc _
 go_upto_region 8 with (at_builtin;refine wpList_append_own _ rfl (.tmp 26) (.tmp 28) 23 rfl base 9 i0 (.string ⟨#[]⟩) 1 16 underlying23 hi l9 m0 m1 rfl (by decide) _ _ _ rfl i5.o ⟨V.heap.size,0,none⟩ 1 1 [.string ⟨f.toArray⟩] rfl rfl (World.news_of_block (heap_alloc_new V _)) (Rf _) (by unfold maxLen;omega) (by omega) (by have:=d9.o;simp;omega) ?_;intro v5 w5 o5 g5 _;obtain ⟨Y,k5,l7,o6,zt,zr,gg,bb,b9⟩:=HP.o v5 w5 o5 g5;subst l7;have y5:=zt.c5;have f5:=zt.z5;have i4:Hid _:=o6;have j3:Hid _:=zt;have j2:Hid _:=zr;have h6:Hid _:=gg;have h4:Hid _:=bb;have i6:Hid _:=b9;clear o5 g5 o6 zt zr gg bb b9)
 obtain ⟨u6,U⟩:∃ u,u=w5.setCell ⟨A.heap.size,5,none⟩ (.slice Y O.length k5):=⟨_,rfl⟩;have k1:=d9.o
 have l4:Hid (Z6 A.heap.size (qzI X) (.slice o2 T.length M) (.slice a2 R.length C) (.slice c2 S.length F) (.slice l2 W.length J) (.slice Y O.length k5) u6):=by rw [Hid,U];exact j3.o.set5 _
 have l3:Hid (Z6 (w.heap.size+1) (qzI 0) (.slice none 0 0) (.slice none 0 0) (.slice none 0 0) (.slice none 0 0) (.slice none 0 0) u6):=by rw [Hid,U];exact j2.o.far (by omega)
 have k2:Hid (BW w u6):=by rw [Hid,U];exact h4.o.setCell (show w.heap.size<=A.heap.size by omega) _
 have k4:Hid (A.grownBy u6 (Value.slice N d.length j).ownBlock):=by rw [Hid,U];exact aC h6.o nL
 have d3:Hid (u6.ownsRow base 9 1 (.slice Y O.length k5) O.length (Am O)):=by
  rw [Hid,U];refine World.ownsRow.kept i4.o (An _ _ _ _) ?_
  by_cases e:(Value.slice Y O.length k5).ownBlock=none
  ·exact .inl e
  ·refine .inr fun e2=>?_
   cases Y with
   | none=>simp [Value.ownBlock] at e
   | some x =>
    have hx:x.block=A.heap.size:=by simpa [Value.ownBlock] using e2
    exact i6.o x rfl hx
 rw [<- U];clear U j3 j2 h4 h6 i4 i6 i5 HP y5 f5 t5 m2 HT i9 j1 d8 a8 h9 i3;obtain ⟨t0,t1,t2,t3,t4,t5,-,-,-,-,-,-⟩:=l4.o;obtain ⟨q0,q1,q2,q3,q4,q5,p0,p1,p2,p3,p4,p5⟩:=l3.o;go_wp2
 refine bodyPost_ret (by simp [results,results31,go_sem,q0,q1,q2,q3,q4,q5];try rfl) rfl ?_
 obtain ⟨pe,pa,pc,pl⟩:=k9.o;have hK:=k6.o;have G:=a7.o;have b6:=d4.o;have b5:=k4.o;have H:=b2.o
 have HF:Aq u6 ⟨X,T,R,S,W,O⟩ ⟨o2,M,a2,C,c2,F,l2,J,Y,k5⟩ :=
  ⟨hK.off.far b5 (fun B e=>Mz (.inl pe) G.1 (H B e).1 (H B e).2),hK.az.far b5 (fun B e=>Mz pa G.2.1 (H B e).1 (H B e).2),hK.cs.far b5 (fun B e=>Mz pc G.2.2.1 (H B e).1 (H B e).2),hK.ls.far b5 (fun B e=>Mz pl G.2.2.2 (H B e).1 (H B e).2),Ep d3.o⟩
 have HQ:Wq ⟨o2,M,a2,C,c2,F,l2,J,Y,k5⟩ (w.heap.size+1) :=
  ⟨Ky (n:=u2.heap.size) (.inl pe) b6.o (by omega),Ky pa b6.a (by omega),Ky pc b6.c (by omega),Ky pl b6.l (by omega),Bb (Cw d3.o) (by omega)⟩
 refine ⟨(⟨X,T,R,S,W,O⟩,0),⟨o2,M,a2,C,c2,F,l2,J,Y,k5⟩,.inr ⟨by show d.length<600;omega,_,b7.o,.inr ⟨rfl,by rw [<- d1.o]⟩⟩,rfl,HF.put6 HQ _ _ _ _ _ _,Ax (by omega) k2.o _ _ _ _ _ _,?_⟩
 have i:=d2.o
 exact ⟨pe ▸ i.o,U7 pa i.a (by omega),U7 pc i.c (by omega),U7 pl i.l (by omega),Ey (Cw d3.o) (by omega)⟩
theorem Ac4 (x n:Int):(vE x n).length<=18:=by
 rcases vQ x n with h | ⟨a,m,_,_,f,v,j,h⟩
 ·rw [h];simp
 ·rw [h,wZ f j];omega
structure LS (B g:Nat) (w:World) (b:Bk) (p:Bp) (u:World):Prop where
 z0:u.cell? ⟨w.heap.size,0,none⟩=some (qzI b.today)
 z2:u.cell? ⟨w.heap.size,2,none⟩=some (.slice p.a b.az.length p.ac)
 z3:u.cell? ⟨w.heap.size,3,none⟩=some (.slice p.c b.cs.length p.cc)
 cu:A2 B u g
 gr:w.grownBy u (some g)
 az:Ar u p.a b.az
 cs:A0 u p.c b.cs
 lt:g<w.heap.size
 oa:Im p.a g
 oc:Im p.c g
theorem LS.call {B g:Nat} {w:World} {b:Bk} {p:Bp} {u d:World} (q:LS B g w b p u) (c:A2 B d g) (r:u.grownBy d (some g)):LS B g w b p d:=by
 have hl:=q.lt
 refine ⟨r.cell (a:=⟨w.heap.size,0,none⟩) q.z0 (by simp;omega),r.cell (a:=⟨w.heap.size,2,none⟩) q.z2 (by simp;omega),r.cell (a:=⟨w.heap.size,3,none⟩) q.z3 (by simp;omega),c,q.gr.trans r,q.az.far r (fun B' e=>by cases e;exact q.oa),q.cs.far r (fun B' e=>by cases e;exact q.oc),q.lt,q.oa,q.oc⟩
theorem mR {w w':World} (h:BW w w') (r:Option Nat):w.grownBy w' r:=⟨h.os,h.tape,h.output,h.size,fun k hk _=>h.block k hk⟩
theorem LS.below {B g:Nat} {w:World} {b:Bk} {p:Bp} {u d:World} (q:LS B g w b p u) (h:BW u d):LS B g w b p d:=q.call (B9 q.cu h) (mR h _)
theorem LS.alloc {B g:Nat} {w:World} {b:Bk} {p:Bp} {u:World} (q:LS B g w b p u) (o:Obj):LS B g w b p (u.alloc o):=q.below (bR.alloc nL _)
theorem LS.drew {B g:Nat} {w:World} {b:Bk} {p:Bp} {u:World} (q:LS B g w b p u):LS B g w b p u.drew:=q.below (bR.drew)
theorem LS.new {B g:Nat} {w:World} {b:Bk} {p:Bp} (y:A2 B w g) (A:Aq w b p) (ho:Wq p g) (t:TypeId) :
  LS B g w b p (w.alloc (.cells (qcB b p) t)):=by
 have z:=Z6.new w (qzI b.today) (.slice p.o b.off.length p.oc) (.slice p.a b.az.length p.ac) (.slice p.c b.cs.length p.cc) (.slice p.l b.ls.length p.lc) (.slice p.g b.log.length p.gc) t;have i:Below w.heap.size w (w.alloc (.cells (qcB b p) t)):=bR.alloc nL _;have hb:=L2 y
 exact ⟨z.c0,z.c2,z.c3,A3 y _,mR i _,A.az.below i,A.cs.below i,by omega,ho.a,ho.c⟩
theorem uX {B g:Nat} {w:World} {b:Bk} {p:Bp} {u:World} (q:LS B g w b p u) (n:Int) (s:n<=1099511627776) :
  Calls prog 79 #[.pointer (some (qzA g 0)),qzI n] u fun e d=>∃ x:Int,e=.returned (qzI x)/\0<=x/\(1<=n->x<n)/\LS B g w b p d :=
 (K8 g n u q.cu s).mono (by rintro e d ⟨x,f,v,j,c,r⟩;exact ⟨x,f,v,j,q.call c r⟩)
theorem Aer {B g:Nat} {w:World} {b:Bk} {p:Bp} {u:World} (q:LS B g w b p u) (n:Int) (s:n<=1099511627776) :
  Calls prog 97 #[.pointer (some (qzA g 0)),qzI n] u fun e d=>∃ x:Bool,e=.returned (.bool x)/\LS B g w b p d :=
 (tW g n u q.cu s).mono (by rintro e d ⟨x,f,c,r⟩;exact ⟨x,f,q.call c r⟩)
theorem Aej {B g:Nat} {w:World} {b:Bk} {p:Bp} {u:World} (q:LS B g w b p u) :
  Calls prog 131 #[.pointer (some (qzA g 0)),.slice (some ⟨u.heap.size,0,none⟩) 2 2] (u.alloc (.cells #[qzI 840,qzI 978] 3)) fun e d=>∃ x:Int,e=.returned (qzI x)/\LS B g w b p d :=
 (W8 g u.heap.size 2 [840,978] (u.alloc (.cells #[qzI 840,qzI 978] 3)) (A3 q.cu _) (hF q.cu) (uA u [840,978] #[qzI 840,qzI 978] rfl) (by decide) (by decide)).mono (by rintro e d ⟨x,f,-,c,r⟩;exact ⟨x,f,(q.alloc _).call c r⟩)
theorem S8 (a b:ByteArray):(a++b).size=a.size+b.size:=by simp
def NoB (x:List UInt8):Prop:=∀ c ∈ x,c≠32
theorem O9 {x:List UInt8} (h:x.all (fun c=>c != 32)=true):NoB x:=fun c f e=>by
 have:=List.all_eq_true.1 h c f
 rw [e] at this
 exact absurd this (by decide)
theorem Aau {x r:List UInt8} (d:NoB x):∀ i,i<=x.length->B0 (x++32::r) i=([],0):=by
 intro i
 induction i with
 | zero=>intro _;rfl
 | succ i ih =>
  intro hi
  have hg:(x++32::r).getD i 0=x[i]:=by
   rw [List.getD_eq_getElem?_getD,List.getElem?_append_left (by omega),List.getElem?_eq_getElem (by omega)]
   rfl
  rw [J7 (by rw [hg];exact d _ (List.getElem_mem _))]
  exact ih (by omega)
theorem Acf (x r:List UInt8) (s:Nat):(x++32::r).drop (x.length+1+s)=r.drop s:=by
 rw [List.drop_append,List.drop_of_length_le (by omega),List.nil_append,show x.length+1+s - x.length=s+1 from by omega]
 rfl
theorem Aa7 {x r:List UInt8} (d:NoB x):∀ j,j<=r.length->B0 (x++32::r) (x.length+1+j)=(x::(B0 r j).1,x.length+1+(B0 r j).2):=by
 intro j
 induction j with
 | zero =>
  intro _
  have hg:(x++32::r).getD x.length 0=32:=by simp [List.getD_eq_getElem?_getD]
  show B0 (x++32::r) (x.length+1)=_
  rw [Kw hg,Aau d _ nL]
  simp [B0]
 | succ j ih =>
  intro u
  have h:=ih (by omega)
  have hg:(x++32::r).getD (x.length+1+j) 0=r.getD j 0:=by
   rw [List.getD_eq_getElem?_getD,List.getElem?_append_right (by omega),show x.length+1+j - x.length=j+1 from by omega]
   simp [List.getD_eq_getElem?_getD]
  have t:=(Mo r j).1
  by_cases h32:r.getD j 0=32
  ·rw [show x.length+1+(j+1)=(x.length+1+j)+1 from by omega,Kw (by rw [hg];exact h32),h,Kw h32]
   simp only [List.cons_append]
   rw [Acf,show x.length+1+j - (x.length+1+(B0 r j).2)=j - (B0 r j).2 from by omega]
   rfl
  ·rw [show x.length+1+(j+1)=(x.length+1+j)+1 from by omega,J7 (by rw [hg];exact h32),h,J7 h32]
theorem Pl {x r:List UInt8} (d:NoB x):Ab (x++32::r)=x::Ab r:=by
 have h:=Aa7 d (r:=r) r.length nL
 have hl:(x++32::r).length=x.length+1+r.length:=by simp;omega
 rw [Ab,hl,h,Ab]
 simp only [List.cons_append]
 rw [Acf]
def K3 (l:List UInt8):Prop:=(Bq (Ab l)=true->Al (Ab l) 1≠[]/\Ae (Al (Ab l) 2)<=8)/\(Da (Ab l)=true->Ae (Al (Ab l) 1)<=8/\Ae (Al (Ab l) 2)<=8)
theorem zB {s:List UInt8} (h:Dr s<=8):Ae s<=8:=by
 unfold Ae
 split
 ·omega
 ·split
  ·omega
  ·exact h
theorem Aa0 {m:Nat} (h:m<=8):Dr [UInt8.ofNat (48+m)]<=8:=by
 rcases (show m=0\/m=1\/m=2\/m=3\/m=4\/m=5\/m=6\/m=7\/m=8 from by omega) with rfl | rfl | rfl | rfl | rfl | rfl | rfl | rfl | rfl <;> decide
theorem Ad1 {m:Nat} (h:m<=9):NoB [UInt8.ofNat (48+m)]:=by
 intro c f;rw [List.mem_singleton] at f;subst f
 rcases (show m=0\/m=1\/m=2\/m=3\/m=4\/m=5\/m=6\/m=7\/m=8\/m=9 from by omega) with rfl | rfl | rfl | rfl | rfl | rfl | rfl | rfl | rfl | rfl <;> decide
theorem Sx {x:List UInt8} (d:NoB x) (p:x≠Dy) (q:x≠I7) (r:List UInt8):K3 (x++32::r):=by
 have e:Al (Ab (x++32::r)) 0=x:=by rw [Pl d];rfl
 constructor
 ·intro h
  unfold Bq at h;rw [e,decide_eq_false p] at h
  cases h
 ·intro h
  unfold Da at h;rw [e,decide_eq_false q] at h
  cases h
theorem uV {A D:List UInt8} (k:A≠[]) (g:NoB A) (n:NoB D) (h:Dr D<=8) (r:List UInt8):K3 ([97,117,116,104]++32::(A++32::(D++32::r))):=by
 have e:Ab ([97,117,116,104]++32::(A++32::(D++32::r)))=[97,117,116,104]::A::D::Ab r:=by
  rw [Pl (O9 (by decide)),Pl g,Pl n]
 constructor
 ·intro _
  rw [e];exact ⟨k,zB h⟩
 ·intro h
  unfold Da at h
  rw [e,show Al ([97,117,116,104]::A::D::Ab r) 0=[97,117,116,104] from rfl,show decide (([97,117,116,104]:List UInt8)=I7)=false from by decide] at h
  cases h
theorem uL {A D:List UInt8} (g:NoB A) (n:NoB D) (h:Dr A<=8) (o:Dr D<=8) (r:List UInt8):K3 ([112,97,121]++32::(A++32::(D++32::r))):=by
 have e:Ab ([112,97,121]++32::(A++32::(D++32::r)))=[112,97,121]::A::D::Ab r:=by
  rw [Pl (O9 (by decide)),Pl g,Pl n]
 constructor
 ·intro h
  unfold Bq at h
  rw [e,show Al ([112,97,121]::A::D::Ab r) 0=[112,97,121] from rfl,show decide (([112,97,121]:List UInt8)=Dy)=false from by decide] at h
  cases h
 ·intro _
  rw [e];exact ⟨zB h,zB o⟩
structure Par (b:Bk):Prop where
 ia:∀ a ∈ b.az,1<=a.iss/\a.iss<=8
 pc:∀ c ∈ b.cs,(1<=c.iss/\c.iss<=8)/\(1<=c.acq/\c.acq<=8)
end Go.Proofs.YtomiclakhjncbaaGreatDoor
namespace Go.Proofs.YtomiclakhjncbaaGreatDoor
open Go.Proofs.Tryz
def Aba (f:Int->Int->Option Int) (a c:Int):Int:=(f a c).getD 0
theorem zL (f:Int->Int->Option Int) (a c m d g:Int):Aba (iD f a c m) d g=Aba f d g+if d=a/\g=c then m else 0:=by
 unfold Aba iD
 by_cases h:d=a/\g=c
 ·rw [if_pos h,if_pos h,h.1,h.2]
  split
  ·rename_i k;simp;omega
  ·simp
 ·rw [if_neg h,if_neg h];simp
theorem xR (ls:List Ln) (a c:Int):K2 ls a c=Aba (Cf ls) a c:=by
 unfold Aba
 induction ls with
 | nil=>rfl
 | cons x r ih =>
  simp only [K2,Cf]
  split
  ·rfl
  ·exact ih
theorem Acl {ls:List Ln} (hs:Va ls) (e:En) (b:e.2.2.2≠0):Cf (G5 ls e)=iD (iD (Cf ls) e.1 e.2.2.1 (-e.2.2.2)) e.2.1 e.2.2.1 e.2.2.2:=by
 unfold G5
 rw [Tb (Rn hs _ _ _) _ _ b,Tb hs _ _ (by omega)]
theorem wL {ls:List Ln} {e:En} (h:Cj ls e=true):(At ls=true/\Bt e=true)/\At (G5 ls e)=true:=by
 simp only [Cj,Bool.and_eq_true] at h
 exact h
theorem Ab9 {ls:List Ln} {e:En} (h:Cj ls e=true) (a c:Int):K2 (G5 ls e) a c - K2 ls a c=(if a=e.1/\c=e.2.2.1 then -e.2.2.2 else 0)+if a=e.2.1/\c=e.2.2.1 then e.2.2.2 else 0:=by
 obtain ⟨⟨i,j⟩,_⟩:=wL h;have hs:=Qn (Dq i).1;have b:=(Lq j).2.2.2.2.1
 rw [xR,xR,Acl hs e (by omega),zL,zL]
 omega
theorem yG {ls:List Ln} (h:At ls=true) (a c:Int):-1000000000000<=K2 ls a c/\K2 ls a c<=1000000000000:=by
 have b:=Dv (Dq h).1;clear h
 induction ls with
 | nil=>simp [K2]
 | cons x r ih =>
  simp only [K2]
  split
  ·exact (Ig (b x (List.mem_cons_self ..))).2.2.1
  ·exact ih fun y hy=>b y (List.mem_cons_of_mem _ hy)
end Go.Proofs.YtomiclakhjncbaaGreatDoor
namespace Go.Proofs.YtomiclakhjncbaaGreatDoor
open Go.RowKit Go.Proofs.Tryz
theorem Aai (cs:List Cs) (k:Nat) (h:k<cs.length):cs.take (k+1)=cs.take k++[A8 cs k]:=by rw [List.take_succ_eq_append_getElem h,bT h]
def uJ (P:Cs->Bool) (f:Cs->Int) (s:Int) (c:Cs):Int:=if P c=true then IntKind.i64.wrap (s+f c) else s
def R3 (P:Cs->Bool) (f:Cs->Int) (cs:List Cs):Int:=cs.foldl (uJ P f) 0
theorem wC (P:Cs->Bool) (f:Cs->Int) (cs:List Cs) (k:Nat) (h:k<cs.length):R3 P f (cs.take (k+1))=uJ P f (R3 P f (cs.take k)) (A8 cs k):=by
 rw [Aai cs k h,R3,List.foldl_append];rfl
theorem Adh {P:Cs->Bool} {f:Cs->Int} {cs:List Cs} {k:Nat} (h:k<cs.length) (b:P (A8 cs k)=true):R3 P f (cs.take (k+1))=IntKind.i64.wrap (R3 P f (cs.take k)+f (A8 cs k)):=by
 rw [wC P f cs k h,uJ,if_pos b]
theorem Abv {P:Cs->Bool} {f:Cs->Int} {cs:List Cs} {k:Nat} (h:k<cs.length) (b:P (A8 cs k)=false):R3 P f (cs.take (k+1))=R3 P f (cs.take k):=by
 rw [wC P f cs k h,uJ,if_neg (by rw [b];decide)]
theorem Ado (x:Int):-9223372036854775808<=IntKind.i64.wrap x/\IntKind.i64.wrap x<=9223372036854775807:=by
 rw [IntKind.wrap_i64];omega
theorem Abe (P:Cs->Bool) (f:Cs->Int) (cs:List Cs):∀ s:Int,-9223372036854775808<=s/\s<=9223372036854775807->-9223372036854775808<=cs.foldl (uJ P f) s/\cs.foldl (uJ P f) s<=9223372036854775807:=by
 induction cs with
 | nil=>intro s h;exact h
 | cons c r ih =>
  intro s h;refine ih _ ?_;unfold uJ
  split
  ·exact Ado _
  ·exact h
theorem zK (P:Cs->Bool) (f:Cs->Int) (cs:List Cs):-9223372036854775808<=R3 P f cs/\R3 P f cs<=9223372036854775807:=Abe P f cs 0 (by omega)
def L4 (x:Int) (c:Cs):Bool:=c.cur == x
def Z7 (c:Cs):Int:=wrap64 (c.am - c.bk)
def Qw (a:Int) (c:Cs):Int :=
 if a=9999 then wrap64 ((if a=c.acq then wrap64 ((if a=c.iss then wrap64 (0 - Z7 c) else 0)+Z7 c) else (if a=c.iss then wrap64 (0 - Z7 c) else 0))+c.fee)
 else (if a=c.acq then wrap64 ((if a=c.iss then wrap64 (0 - Z7 c) else 0)+Z7 c) else (if a=c.iss then wrap64 (0 - Z7 c) else 0))
def qpS (E:Int->Int):Nat->Int
 | 0=>0
 | n+1=>IntKind.i64.wrap (qpS E n+E ((n:Int)+1))
def qpT (E:Int->Int):Nat->Int
 | 0=>0
 | n+1=>qpT E n+E ((n:Int)+1)
theorem Acn (x:Int):∃ k:Int,IntKind.i64.wrap x=x+k*18446744073709551616:=by
 rw [IntKind.wrap_i64]
 exact ⟨-((x+9223372036854775808) / 18446744073709551616),by omega⟩
theorem uD (x:Int):∃ k:Int,wrap64 x=x+k*18446744073709551616:=by
 unfold wrap64
 exact ⟨-((x+9223372036854775808) / 18446744073709551616),by omega⟩
def tot (P:Cs->Bool) (f:Cs->Int):List Cs->Int
 | []=>0
 | c::r=>(if P c=true then f c else 0)+tot P f r
theorem zQ (P:Cs->Bool) (f:Cs->Int) (cs:List Cs):∃ k:Int,R3 P f cs=tot P f cs+k*18446744073709551616:=by
 unfold R3
 suffices h:∀ s:Int,∃ k:Int,cs.foldl (uJ P f) s=s+tot P f cs+k*18446744073709551616 by
  obtain ⟨k,o⟩:=h 0
  exact ⟨k,by rw [o];omega⟩
 induction cs with
 | nil=>intro s;exact ⟨0,by simp [tot]⟩
 | cons c r ih =>
  intro s;rw [List.foldl_cons,tot];obtain ⟨k,o⟩:=ih (uJ P f s c);rw [o];unfold uJ
  split
  ·obtain ⟨j,m⟩:=Acn (s+f c)
   exact ⟨k+j,by rw [m];omega⟩
  ·exact ⟨k,by omega⟩
theorem Adw (a:Int) (c:Cs) (h:a≠9999):∃ k:Int,Qw a c=(if a=c.acq then Z7 c else 0) - (if a=c.iss then Z7 c else 0)+k*18446744073709551616:=by
 unfold Qw;rw [if_neg h]
 generalize Z7 c=n
 by_cases l:a=c.iss
 ·by_cases d:a=c.acq
  ·rw [if_pos l,if_pos d,if_pos l,if_pos d]
   obtain ⟨i,hi⟩:=uD (0 - n);obtain ⟨j,m⟩:=uD (wrap64 (0 - n)+n)
   exact ⟨i+j,by rw [m,hi];omega⟩
  ·rw [if_pos l,if_neg d,if_pos l,if_neg d]
   obtain ⟨i,hi⟩:=uD (0 - n)
   exact ⟨i,by rw [hi]⟩
 ·by_cases d:a=c.acq
  ·rw [if_neg l,if_pos d,if_neg l,if_pos d]
   obtain ⟨j,m⟩:=uD (0+n)
   exact ⟨j,by rw [m];omega⟩
  ·rw [if_neg l,if_neg d,if_neg l,if_neg d]
   exact ⟨0,by omega⟩
theorem Aex (q n:Int) (h:1<=q/\q<=8):qpT (fun a=>if a=q then n else 0) 8=n:=by
 rcases (show q=1\/q=2\/q=3\/q=4\/q=5\/q=6\/q=7\/q=8 from by omega) with rfl | rfl | rfl | rfl | rfl | rfl | rfl | rfl <;> simp [qpT]
theorem zA {P:Cs->Bool} {f g:Cs->Int} {cs:List Cs} (h:∀ c ∈ cs,∀ s:Int,IntKind.i64.wrap (s+f c)=IntKind.i64.wrap (s+g c)):∀ s:Int,cs.foldl (uJ P f) s=cs.foldl (uJ P g) s:=by
 induction cs with
 | nil=>intro s;rfl
 | cons c r ih =>
  intro s;rw [List.foldl_cons,List.foldl_cons]
  have e:uJ P f s c=uJ P g s c:=by
   unfold uJ;rw [h c (List.mem_cons_self ..) s]
  rw [e]
  exact ih (fun c hc=>h c (List.mem_cons_of_mem _ hc)) _
theorem Aeq {b:Bk} (h:Par b) (p:Int):R3 (L4 p) (Qw 9999) b.cs=R3 (L4 p) Cs.fee b.cs:=by
 unfold R3
 refine zA (fun c hc s=>?_) 0
 obtain ⟨l,d⟩:=h.pc c hc
 have e:Qw 9999 c=wrap64 (0+c.fee):=by
  unfold Qw
  rw [if_pos rfl,if_neg (by omega),if_neg (by omega)]
 rw [e,IntKind.wrap_i64,IntKind.wrap_i64];unfold wrap64
 omega
end Go.Proofs.YtomiclakhjncbaaGreatDoor
namespace Go.Proofs.YtomiclakhjncbaaGreatDoor
open Go.ChangeShapes Go.WideShapes Go.ChangeAt Go.RowKit Go.Deep Go.Proofs.Tryz
section
variable {P:Program} {H:Type} {enc:TypeId×Value->H} {W:World}
end
end Go.Proofs.YtomiclakhjncbaaGreatDoor
namespace Go.Proofs.YtomiclakhjncbaaGreatDoor
open Go.RowKit Go.Proofs.Tryz
def tL (b:Bk):Prop:=D0 b/\(b.log.length:Int)+V3 b.log<=1048576
def K5 (lg:Be):List UInt8:=lg.flatMap fun r=>r++[10]
theorem wF (lg:Be):(K5 lg).length=lg.length+V3 lg:=by
 induction lg with
 | nil=>rfl
 | cons r s ih =>
  have e:K5 (r::s)=(r++[10])++K5 s:=rfl;rw [e,List.length_append,ih]
  simp [V3];omega
theorem Aaz (r:Be):Lib.joinTail [10] (r++[[]])=10::K5 r:=by
 induction r with
 | nil=>rfl
 | cons y s ih =>
  have e:Lib.joinTail [10] (y::s++[[]])=([10]++y)++Lib.joinTail [10] (s++[[]]):=rfl;rw [e,ih]
  simp [K5]
theorem Aa3 (lg:Be):Lib.join (lg++[[]]) [10]=K5 lg:=by
 cases lg with
 | nil=>rfl
 | cons x r =>
  rw [List.cons_append,Lib.join_cons,Aaz]
  simp [K5]
theorem Acx {a:Int} {c:Cs} : Qw a c=(if (a == 9999)=true then wrap64 ((if (a == c.acq)=true then wrap64 ((if (a == c.iss)=true then wrap64 (0 - Z7 c) else 0)+Z7 c) else (if (a == c.iss)=true then wrap64 (0 - Z7 c) else 0))+c.fee)
 else (if (a == c.acq)=true then wrap64 ((if (a == c.iss)=true then wrap64 (0 - Z7 c) else 0)+Z7 c) else (if (a == c.iss)=true then wrap64 (0 - Z7 c) else 0))):=by
 simp only [beq_iff_eq];rfl
theorem Abo (c:Cs) (w:World):Calls prog 152 #[cv c] w fun e w'=>e=.returned (qzI (Z7 c))/\BW w w':=by
 obtain ⟨q,l,j,am,st,y,cl,bk,v,r,z,t⟩:=c;unfold cv
 go_enter func152,ntmps152
 go_wp2;go_ret
 exact ⟨rfl,by go_grown⟩
theorem Acu (c:Cs) (a:Int) (w:World):Calls prog 106 #[cv c,qzI a] w fun e w'=>e=.returned (qzI (Qw a c))/\BW w w':=by
 have I:Hid (∀ u,Calls prog 152 #[cv c] u fun e w'=>e=.returned (qzI (Z7 c))/\BW u w'):=fun u=>Abo c u
 have b:Hid _:=@Acx a c;obtain ⟨n,hn⟩:∃ n,Z7 c=n:=⟨_,rfl⟩;rw [hn] at I b;clear hn;obtain ⟨q,l,j,am,st,y,cl,bk,v,r,z,t⟩:=c;unfold cv at I ⊢
 simp only at I b ⊢
 obtain ⟨V,hV⟩:∃ V,Qw a ⟨q,l,j,am,st,y,cl,bk,v,r,z,t⟩=V:=⟨_,rfl⟩;rw [hV] at b ⊢;clear hV;obtain ⟨U,D⟩:∃ U,U=w.alloc (.cells #[qzI q,qzI l,qzI j,qzI am,qzI st,qzI y,qzI cl,qzI bk,qzI v,.bool r,qzI z,qzI t] 61):=⟨_,rfl⟩
 have N:BW w U:=by rw [D];exact bR.alloc nL _
 have H:CB w.heap.size 0 ⟨q,l,j,am,st,y,cl,bk,v,r,z,t⟩ U:=by rw [D];exact CB.new w ⟨q,l,j,am,st,y,cl,bk,v,r,z,t⟩ _
 have HU:Hid _:=D;have F:Hid (BW w U):=N;have M:Hid (CB w.heap.size 0 ⟨q,l,j,am,st,y,cl,bk,v,r,z,t⟩ U):=H;clear D N;obtain ⟨z0,z1,z2,z3,z4,z5,z6,z7,z8,z9,z10,z11⟩:=H
 simp only [Nat.zero_add] at z0 z1 z2 z3 z4 z5 z6 z7 z8 z9 z10 z11
 go_enter func106,ntmps106
 go_upto_region 2 with fail
 rw [<- HU.o];clear HU
 cases h1:(a == q)
 ·rw [h1] at b
  cases h2:(a == l)
  ·rw [h2] at b
   cases h3:(a == 9999)
   ·rw [h3] at b
    have d:Hid _:=b.o
    simp only [Bool.false_eq_true,if_false] at d
    clear b;go_wp2;go_ret
    exact ⟨Af (by first | exact d.o.symm | simpa using d.o.symm),F.o⟩
   ·rw [h3] at b
    have d:Hid _:=b.o
    simp only [Bool.false_eq_true,if_false,if_true] at d
    clear b;go_wp2;go_ret
    exact ⟨Af (by first | exact d.o.symm | simpa using d.o.symm),F.o⟩
  ·rw [h2] at b
   go_wp2_with fail
   refine (I.o _).mono ?_;rintro e Y ⟨rfl,J⟩;have C:Hid (BW w Y):=next F.o J;replace M:Hid (CB w.heap.size 0 ⟨q,l,j,am,st,y,cl,bk,v,r,z,t⟩ Y):=M.o.below J;clear J z0 z1 z2 z3 z4 z5 z6 z7 z8 z9 z10 z11;obtain ⟨z0,z1,z2,z3,z4,z5,z6,z7,z8,z9,z10,z11⟩:=M.o
   simp only [Nat.zero_add] at z0 z1 z2 z3 z4 z5 z6 z7 z8 z9 z10 z11
   cases h3:(a == 9999)
   ·rw [h3] at b
    have d:Hid _:=b.o
    simp only [Bool.false_eq_true,if_false,if_true] at d
    clear b;go_wp2;go_ret
    exact ⟨Af (by first | exact d.o.symm | simpa using d.o.symm),C.o⟩
   ·rw [h3] at b
    have d:Hid _:=b.o
    simp only [Bool.false_eq_true,if_false,if_true] at d
    clear b;go_wp2;go_ret
    exact ⟨Af (by first | exact d.o.symm | simpa using d.o.symm),C.o⟩
 ·rw [h1] at b
  go_wp2_with fail
  refine (I.o _).mono ?_;rintro e w1 ⟨rfl,Z⟩;have m:Hid (BW w w1):=next F.o Z;replace M:Hid (CB w.heap.size 0 ⟨q,l,j,am,st,y,cl,bk,v,r,z,t⟩ w1):=M.o.below Z;clear Z z0 z1 z2 z3 z4 z5 z6 z7 z8 z9 z10 z11;obtain ⟨z0,z1,z2,z3,z4,z5,z6,z7,z8,z9,z10,z11⟩:=M.o
  simp only [Nat.zero_add] at z0 z1 z2 z3 z4 z5 z6 z7 z8 z9 z10 z11
  cases h2:(a == l)
  ·rw [h2] at b
   cases h3:(a == 9999)
   ·rw [h3] at b
    have d:Hid _:=b.o
    simp only [Bool.false_eq_true,if_false,if_true] at d
    clear b;go_wp2;go_ret
    exact ⟨Af (by first | exact d.o.symm | simpa using d.o.symm),m.o⟩
   ·rw [h3] at b
    have d:Hid _:=b.o
    simp only [Bool.false_eq_true,if_false,if_true] at d
    clear b;go_wp2;go_ret
    exact ⟨Af (by first | exact d.o.symm | simpa using d.o.symm),m.o⟩
  ·rw [h2] at b
   go_wp2_with fail
   refine (I.o _).mono ?_;rintro e Y ⟨rfl,J⟩;have C:Hid (BW w Y):=next m.o J;replace M:Hid (CB w.heap.size 0 ⟨q,l,j,am,st,y,cl,bk,v,r,z,t⟩ Y):=M.o.below J;clear J z0 z1 z2 z3 z4 z5 z6 z7 z8 z9 z10 z11;obtain ⟨z0,z1,z2,z3,z4,z5,z6,z7,z8,z9,z10,z11⟩:=M.o
   simp only [Nat.zero_add] at z0 z1 z2 z3 z4 z5 z6 z7 z8 z9 z10 z11
   cases h3:(a == 9999)
   ·rw [h3] at b
    have d:Hid _:=b.o
    simp only [Bool.false_eq_true,if_false,if_true] at d
    clear b;go_wp2;go_ret
    exact ⟨Af (by first | exact d.o.symm | simpa using d.o.symm),C.o⟩
   ·rw [h3] at b
    have d:Hid _:=b.o
    simp only [if_true] at d
    clear b;go_wp2;go_ret
    exact ⟨Af (by first | exact d.o.symm | simpa using d.o.symm),C.o⟩
theorem uY (c:Cs) (g:Nat) (ac:Int) (w:World) (L:w.cell? (qzA g 0)=some (qzI ac)) :
  Calls prog 105 #[cv c,.pointer (some (qzA g 0))] w fun e w'=>e=.returned (qzI (Qw ac c))/\BW w w':=by
 have hg:g<w.heap.size:=World.block_lt_of_cell? w _ L
 have I:Hid (∀ u,Calls prog 106 #[cv c,qzI ac] u fun e w'=>e=.returned (qzI (Qw ac c))/\BW u w'):=fun u=>Acu c ac u
 obtain ⟨V,hV⟩:∃ V,Qw ac c=V:=⟨_,rfl⟩;rw [hV] at I ⊢;clear hV;obtain ⟨q,l,j,am,st,y,cl,bk,v,r,z,t⟩:=c;unfold cv at I ⊢
 simp only at I ⊢
 obtain ⟨U,D⟩:∃ U,U=w.alloc (.cells #[qzI q,qzI l,qzI j,qzI am,qzI st,qzI y,qzI cl,qzI bk,qzI v,.bool r,qzI z,qzI t] 61):=⟨_,rfl⟩
 have N:BW w U:=by rw [D];exact bR.alloc nL _
 have H:CB w.heap.size 0 ⟨q,l,j,am,st,y,cl,bk,v,r,z,t⟩ U:=by rw [D];exact CB.new w ⟨q,l,j,am,st,y,cl,bk,v,r,z,t⟩ _
 have HU:Hid _:=D;have a7:U.cell? (qzA g 0)=some (qzI ac):=(N.cell (p:=(qzA g 0)) hg).trans L;have F:Hid (BW w U):=N;clear D N L;obtain ⟨z0,z1,z2,z3,z4,z5,z6,z7,z8,z9,z10,z11⟩:=H
 simp only [Nat.zero_add] at z0 z1 z2 z3 z4 z5 z6 z7 z8 z9 z10 z11
 go_enter func105,ntmps105
 go_upto_region 1 with fail
 rw [<- HU.o];clear HU;go_wp2_with fail
 refine (I.o _).mono ?_;rintro e w1 ⟨rfl,Z⟩;have m:Hid (BW w w1):=next F.o Z;clear Z z0 z1 z2 z3 z4 z5 z6 z7 z8 z9 z10 z11 a7;go_wp2;go_ret;exact ⟨rfl,m.o⟩
theorem uM (ao:Option Addr) (cap:Nat) (cs:List Cs) (x:Int) (g:Nat) (ac:Int) (w:World) (hz:A0 w ao cs) (hn:cs.length<=1048576) (L:w.cell? (qzA g 0)=some (qzI ac)) :
  Calls prog 104 #[.slice ao cs.length cap,qzI x,.func (.func 105) #[] #[.pointer (some (qzA g 0))]] w fun e w'=>e=.returned (qzI (R3 (L4 x) (Qw ac) cs))/\BW w w':=by
 have HX:Hid (A0 w ao cs):=hz
 have HG:Hid (∀ u,BW w u->u.cell? (qzA g 0)=some (qzI ac)):=fun u h=>(h.cell (p:=(qzA g 0)) (World.block_lt_of_cell? w _ L)).trans L
 clear L;clear hz
 go_enter func104,ntmps104
 go_wp2
 go_loopw [7,12] (fun s i wr=>∃ k:Nat,k<=cs.length/\i=qzI k/\s=qzI (R3 (L4 x) (Qw ac) (cs.take k))/\BW w wr) (fun _ i _=>cs.length - (intOf i).toNat)
 case atStart=>exact ⟨0,Nat.zero_le _,rfl,rfl,bR⟩
 case round =>
  obtain ⟨k,hk,rfl,rfl,O⟩:=hrel;have R:Hid (BW w wr):=O
  by_cases hlt:k<cs.length
  ·have a9:(k:Int)<(cs.length:Int):=by omega
   obtain ⟨cb,off,rfl,a6,a3⟩:=(HX.o.below O).at hlt;have G:Hid _:=@Adh (L4 x) (Qw ac) cs k hlt;have A:Hid _:=@Abv (L4 x) (Qw ac) cs k hlt;obtain ⟨⟨q,l,j,am,st,y,cl,bk,v,r,z,t⟩,L⟩:∃ f,A8 cs k=f:=⟨_,rfl⟩;rw [L] at a3 G A;obtain ⟨y0,y1,y2,y3,y4,y5,y6,y7,y8,y9,a4,a5⟩:=a3
   simp only at y0 y1 y2 y3 y4 y5 y6 y7 y8 y9 a4 a5
   obtain ⟨S,hS⟩:∃ S,R3 (L4 x) (Qw ac) (cs.take k)=S:=⟨_,rfl⟩;rw [hS] at G A ⊢;obtain ⟨B,hB⟩:∃ B,(Qw ac) ⟨q,l,j,am,st,y,cl,bk,v,r,z,t⟩=B:=⟨_,rfl⟩;rw [hB] at G;clear L hS O a6;obtain ⟨U,D⟩:∃ U,U=wr.alloc (.cells #[qzI q,qzI l,qzI j,qzI am,qzI st,qzI y,qzI cl,qzI bk,qzI v,.bool r,qzI z,qzI t] 61):=⟨_,rfl⟩
   have N:BW wr U:=by rw [D];exact bR.alloc nL _
   have H:CB wr.heap.size 0 ⟨q,l,j,am,st,y,cl,bk,v,r,z,t⟩ U:=by rw [D];exact CB.new wr ⟨q,l,j,am,st,y,cl,bk,v,r,z,t⟩ _
   have m:Hid (BW w U):=next R.o N
   have W:Hid (Calls prog 105 #[.agg #[qzI q,qzI l,qzI j,qzI am,qzI st,qzI y,qzI cl,qzI bk,qzI v,.bool r,qzI z,qzI t],.pointer (some (qzA g 0))] U fun e w'=>e=.returned (qzI B)/\BW U w'):=by
    have:=uY ⟨q,l,j,am,st,y,cl,bk,v,r,z,t⟩ g ac U (HG.o _ m.o)
    rw [hB] at this;exact this
   go_upto_region 5 with fail
   rw [<- D];clear D N R y0 y1 y2 y3 y4 y5 y6 y7 y8 y9 a4 a5 hB;obtain ⟨z0,z1,z2,z3,z4,z5,z6,z7,z8,z9,z10,z11⟩:=H
   simp only [Nat.zero_add] at z0 z1 z2 z3 z4 z5 z6 z7 z8 z9 z10 z11
   by_cases h1:j=x
   ·have X:(j == x)=true:=by simpa using h1
    have b:Hid (R3 (L4 x) (Qw ac) (cs.take (k+1))=IntKind.i64.wrap (S+B)):=G.o X;obtain ⟨T,hT⟩:∃ T,IntKind.i64.wrap (S+B)=T:=⟨_,rfl⟩;rw [hT] at b;clear G A h1;go_wp2_with fail
    refine W.o.mono ?_;rintro e Y ⟨rfl,J⟩;have C:Hid (BW w Y):=next m.o J;clear J W m z0 z1 z2 z3 z4 z5 z6 z7 z8 z9 z10 z11;go_wp2
    go_roundw
    case rel=>exact ⟨k+1,by omega,by go_num,by rw [b.o],C.o⟩
    case measure=>simp [intOf];omega
   ·have X:(j == x)=false:=by simpa using h1
    have b:Hid (R3 (L4 x) (Qw ac) (cs.take (k+1))=S):=A.o X;clear G A h1 W;go_wp2
    go_roundw
    case rel=>exact ⟨k+1,by omega,by go_num,by rw [b.o],m.o⟩
    case measure=>simp [intOf];omega
  ·have a8:k=cs.length:=by omega
   subst a8
   have a9:¬ (cs.length:Int)<(cs.length:Int):=by omega
   rw [List.take_length];obtain ⟨S,hS⟩:∃ S,R3 (L4 x) (Qw ac) cs=S:=⟨_,rfl⟩;rw [hS];have b:Hid _:=hS;clear hS O;go_wp2;go_ret;exact ⟨Af b.o.symm,R.o⟩
theorem uG (b:Bk) (p:Bp) (av x:Int) (w:World) (s:Aq w b p) (r:D0 b) :
  Calls prog 47 #[C5 b p,qzI av,qzI x] w fun e w'=>e=.returned (qzI (R3 (L4 x) (Qw av) b.cs))/\BW w w':=by
 obtain ⟨W,d⟩:∃ W,W=(w.alloc (.cells (qcB b p) 31)).alloc (.cells #[qzI av] 3):=⟨_,rfl⟩
 have m:BW w W:=by rw [d];go_grown
 have t:S6 w.heap.size b p W:=by rw [d];exact (S6.new w b p _).below (bR.alloc nL _)
 have j:Hid (W.cell? ⟨w.heap.size+1,0,none⟩=some (qzI av)):=by rw [Hid,d];simp
 have n:Hid (A0 W p.c b.cs):=s.cs.below m;have f:=r.2.2.1;have k:Hid _:=d;have i:Hid (BW w W):=m;clear s r d m;obtain ⟨td,D,az,cs,ls,lg⟩:=b;obtain ⟨o,oc,a,ac,c,cc,l,lc,g,gc⟩:=p;unfold C5
 simp only at k n f t ⊢
 obtain ⟨u,v,y,z,A,B⟩:=t
 simp only at u v y z A B
 go_enter func47,ntmps47
 go_upto_region 1 with fail
 rw [<- k.o];clear k;go_wp2_with fail
 refine (uM _ _ _ _ _ _ _ n.o f j.o).mono ?_;rintro e C ⟨rfl,q⟩;have h:Hid (BW w C):=next i.o q;clear q u v y z A B;go_wp2;go_ret;exact ⟨rfl,h.o⟩
end Go.Proofs.YtomiclakhjncbaaGreatDoor
