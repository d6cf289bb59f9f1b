import Derived.Test.YtomiclakhjncbaaGreatDoorKCAuLaw
import Derived.Test.YtomiclakhjncbaaGreatDoorKCSLed2
import Derived.Test.YtomiclakhjncbaaGreatDoorKCHpOps
import Derived.Test.YtomiclakhjncbaaGreatDoorKCFLed2
set_option maxRecDepth 100000
set_option maxHeartbeats 12800000
namespace Go.Proofs.YtomiclakhjncbaaGreatDoor
open Go.RowKit Go.Proofs.Tryz
structure Bk where
 today:Int
 off:List Int
 az:List Au
 cs:List Cs
 ls:List Ln
 log:Be
structure Bp where
 o:Option Addr
 oc:Nat
 a:Option Addr
 ac:Nat
 c:Option Addr
 cc:Nat
 l:Option Addr
 lc:Nat
 g:Option Addr
 gc:Nat
def C5 (b:Bk) (p:Bp):Value:=.agg #[.int .i64 b.today,.slice p.o b.off.length p.oc,.slice p.a b.az.length p.ac,.slice p.c b.cs.length p.cc,.slice p.l b.ls.length p.lc,.slice p.g b.log.length p.gc]
structure Aq (u:World) (b:Bk) (p:Bp):Prop where
 off:Aw u p.o b.off
 az:Ar u p.a b.az
 cs:A0 u p.c b.cs
 ls:Ai u p.l b.ls
 log:Bh u p.g b.log
theorem Aq.below {u u':World} {b:Bk} {p:Bp} (h:Aq u b p) (hb:BW u u'):Aq u' b p:=⟨h.off.below hb,h.az.below hb,h.cs.below hb,h.ls.below hb,h.log.below hb⟩
def D0 (b:Bk):Prop:=b.off.length≤1048576∧b.az.length≤1048576∧b.cs.length≤1048576∧b.ls.length≤1048576∧b.log.length≤1048576
structure S6 (B:Nat) (b:Bk) (p:Bp) (u:World):Prop where
 c0:u.cell? ⟨B,0,none⟩=some (.int .i64 b.today)
 c1:u.cell? ⟨B,1,none⟩=some (.slice p.o b.off.length p.oc)
 c2:u.cell? ⟨B,2,none⟩=some (.slice p.a b.az.length p.ac)
 c3:u.cell? ⟨B,3,none⟩=some (.slice p.c b.cs.length p.cc)
 c4:u.cell? ⟨B,4,none⟩=some (.slice p.l b.ls.length p.lc)
 c5:u.cell? ⟨B,5,none⟩=some (.slice p.g b.log.length p.gc)
theorem S6.lt {B:Nat} {b:Bk} {p:Bp} {u:World} (h:S6 B b p u):B<u.heap.size:=World.block_lt_of_cell? u _ h.c0
theorem S6.below {B:Nat} {b:Bk} {p:Bp} {u u':World} (h:S6 B b p u) (hb:BW u u'):S6 B b p u':=by
 have l:=h.lt;exact ⟨(hb.cell (p:=⟨B,0,none⟩) l).trans h.c0,(hb.cell (p:=⟨B,1,none⟩) l).trans h.c1,(hb.cell (p:=⟨B,2,none⟩) l).trans h.c2,(hb.cell (p:=⟨B,3,none⟩) l).trans h.c3,(hb.cell (p:=⟨B,4,none⟩) l).trans h.c4,(hb.cell (p:=⟨B,5,none⟩) l).trans h.c5⟩
theorem S6.new (w:World) (b:Bk) (p:Bp) (ty:TypeId):S6 w.heap.size b p (w.alloc (.cells #[.int .i64 b.today,.slice p.o b.off.length p.oc,.slice p.a b.az.length p.ac,.slice p.c b.cs.length p.cc,.slice p.l b.ls.length p.lc,.slice p.g b.log.length p.gc] ty)):=⟨by simp,by simp,by simp,by simp,by simp,by simp⟩
structure Z6 (B:Nat) (v0 v1 v2 v3 v4 v5:Value) (u:World):Prop where
 c0:u.cell? ⟨B,0,none⟩=some v0
 c1:u.cell? ⟨B,1,none⟩=some v1
 c2:u.cell? ⟨B,2,none⟩=some v2
 c3:u.cell? ⟨B,3,none⟩=some v3
 c4:u.cell? ⟨B,4,none⟩=some v4
 c5:u.cell? ⟨B,5,none⟩=some v5
 z0:u.frozen? ⟨B,0,none⟩=false
 z1:u.frozen? ⟨B,1,none⟩=false
 z2:u.frozen? ⟨B,2,none⟩=false
 z3:u.frozen? ⟨B,3,none⟩=false
 z4:u.frozen? ⟨B,4,none⟩=false
 z5:u.frozen? ⟨B,5,none⟩=false
theorem Z6.lt {B:Nat} {v0 v1 v2 v3 v4 v5:Value} {u:World} (h:Z6 B v0 v1 v2 v3 v4 v5 u):B<u.heap.size:=World.block_lt_of_cell? u _ h.c0
theorem Z6.below {B:Nat} {v0 v1 v2 v3 v4 v5:Value} {u u':World} (h:Z6 B v0 v1 v2 v3 v4 v5 u) (b:BW u u'):Z6 B v0 v1 v2 v3 v4 v5 u':=by
 have l:=h.lt;exact ⟨(b.cell (p:=⟨B,0,none⟩) l).trans h.c0,(b.cell (p:=⟨B,1,none⟩) l).trans h.c1,(b.cell (p:=⟨B,2,none⟩) l).trans h.c2,(b.cell (p:=⟨B,3,none⟩) l).trans h.c3,(b.cell (p:=⟨B,4,none⟩) l).trans h.c4,(b.cell (p:=⟨B,5,none⟩) l).trans h.c5,(b.frozen (p:=⟨B,0,none⟩) l).trans h.z0,(b.frozen (p:=⟨B,1,none⟩) l).trans h.z1,(b.frozen (p:=⟨B,2,none⟩) l).trans h.z2,(b.frozen (p:=⟨B,3,none⟩) l).trans h.z3,(b.frozen (p:=⟨B,4,none⟩) l).trans h.z4,(b.frozen (p:=⟨B,5,none⟩) l).trans h.z5⟩
theorem Z6.far {B B' i:Nat} {v0 v1 v2 v3 v4 v5:Value} {u:World} {x:Value} (h:Z6 B v0 v1 v2 v3 v4 v5 u) (hne:B'≠B):Z6 B v0 v1 v2 v3 v4 v5 (u.setCell ⟨B',i,none⟩ x):=by
 have l:=h.lt
 have gr:u.grownBy (u.setCell ⟨B',i,none⟩ x) (some B'):=⟨rfl,rfl,rfl,by simp,fun j _ hj=>Below.heap_setCell _ _ _ _ (fun e=>hj (by rw [e]))⟩
 have hs:some B≠some B':=fun e=>hne (by injection e with e;exact e.symm)
 exact ⟨(gr.cell_far ⟨B,0,none⟩ l hs).trans h.c0,(gr.cell_far ⟨B,1,none⟩ l hs).trans h.c1,(gr.cell_far ⟨B,2,none⟩ l hs).trans h.c2,(gr.cell_far ⟨B,3,none⟩ l hs).trans h.c3,(gr.cell_far ⟨B,4,none⟩ l hs).trans h.c4,(gr.cell_far ⟨B,5,none⟩ l hs).trans h.c5,by simp [h.z0],by simp [h.z1],by simp [h.z2],by simp [h.z3],by simp [h.z4],by simp [h.z5]⟩
theorem Z6.set0 {B:Nat} {v0 v1 v2 v3 v4 v5:Value} {u:World} (h:Z6 B v0 v1 v2 v3 v4 v5 u) (x:Value):Z6 B x v1 v2 v3 v4 v5 (u.setCell ⟨B,0,none⟩ x):=by
 obtain ⟨c0,c1,c2,c3,c4,c5,z0,z1,z2,z3,z4,z5⟩:=h
 constructor<;>simp [go_sem, *]
theorem Z6.set1 {B:Nat} {v0 v1 v2 v3 v4 v5:Value} {u:World} (h:Z6 B v0 v1 v2 v3 v4 v5 u) (x:Value):Z6 B v0 x v2 v3 v4 v5 (u.setCell ⟨B,1,none⟩ x):=by
 obtain ⟨c0,c1,c2,c3,c4,c5,z0,z1,z2,z3,z4,z5⟩:=h
 constructor<;>simp [go_sem, *]
theorem Z6.set2 {B:Nat} {v0 v1 v2 v3 v4 v5:Value} {u:World} (h:Z6 B v0 v1 v2 v3 v4 v5 u) (x:Value):Z6 B v0 v1 x v3 v4 v5 (u.setCell ⟨B,2,none⟩ x):=by
 obtain ⟨c0,c1,c2,c3,c4,c5,z0,z1,z2,z3,z4,z5⟩:=h
 constructor<;>simp [go_sem, *]
theorem Z6.set3 {B:Nat} {v0 v1 v2 v3 v4 v5:Value} {u:World} (h:Z6 B v0 v1 v2 v3 v4 v5 u) (x:Value):Z6 B v0 v1 v2 x v4 v5 (u.setCell ⟨B,3,none⟩ x):=by
 obtain ⟨c0,c1,c2,c3,c4,c5,z0,z1,z2,z3,z4,z5⟩:=h
 constructor<;>simp [go_sem, *]
theorem Z6.set4 {B:Nat} {v0 v1 v2 v3 v4 v5:Value} {u:World} (h:Z6 B v0 v1 v2 v3 v4 v5 u) (x:Value):Z6 B v0 v1 v2 v3 x v5 (u.setCell ⟨B,4,none⟩ x):=by
 obtain ⟨c0,c1,c2,c3,c4,c5,z0,z1,z2,z3,z4,z5⟩:=h
 constructor<;>simp [go_sem, *]
theorem Z6.set5 {B:Nat} {v0 v1 v2 v3 v4 v5:Value} {u:World} (h:Z6 B v0 v1 v2 v3 v4 v5 u) (x:Value):Z6 B v0 v1 v2 v3 v4 x (u.setCell ⟨B,5,none⟩ x):=by
 obtain ⟨c0,c1,c2,c3,c4,c5,z0,z1,z2,z3,z4,z5⟩:=h
 constructor<;>simp [go_sem, *]
theorem Z6.new (w:World) (v0 v1 v2 v3 v4 v5:Value) (ty:TypeId):Z6 w.heap.size v0 v1 v2 v3 v4 v5 (w.alloc (.cells #[v0,v1,v2,v3,v4,v5] ty)) :=
 ⟨by simp,by simp,by simp,by simp,by simp,by simp,by simp [go_sem],by simp [go_sem],by simp [go_sem],by simp [go_sem],by simp [go_sem],by simp [go_sem]⟩
abbrev Z0(R:Nat)(u:World):Prop:=Z6 R (.int .i64 0) (.slice none 0 0) (.slice none 0 0) (.slice none 0 0) (.slice none 0 0) (.slice none 0 0) u
abbrev ZQ(X:Nat)(b:Bk)(q:Bp)(u:World):Prop:=Z6 X (.int .i64 b.today) (.slice q.o b.off.length q.oc) (.slice q.a b.az.length q.ac) (.slice q.c b.cs.length q.cc) (.slice q.l b.ls.length q.lc) (.slice q.g b.log.length q.gc) u
theorem S6.under {s B:Nat} {b:Bk} {p:Bp} {u u':World} (h:S6 s b p u) (hb:Below B u u') (l:s<B):S6 s b p u' :=
 ⟨(hb.cell (p:=⟨s,0,none⟩) l).trans h.c0,(hb.cell (p:=⟨s,1,none⟩) l).trans h.c1,(hb.cell (p:=⟨s,2,none⟩) l).trans h.c2,(hb.cell (p:=⟨s,3,none⟩) l).trans h.c3,(hb.cell (p:=⟨s,4,none⟩) l).trans h.c4,(hb.cell (p:=⟨s,5,none⟩) l).trans h.c5⟩
theorem Z6.under {s B:Nat} {v0 v1 v2 v3 v4 v5:Value} {u u':World} (h:Z6 s v0 v1 v2 v3 v4 v5 u) (hb:Below B u u') (l:s<B):Z6 s v0 v1 v2 v3 v4 v5 u' :=
 ⟨(hb.cell (p:=⟨s,0,none⟩) l).trans h.c0,(hb.cell (p:=⟨s,1,none⟩) l).trans h.c1,(hb.cell (p:=⟨s,2,none⟩) l).trans h.c2,(hb.cell (p:=⟨s,3,none⟩) l).trans h.c3,(hb.cell (p:=⟨s,4,none⟩) l).trans h.c4,(hb.cell (p:=⟨s,5,none⟩) l).trans h.c5,(hb.frozen (p:=⟨s,0,none⟩) l).trans h.z0,(hb.frozen (p:=⟨s,1,none⟩) l).trans h.z1,(hb.frozen (p:=⟨s,2,none⟩) l).trans h.z2,(hb.frozen (p:=⟨s,3,none⟩) l).trans h.z3,(hb.frozen (p:=⟨s,4,none⟩) l).trans h.z4,(hb.frozen (p:=⟨s,5,none⟩) l).trans h.z5⟩
theorem Ad {u:World} {base n size B i:Nat} {t:TypeId} {v x:Value} {xs:List Value} (o:u.ownsRow base t size v n xs) (hB:B<base):(u.setCell ⟨B,i,none⟩ x).ownsRow base t size v n xs :=
 o.kept (row:=some B) ⟨rfl,rfl,rfl,by simp,fun j _ hj=>Below.heap_setCell _ _ _ _ (fun e=>hj (by rw [e]))⟩ (.inr fun h=>by have:=(o.lt _ h).1;omega)
def Mu (done:Bool) (ls:List Ln) (a c m:Int):List Ln:=if done=true then ls else Cr ls a c m
theorem Kz (ls:List Ln) (a c m:Int):Mu true ls a c m=ls:=rfl
theorem Js (ls:List Ln) (a c m:Int):Mu false ls a c m=Cr ls a c m:=rfl
theorem jI {x:Ln} {r:List Ln} {a c m:Int} (h:My x a c=false):Cr (x::r) a c m=x::Cr r a c m:=by simp only [Cr];rw [if_neg (by rw [h];decide)]
theorem eJ {x:Ln} {r:List Ln} {a c m:Int} (h:My x a c=true) (he:x.1=a∧x.2.1=c):Cr (x::r) a c m=if x.2.2+m≠0 then (a,c,x.2.2+m)::r else r:=by simp only [Cr];rw [if_pos h,if_pos he]
theorem lD {x:Ln} {r:List Ln} {a c m:Int} (h:My x a c=true) (he:¬ (x.1=a∧x.2.1=c)):Cr (x::r) a c m=(a,c,m)::x::r:=by simp only [Cr];rw [if_pos h,if_neg he]
theorem Ve (x y z:Int):∀ u ∈ [Value.int .i64 x,.int .i64 y,.int .i64 z],u.oneCell'=true:=by
 intro u hu
 simp at hu
 rcases hu with rfl | rfl | rfl <;> rfl
theorem aD {w:World} {base n:Nat} {t:TypeId} {v:Value} {out:List Ln} {x y z:Int} (h:w.ownsRow base t 3 v n (Ag out++[.int .i64 x,.int .i64 y,.int .i64 z])):w.ownsRow base t 3 v n (Ag (out++[(x,y,z)])):=by
 rw [Ip];exact h
theorem Tf (ao:Option Addr) (cap:Nat) (ls:List Ln) (a c m:Int) (w:World) (hz:Ai w ao ls) (hn:ls.length≤1048576) (hm:-1000000000000≤m∧m≤1000000000000) (hb:∀ x ∈ ls,-4000000000000≤x.2.2∧x.2.2≤4000000000000) :
  Calls prog 262 #[.slice ao ls.length cap,.int .i64 a,.int .i64 c,.int .i64 m] w fun e w'=>∃ g cap',e=.returned (.slice g (Cr ls a c m).length cap') ∧
   w'.ownsRow w.heap.size 113 3 (.slice g (Cr ls a c m).length cap') (Cr ls a c m).length (Ag (Cr ls a c m))∧BW w w':=by
 obtain ⟨i0,hi,hz0,hz1,hz2⟩:=info_parts bY;have HZ:Hid (Ai w ao ls):=hz;have HB:Hid (∀ x ∈ ls,-4000000000000≤x.2.2∧x.2.2≤4000000000000):=hb
 have ownE:(w.alloc (.cells #[] 113)).ownsRow w.heap.size 113 3 (.slice (some ⟨w.heap.size,0,none⟩) 0 0) 0 (Ag []):=World.ownsRow_lit w #[] 0 nL (by unfold maxLen;omega) rfl
 have HOE:Hid ((w.alloc (.cells #[] 113)).ownsRow w.heap.size 113 3 (.slice (some ⟨w.heap.size,0,none⟩) 0 0) 0 (Ag [])):=ownE;clear hz hb ownE;obtain ⟨A,hA⟩:∃ A,Cr ls a c m=A:=⟨_,rfl⟩;rw [hA];have HA:Hid _:=hA;clear hA
 go_enter func262,ntmps262
 go_wp2
 go_loopw [9,10,11] (fun s d i wr=>∃ (v:Value) (k:Nat) (done:Bool) (out:List Ln),v=s∧d=.bool done∧k≤ls.length∧i=.int .i64 k∧A=out++Mu done (ls.drop k) a c m∧((done=false→out.length≤k)∧out.length≤k+1)∧wr.ownsRow w.heap.size 113 3 v out.length (Ag out)∧BW w wr) (fun _ _ i _=>ls.length - (intOf i).toNat)
 case atStart=>exact ⟨_,0,false,[],rfl,rfl,Nat.zero_le _,rfl,HA.o.symm,⟨fun _=>Nat.zero_le _,Nat.zero_le _⟩,HOE.o,by go_grown⟩
 case round =>
  obtain ⟨v,k,done,out,hvs,rfl,hk,rfl,hAe,⟨hol0,hol⟩,ho,hbr⟩:=hrel;subst hvs;have hbs:=hbr.size;have HO:Hid (wr.ownsRow w.heap.size 113 3 v out.length (Ag out)):=ho
  have HLT:Hid (∀ j,v.ownBlock=some j→w.heap.size≤j):=fun j hj=>(ho.lt j hj).1
  have HAE:Hid _:=hAe;clear ho hAe HOE
  by_cases hlt:k<ls.length
  ·have hki:(k:Int)<(ls.length:Int):=by omega
   obtain ⟨b,off,rfl,hb2,c1,c2,c3⟩:=(HZ.o.below hbr).at hlt;have hbd:=HB.o _ (Ex hlt);have hdr:=Tu ls k hlt;obtain ⟨⟨x,y,z⟩,hx⟩:∃ x,Cg ls k=x:=⟨_,rfl⟩;rw [hx] at c1 c2 c3 hdr hbd
   simp only at c1 c2 c3 hbd
   have HDR:Hid _:=hdr;obtain ⟨W,hW⟩:∃ W,W=wr.alloc (.cells #[.int .i64 x,.int .i64 y,.int .i64 z] 113):=⟨_,rfl⟩
   have bW:BW w W:=by rw [hW];exact hbr.alloc hbs _
   have HOW:Hid (W.ownsRow w.heap.size 113 3 v out.length (Ag out)):=by rw [Hid,hW];exact HO.o.alloc _
   have y0:W.cell? ⟨wr.heap.size,0,none⟩=some (.int .i64 x):=by rw [hW];simp
   have y1:W.cell? ⟨wr.heap.size,1,none⟩=some (.int .i64 y):=by rw [hW];simp
   have y2:W.cell? ⟨wr.heap.size,2,none⟩=some (.int .i64 z):=by rw [hW];simp
   have f2:W.frozen? ⟨wr.heap.size,2,none⟩=false:=by rw [hW];simp [go_sem]
   have hWs:=bW.size;have hwW:wr.heap.size<W.heap.size:=World.block_lt_of_cell? W _ y0;clear hdr hx;go_upto_region 7 with fail
   rw [← hW];clear hW c1 c2 c3
   cases done
   ·have HL0:Hid (out.length≤k):=hol0 rfl
    clear hol0
    cases hr:My (x,y,z) a c
    ·have HN:Hid (A=(out++[(x,y,z)])++Mu false (ls.drop (k+1)) a c m):=by
       rw [Hid,HAE.o,Js,HDR.o,jI hr,Js,List.append_assoc];rfl
     have hr':=hr
     simp only [My,decide_eq_false_iff_not] at hr'
     have v1:¬ a<x:=by omega
     by_cases v2:x=a
     ·have v2':(x == a)=true:=by simpa using v2
      have v3:¬ c≤y:=by omega
      clear hr hr' HAE HDR v2
      go_wp2_with (at_builtin;refine wpList_append_own _ rfl (.tmp 73) (.tmp 75) 27 rfl w.heap.size 113 i0 _ 3 24 underlying27 hi hz0 hz1 hz2 rfl (by decide) _ _ _ rfl (HOW.o.alloc _) ⟨W.heap.size,0,none⟩ 1 1 [.int .i64 x,.int .i64 y,.int .i64 z] rfl rfl (World.news_of_block (heap_alloc_new W _)) (Ve x y z) (by unfold maxLen;omega) (by omega) (by simp;omega) ?_;intro v5 w5 o5 g5 _)
      have HR5:Hid (w5.ownsRow w.heap.size 113 3 v5 (out++[(x,y,z)]).length (Ag (out++[(x,y,z)]))):=by rw [Hid,List.length_append];exact aD o5
      have q5:BW w w5:=(bW.alloc hWs _).grown g5 (by simp;omega) HLT.o
      clear o5 g5 HO HOW;go_wp2
      go_roundw
      case rel=>exact ⟨_,k+1,false,_,rfl,rfl,by omega,by go_num,HN.o,⟨fun _=>by have:=HL0.o;simp;omega,by have:=HL0.o;simp;omega⟩,HR5.o,q5⟩
      case measure=>simp [intOf];omega
     ·have v2':(x == a)=false:=by simpa using v2
      clear hr hr' HAE HDR v2
      go_wp2_with (at_builtin;refine wpList_append_own _ rfl (.tmp 73) (.tmp 75) 27 rfl w.heap.size 113 i0 _ 3 24 underlying27 hi hz0 hz1 hz2 rfl (by decide) _ _ _ rfl (HOW.o.alloc _) ⟨W.heap.size,0,none⟩ 1 1 [.int .i64 x,.int .i64 y,.int .i64 z] rfl rfl (World.news_of_block (heap_alloc_new W _)) (Ve x y z) (by unfold maxLen;omega) (by omega) (by simp;omega) ?_;intro v5 w5 o5 g5 _)
      have HR5:Hid (w5.ownsRow w.heap.size 113 3 v5 (out++[(x,y,z)]).length (Ag (out++[(x,y,z)]))):=by rw [Hid,List.length_append];exact aD o5
      have q5:BW w w5:=(bW.alloc hWs _).grown g5 (by simp;omega) HLT.o
      clear o5 g5 HO HOW;go_wp2
      go_roundw
      case rel=>exact ⟨_,k+1,false,_,rfl,rfl,by omega,by go_num,HN.o,⟨fun _=>by have:=HL0.o;simp;omega,by have:=HL0.o;simp;omega⟩,HR5.o,q5⟩
      case measure=>simp [intOf];omega
    ·have hr':=hr
     simp only [My,decide_eq_true_eq] at hr'
     by_cases he:x=a∧y=c
     ·obtain ⟨v2,v3⟩:=he
      have v2':(x == a)=true:=by simpa using v2
      have v3':(y == c)=true:=by simpa using v3
      have v1:¬ a<x:=by omega
      have v4:c≤y:=by omega
      have hh:=eJ (m:=m) (r:=ls.drop (k+1)) hr ⟨v2,v3⟩
      have hwz:IntKind.i64.wrap (z+m)=z+m:=by simp [IntKind.wrap,IntKind.bits,IntKind.signed];omega
      obtain ⟨V,hV⟩:∃ V,V=W.setCell ⟨wr.heap.size,2,none⟩ (.int .i64 (z+m)):=⟨_,rfl⟩
      have p0:V.cell? ⟨wr.heap.size,0,none⟩=some (.int .i64 x):=by rw [hV];simp [go_sem,y0]
      have p1:V.cell? ⟨wr.heap.size,1,none⟩=some (.int .i64 y):=by rw [hV];simp [go_sem,y1]
      have p2:V.cell? ⟨wr.heap.size,2,none⟩=some (.int .i64 (z+m)):=by rw [hV];simp [go_sem,y2]
      have bV:BW w V:=by rw [hV];exact bW.setCell (by show w.heap.size≤wr.heap.size;omega) _
      have HOV:Hid (V.ownsRow w.heap.size 113 3 v out.length (Ag out)):=by
       rw [Hid,hV]
       exact A5 HOW.o _ _ (fun g hg=>by have:=(HO.o.lt g hg).2;simp only;omega)
      have hVs:=bV.size;have HV:Hid _:=hV
      by_cases hs0:z+m=0
      ·have HN:Hid (A=out++Mu true (ls.drop (k+1)) a c m):=by
         rw [Hid,HAE.o,Js,HDR.o,hh,if_neg (by simpa using hs0)];rfl
       have hs0':(z+m != 0)=false:=by simpa using hs0
       have HS0:Hid _:=hs0;clear hr hr' HAE HDR v2 v3 hh hV p0 p1 p2;go_wp2
       go_roundw
       case rel=>exact ⟨_,k+1,true,out,rfl,rfl,by omega,by go_num,HN.o,⟨(fun h=>by cases h),by omega⟩,by have h:=HOV.o;rw [HV.o,HS0.o] at h;exact h,by have h:=bV;rw [HV.o,HS0.o] at h;exact h⟩
       case measure=>simp [intOf];omega
      ·have HN:Hid (A=(out++[(x,y,z+m)])++Mu true (ls.drop (k+1)) a c m):=by
         rw [Hid,HAE.o,Js,HDR.o,hh,if_pos (by simpa using hs0),Kz,v2,v3,List.append_assoc];rfl
       have hs0':(z+m != 0)=true:=by simpa using hs0
       clear hr hr' HAE HDR v2 v3 hh hs0;go_upto_region 12 with fail
       rw [← hV];clear hV
       go_wp2_with (at_builtin;refine wpList_append_own _ rfl (.tmp 62) (.tmp 64) 27 rfl w.heap.size 113 i0 _ 3 24 underlying27 hi hz0 hz1 hz2 rfl (by decide) _ _ _ rfl (HOV.o.alloc _) ⟨V.heap.size,0,none⟩ 1 1 [.int .i64 x,.int .i64 y,.int .i64 (z+m)] rfl rfl (World.news_of_block (heap_alloc_new V _)) (Ve x y (z+m)) (by unfold maxLen;omega) (by omega) (by simp;omega) ?_;intro v5 w5 o5 g5 _)
       have HR5:Hid (w5.ownsRow w.heap.size 113 3 v5 (out++[(x,y,z+m)]).length (Ag (out++[(x,y,z+m)]))):=by rw [Hid,List.length_append];exact aD o5
       have q5:BW w w5:=(bV.alloc hVs _).grown g5 (by simp;omega) HLT.o
       clear o5 g5 HO HOW HOV;go_wp2
       go_roundw
       case rel=>exact ⟨_,k+1,true,_,rfl,rfl,by omega,by go_num,HN.o,⟨(fun h=>by cases h),by simp;omega⟩,HR5.o,q5⟩
       case measure=>simp [intOf];omega
     ·have HN:Hid (A=(out++[(a,c,m)]++[(x,y,z)])++Mu true (ls.drop (k+1)) a c m):=by
        rw [Hid,HAE.o,Js,HDR.o,lD hr he,Kz,List.append_assoc,List.append_assoc];rfl
      have hya:∀ o,(W.alloc o).cell? ⟨wr.heap.size,0,none⟩=some (.int .i64 x)∧(W.alloc o).cell? ⟨wr.heap.size,1,none⟩=some (.int .i64 y)∧(W.alloc o).cell? ⟨wr.heap.size,2,none⟩=some (.int .i64 z):=fun o=>⟨(World.cell?_alloc_lt _ _ ⟨wr.heap.size,0,none⟩ hwW).trans y0,(World.cell?_alloc_lt _ _ ⟨wr.heap.size,1,none⟩ hwW).trans y1,(World.cell?_alloc_lt _ _ ⟨wr.heap.size,2,none⟩ hwW).trans y2⟩
      have HYA:Hid _:=hya
      have HNE:Hid (some wr.heap.size≠v.ownBlock):=fun e=>by have:=(HO.o.lt _ e.symm).2;omega
      have hguard:(a<x∧(x == a)=false)∨(¬ a<x∧(x == a)=true∧c≤y∧(y == c)=false):=by
       by_cases v1:a<x
       ·exact .inl ⟨v1,by simp;omega⟩
       ·have v2:x=a:=by omega
        exact .inr ⟨v1,by simpa using v2,by omega,by simp;intro h;exact he ⟨v2,h⟩⟩
      clear hr hr' HAE HDR he hya
      rcases hguard with ⟨v1,v2⟩ | ⟨v1,v2,v3,v4⟩
      all_goals
       go_wp2_with (at_builtin;first
        | (refine wpList_append_own _ rfl (.tmp 66) (.tmp 71) 27 rfl w.heap.size 113 i0 _ 3 24 underlying27 hi hz0 hz1 hz2 rfl (by decide) _ _ _ rfl (HOW.o.alloc _) ⟨W.heap.size,0,none⟩ 1 1 [.int .i64 a,.int .i64 c,.int .i64 m] rfl rfl (World.news_of_block (heap_alloc_new W _)) (Ve a c m) (by unfold maxLen;omega) (by omega) (by simp;omega) ?_;intro v5 w5 o5 g5 _;have q5:BW w w5:=(bW.alloc hWs _).grown g5 (by simp;omega) HLT.o;have k0:=(g5.cell_far ⟨wr.heap.size,0,none⟩ (by simp;omega) HNE.o).trans (HYA.o _).1;have k1:=(g5.cell_far ⟨wr.heap.size,1,none⟩ (by simp;omega) HNE.o).trans (HYA.o _).2.1;have k2:=(g5.cell_far ⟨wr.heap.size,2,none⟩ (by simp;omega) HNE.o).trans (HYA.o _).2.2;have HO5:Hid (w5.ownsRow w.heap.size 113 3 v5 (out.length+1) (Ag out++[.int .i64 a,.int .i64 c,.int .i64 m])):=o5;have hs5:=q5.size;clear o5 g5)
        | (refine wpList_append_own _ rfl (.tmp 73) (.tmp 75) 27 rfl w.heap.size 113 i0 _ 3 24 underlying27 hi hz0 hz1 hz2 rfl (by decide) _ _ _ rfl (HO5.o.alloc _) ⟨w5.heap.size,0,none⟩ 1 1 [.int .i64 x,.int .i64 y,.int .i64 z] rfl rfl (World.news_of_block (heap_alloc_new w5 _)) (Ve x y z) (by unfold maxLen;omega) (by omega) (by simp;omega) ?_;intro v6 w6 o6 g6 _))
       have HR6:Hid (w6.ownsRow w.heap.size 113 3 v6 (out++[(a,c,m)]++[(x,y,z)]).length (Ag (out++[(a,c,m)]++[(x,y,z)]))):=by
        rw [Hid,List.length_append,List.length_append,Ip,Ip];exact o6
       have q6:BW w w6:=(q5.alloc hs5 _).grown g6 (by simp;omega) (fun j hj=>(HO5.o.lt j hj).1)
       clear o6 g6 HO HOW HO5;go_wp2
       go_roundw
       case rel=>exact ⟨_,k+1,true,_,rfl,rfl,by omega,by go_num,HN.o,⟨(fun h=>by cases h),by have:=HL0.o;simp;omega⟩,HR6.o,q6⟩
       case measure=>simp [intOf];omega
   ·have HN:Hid (A=(out++[(x,y,z)])++Mu true (ls.drop (k+1)) a c m):=by
      rw [Hid,HAE.o,Kz,HDR.o,Kz,List.append_assoc];rfl
    clear HAE HDR
    go_wp2_with (at_builtin;refine wpList_append_own _ rfl (.tmp 73) (.tmp 75) 27 rfl w.heap.size 113 i0 _ 3 24 underlying27 hi hz0 hz1 hz2 rfl (by decide) _ _ _ rfl (HOW.o.alloc _) ⟨W.heap.size,0,none⟩ 1 1 [.int .i64 x,.int .i64 y,.int .i64 z] rfl rfl (World.news_of_block (heap_alloc_new W _)) (Ve x y z) (by unfold maxLen;omega) (by omega) (by simp;omega) ?_;intro v5 w5 o5 g5 _)
    have HR5:Hid (w5.ownsRow w.heap.size 113 3 v5 (out++[(x,y,z)]).length (Ag (out++[(x,y,z)]))):=by rw [Hid,List.length_append];exact aD o5
    have q5:BW w w5:=(bW.alloc hWs _).grown g5 (by simp;omega) HLT.o
    clear o5 g5 HO HOW;go_wp2
    go_roundw
    case rel=>exact ⟨_,k+1,true,_,rfl,rfl,by omega,by go_num,HN.o,⟨(fun h=>by cases h),by simp;omega⟩,HR5.o,q5⟩
    case measure=>simp [intOf];omega
  ·have hke:k=ls.length:=by omega
   subst hke
   have hki:¬ (ls.length:Int)<(ls.length:Int):=by omega
   have hd:ls.drop ls.length=[]:=List.drop_of_length_le nL
   cases done
   ·have HN:Hid (A=out++[(a,c,m)]):=by rw [Hid,HAE.o,hd];rfl
    clear HAE hd
    go_wp2_with (at_builtin;refine wpList_append_own _ rfl (.tmp 79) (.tmp 84) 27 rfl w.heap.size 113 i0 _ 3 24 underlying27 hi hz0 hz1 hz2 rfl (by decide) _ _ _ rfl (HO.o.alloc _) ⟨wr.heap.size,0,none⟩ 1 1 [.int .i64 a,.int .i64 c,.int .i64 m] rfl rfl (World.news_of_block (heap_alloc_new wr _)) (Ve a c m) (by unfold maxLen;omega) (by omega) (by simp;omega) ?_;intro v5 w5 o5 g5 _;obtain ⟨ao5,cap5,hv5,-,-⟩:=Ef (ls:=out++[(a,c,m)]) (aD o5);subst hv5)
    have HR5:Hid (w5.ownsRow w.heap.size 113 3 (.slice ao5 (out++[(a,c,m)]).length cap5) (out++[(a,c,m)]).length (Ag (out++[(a,c,m)]))):=by
     have h:=aD o5;rw [List.length_append] at h ⊢;exact h
    have q5:BW w w5:=(hbr.alloc hbs _).grown g5 (by simp;omega) HLT.o
    clear o5 g5 HO;go_wp2;go_ret;have hN:=HN.o;subst hN
    exact ⟨ao5,cap5,by rw [List.length_append];rfl,HR5.o,q5⟩
   ·have HN:Hid (A=out):=by rw [Hid,HAE.o,hd];simp [Mu]
    obtain ⟨ao5,cap5,hv5,-,-⟩:=Ef HO.o;subst hv5;clear HAE hd;go_wp2;go_ret;have hN:=HN.o;subst hN;exact ⟨ao5,cap5,rfl,HO.o,hbr⟩
theorem Y5 {w:World} {a:Addr} {ls:List Ln} (h:Ai w (some a) ls):∀ j u,(Ag ls)[j]?=some u→w.cell? (a.add j)=some u:=by
 intro j u hj
 have hlt:j<ls.length*3:=by
  rw [← Cn];exact (List.getElem?_eq_some_iff.1 hj).1
 rcases h with rfl | ⟨b',off',hq,hb,hc⟩
 ·simp at hlt
 ·obtain rfl:a=⟨b',off',none⟩:=by simpa using hq
  have e:((⟨b',off',none⟩:Addr).add j)=⟨b',off'+j,none⟩:=by unfold Addr.add;split <;> simp_all
  have hk:=hc (j / 3) (by omega)
  have hf:=Hj ls (j / 3) (by omega)
  rw [e]
  rcases (show j % 3=0∨j % 3=1∨j % 3=2 by omega) with m | m | m
  ·have hj':j=j / 3*3:=by omega
   rw [hj',hf.1] at hj
   rw [hj',hk.1];exact hj
  ·have hj':j=j / 3*3+1:=by omega
   rw [hj',hf.2.1] at hj
   rw [hj',← Nat.add_assoc,hk.2.1];exact hj
  ·have hj':j=j / 3*3+2:=by omega
   rw [hj',hf.2.2] at hj
   rw [hj',← Nat.add_assoc,hk.2.2];exact hj
theorem Oa (w:World) (base:Nat) (ty:TypeId) (v:Value) (n:Nat) (cs:List Value) (hown:w.ownsRow base 113 3 v n cs) (ao:Option Addr) (c:Nat) (ls:List Ln) (hz:Ai w ao ls)
  (hn:n+ls.length≤4000000) (hbase:base≤w.heap.size) :
  ∃ v' w',(Builtin.append_ #[27,27] ty #[v,.slice ao ls.length c]).run prog w=.ok v' w'∧w'.ownsRow base 113 3 v' (n+ls.length) (cs++Ag ls)∧w.grownBy w' v.ownBlock:=by
 obtain ⟨i0,hi,hz0,hz1,hz2⟩:=info_parts bY
 cases ao with
 | none =>
  have hf:ls=[]:=by
   rcases hz with h | ⟨b,off,h,_⟩
   ·exact h
   ·cases h
  subst hf
  refine ⟨v,w,?_,by simpa [Ag] using hown,⟨rfl,rfl,rfl,nL,fun _ _ _=>rfl⟩⟩
  have hu:=underlying27
  rcases hown.2 with ⟨rfl,rfl⟩ | ⟨g,cap,cQ,rfl,hbg,hg,hnc,hcm,hcs,htake⟩
  ·simp [Builtin.append_,run_underlying hu,sizeOf,typeInfo,hi,Builtin.lenOf,Builtin.firstCells]
  ·simp [Builtin.append_,run_underlying hu,sizeOf,typeInfo,hi,Builtin.lenOf,Builtin.firstCells,loadCells,hnc,storeCells]
 | some a =>
  obtain ⟨v',w',h1,h2,h3,_,_⟩:=run_append_own_at (P:=prog) w base 27 ty 113 i0 _ 3 24 underlying27 hi hz0 hz1 hz2 rfl (by decide) v n cs hown a ls.length c (Ag ls) (Cn ls) (Y5 hz) (Z5 ls) (by unfold maxLen;omega) (by omega) hbase
  exact ⟨v',w',h1,h2,h3⟩
theorem Gp {ops:Array Oper} {rest:List Oper} {o:Oper} {a:Act} {Q:Exit→Act→World→Prop} (w:World) (hgd:o.guard=none) (s x:Operand)
  (ho:o.op=.call { callee:=.builtin .append,args:=#[s,x],argTypes:=#[27,27] }) (base:Nat) (v:Value) (n:Nat) (cs:List Value) (hs:a.eval s=v) (hown:w.ownsRow base 113 3 v n cs)
  (ao:Option Addr) (c:Nat) (ls:List Ln) (hx:a.eval x=.slice ao ls.length c) (hz:Ai w ao ls) (hn:n+ls.length≤4000000) (hbase:base≤w.heap.size)
  (h:∀ v' w',w'.ownsRow base 113 3 v' (n+ls.length) (cs++Ag ls)→w.grownBy w' v.ownBlock→wpList prog ops Q rest (a.put o.dst v') w'):wpList prog ops Q (o::rest) a w:=by
 obtain ⟨v',w',hr,h1,h2⟩:=Oa w base o.type v n cs hown ao c ls hz hn hbase;exact Lib.wpList_append_run w hgd s x _ _ ho _ _ hs hx v' w' hr (h v' w' h1 h2)
def rG (w:World) (ls:List Ln) (e:Ending) (w':World):Prop :=
 ∃ ao cap,e=.returned (.agg #[.slice ao ls.length cap])∧w'.ownsRow w.heap.size 113 3 (.slice ao ls.length cap) ls.length (Ag ls)∧BW w w'
theorem Hh (ao:Option Addr) (cap:Nat) (ls:List Ln) (w:World) (hz:Ai w ao ls) (hn:ls.length≤1048577) :
  Calls prog 123 #[.agg #[.slice ao ls.length cap]] w (rG w ls):=by
 obtain ⟨W,hW⟩:∃ W,W=((w.alloc (.cells #[.slice ao ls.length cap] 29)).alloc (.cells #[.slice none 0 0] 29)).alloc (.cells #[] 113):=⟨_,rfl⟩
 have hWs:W.heap.size=w.heap.size+3:=by rw [hW];simp
 have bW:BW w W:=by rw [hW];go_grown
 have HOE:Hid (W.ownsRow (w.heap.size+2) 113 3 (.slice (some ⟨w.heap.size+1+1,0,none⟩) 0 0) 0 (Ag [])):=by
  have h:=World.ownsRow_lit (base:=w.heap.size+2) (e:=113) (size:=3) ((w.alloc (.cells #[.slice ao ls.length cap] 29)).alloc (.cells #[.slice none 0 0] 29)) #[] 0 (by simp) (by unfold maxLen;omega) rfl
  rw [Hid,hW];simpa [Ag] using h
 have HZ:Hid (Ai W ao ls):=hz.below bW
 have c1:W.cell? ⟨w.heap.size+1,0,none⟩=some (.slice none 0 0):=by rw [hW];simp [go_sem]
 have c0:W.cell? ⟨w.heap.size,0,none⟩=some (.slice ao ls.length cap):=by rw [hW];simp [go_sem]
 have z1:W.frozen? ⟨w.heap.size+1,0,none⟩=false:=by rw [hW];simp [go_sem]
 have HWE:Hid _:=hW;have HWZ:Hid _:=hWs;clear hz
 go_enter func123,ntmps123
 have HSTEP:Hid (∀ v2 w2,w2.ownsRow (w.heap.size+2) 113 3 v2 (0+ls.length) (Ag []++Ag ls)→W.grownBy w2 (Value.slice (some ⟨w.heap.size+1+1,0,none⟩) 0 0).ownBlock→∃ a2 k2,v2=.slice a2 ls.length k2∧w2.ownsRow (w.heap.size+2) 113 3 (.slice a2 ls.length k2) ls.length (Ag ls) ∧
   w2.cell? ⟨w.heap.size+1,0,none⟩=some (.slice none 0 0)∧w2.frozen? ⟨w.heap.size+1,0,none⟩=false∧BW w w2):=by
  intro v2 w2 o2 g2
  rw [Nat.zero_add,show Ag []++Ag ls=Ag ls from rfl] at o2
  obtain ⟨a2,k2,hv2,-,-⟩:=Ef o2;subst hv2
  have hne:some (w.heap.size+1)≠(Value.slice (some ⟨w.heap.size+1+1,0,none⟩) 0 0).ownBlock:=by simp [Value.ownBlock]
  exact ⟨a2,k2,rfl,o2,(g2.cell_far ⟨w.heap.size+1,0,none⟩ (by show w.heap.size+1<W.heap.size;omega) hne).trans c1,(g2.frozen_far ⟨w.heap.size+1,0,none⟩ (by show w.heap.size+1<W.heap.size;omega) hne).trans z1,bW.grown g2 bW.size (fun j hj=>by
   have:w.heap.size+1+1=j:=by simpa [Value.ownBlock] using hj
   omega)⟩
 clear c1 z1
 go_wp2_with (at_builtin;rw [← HWE.o];refine Gp _ rfl (.tmp 3) (.tmp 5) rfl (w.heap.size+2) _ 0 _ rfl HOE.o ao cap ls rfl HZ.o (by omega) (by have:=HWZ.o;omega) ?_;intro v2 w2 o2 g2;obtain ⟨a2,k2,hv2,o3,d1,e1,b2⟩:=HSTEP.o v2 w2 o2 g2;subst hv2;have HO3:Hid (w2.ownsRow (w.heap.size+2) 113 3 (.slice a2 ls.length k2) ls.length (Ag ls)):=o3;have HB2:Hid (BW w w2):=b2;clear o2 g2 o3 b2)
 refine bodyPost_ret (by simp [results,results123,go_sem,d1];try rfl) rfl ?_
 refine ⟨a2,k2,rfl,?_,HB2.o.setCell (by show w.heap.size≤w.heap.size+1;omega) _⟩
 exact Bi (A5 HO3.o _ _ (fun g hg=>by have:=(HO3.o.lt g hg).1;simp only;omega)) (by omega)
theorem Hb {w:World} {base n sz:Nat} {t:TypeId} {v:Value} {xs:List Value} (h:w.ownsRow base t sz v n xs):∃ ao cap,v=.slice ao n cap:=by
 rcases h.2 with ⟨rfl,rfl⟩ | ⟨g,c,cQ,rfl,_⟩
 ·exact ⟨none,0,rfl⟩
 ·exact ⟨_,c,rfl⟩
theorem Jz {u w2:World} {o:Obj} {g:Nat} (hg:g=u.heap.size) (h:(u.alloc o).grownBy w2 (some g)):BW u w2 :=
 (((Below.refl u.heap.size u).alloc nL o)).grown h (by simp) (fun k hk=>by cases hk;omega)
def Dt (a:Option Addr) (n:Nat):Prop:=∀ x,a=some x→x.block<n
def Cm (a:Option Addr) (n:Nat):Prop:=∀ x,a=some x→n≤x.block
theorem G8 {w:World} {base n cap sz m:Nat} {t:TypeId} {a:Option Addr} {xs:List Value} (h:w.ownsRow base t sz (.slice a n cap) n xs) (hm:w.heap.size≤m):Dt a m:=by
 intro x hx;subst hx
 have:=(h.lt x.block rfl).2
 omega
theorem Cw {w:World} {base n cap sz:Nat} {t:TypeId} {a:Option Addr} {xs:List Value} (h:w.ownsRow base t sz (.slice a n cap) n xs):Cm a base:=by
 intro x hx;subst hx;exact (h.lt x.block rfl).1
structure CpR (w:World) (b:Bk) (e:Ending) (w':World):Prop where
 res:∃ q base,e=.returned (C5 b q)∧Aq w' b q∧w'.ownsRow base 9 1 (.slice q.g b.log.length q.gc) b.log.length (Am b.log)∧w.heap.size≤base∧base≤w'.heap.size∧(Dt q.o base∧Dt q.a base∧Dt q.c base∧Dt q.l base)∧(Cm q.o w.heap.size∧Cm q.a w.heap.size∧Cm q.c w.heap.size∧Cm q.l w.heap.size∧Cm q.g w.heap.size)
 bel:BW w w'
theorem Oq (b:Bk) (p:Bp) (w:World) (hx:Aq w b p) (hn:D0 b) :
  Calls prog 71 #[C5 b p] w (CpR w b):=by
 have HX:Hid (∀ u,BW w u→Aq u b p):=fun u h=>hx.below h
 have HN:Hid (D0 b):=hn;clear hx hn;obtain ⟨td,fo,az,cs,ls,lg⟩:=b;obtain ⟨o,oc,a,ac,c,cc,l,lc,g,gc⟩:=p;unfold C5
 simp only
 obtain ⟨u0,hu0⟩:∃ u,u=(w.alloc (.cells #[.int .i64 td,.slice o fo.length oc,.slice a az.length ac,.slice c cs.length cc,.slice l ls.length lc,.slice g lg.length gc] 31)).alloc (.cells #[.int .i64 0,.slice none 0 0,.slice none 0 0,.slice none 0 0,.slice none 0 0,.slice none 0 0] 31):=⟨_,rfl⟩
 have HB0:Hid (BW w u0):=by rw [Hid,hu0];go_grown
 have HS0:Hid (w.heap.size+1+1≤u0.heap.size):=by rw [Hid,hu0];simp
 have HZ0:Hid (Z6 w.heap.size (.int .i64 td) (.slice o fo.length oc) (.slice a az.length ac) (.slice c cs.length cc) (.slice l ls.length lc) (.slice g lg.length gc) u0):=by
  rw [Hid,hu0];exact (Z6.new w (.int .i64 td) (.slice o fo.length oc) (.slice a az.length ac) (.slice c cs.length cc) (.slice l ls.length lc) (.slice g lg.length gc) 31).below (bR.alloc nL _)
 have HR0:Hid (Z6 (w.heap.size+1) (.int .i64 0) (.slice none 0 0) (.slice none 0 0) (.slice none 0 0) (.slice none 0 0) (.slice none 0 0) u0):=by
  have h:=Z6.new (w.alloc (.cells #[.int .i64 td,.slice o fo.length oc,.slice a az.length ac,.slice c cs.length cc,.slice l ls.length lc,.slice g lg.length gc] 31)) (.int .i64 0) (.slice none 0 0) (.slice none 0 0) (.slice none 0 0) (.slice none 0 0) (.slice none 0 0) 31
  rw [Hid,hu0];simpa using h
 have HU0:Hid _:=hu0;clear hu0
 go_enter func71,ntmps71
 go_upto_region 1 with fail
 rw [← HU0.o];clear HU0
 have n1:fo.length≤1048576:=by have:=HN.o.1;simpa using this
 have x1:=(HZ0.o.below (bR.alloc nL (.cells #[] 3))).c1
 have HE1:Hid ((u0.alloc (.cells #[] 3)).ownsRow (w.heap.size+1+1) 3 1 (.slice (some ⟨u0.heap.size,0,none⟩) 0 0) 0 []):=by
  have h:=World.ownsRow_lit (base:=w.heap.size+1+1) (e:=3) (size:=1) u0 #[] 0 HS0.o (by unfold maxLen;omega) rfl
  rw [Hid];simpa using h
 have HI1:Hid _:=(HX.o _ (HB0.o.alloc HB0.o.size (.cells #[] 3))).off
 simp only at HI1
 have HP1:Hid (∀ v2 w2,w2.ownsRow (w.heap.size+1+1) 3 1 v2 (0+fo.length) ([]++(fo.map (Value.int .i64)))→(u0.alloc (.cells #[] 3)).grownBy w2 (some u0.heap.size)→∃ a9 k9,v2=.slice a9 fo.length k9∧w2.ownsRow (w.heap.size+1+1) 3 1 (.slice a9 fo.length k9) fo.length (fo.map (Value.int .i64))∧Z6 w.heap.size (.int .i64 td) (.slice o fo.length oc) (.slice a az.length ac) (.slice c cs.length cc) (.slice l ls.length lc) (.slice g lg.length gc) w2∧BW u0 w2):=by
  intro v2 w2 o2 g2;rw [Nat.zero_add,List.nil_append] at o2;obtain ⟨a9,k9,hv⟩:=Hb o2;subst hv;have b2:=Jz rfl g2;exact ⟨a9,k9,rfl,o2,HZ0.o.below b2,b2⟩
 go_upto_region 2 with (at_builtin;refine Gf _ rfl (.tmp 3) (.tmp 5) rfl (w.heap.size+1+1) _ 0 [] rfl HE1.o o oc fo rfl HI1.o (by omega) (by have:=HS0.o;simp;omega) ?_;intro v2 w2 o2 g2;obtain ⟨b1,k1,hv2,r1,zz,bb⟩:=HP1.o v2 w2 o2 g2;subst hv2;have y1:=zz.c1;have f1:=zz.z1;have HRW1:Hid _:=r1;have HZW1:Hid _:=zz;have HBB1:Hid _:=bb;clear o2 g2 zz bb r1)
 clear HE1 HI1 HP1 x1;obtain ⟨u1,hu1⟩:∃ u,u=w2.setCell ⟨w.heap.size,1,none⟩ (.slice b1 fo.length k1):=⟨_,rfl⟩
 have HZ1:Hid (Z6 w.heap.size (.int .i64 td) (.slice b1 fo.length k1) (.slice a az.length ac) (.slice c cs.length cc) (.slice l ls.length lc) (.slice g lg.length gc) u1):=by rw [Hid,hu1];exact HZW1.o.set1 _
 have HR1:Hid (Z6 (w.heap.size+1) (.int .i64 0) (.slice none 0 0) (.slice none 0 0) (.slice none 0 0) (.slice none 0 0) (.slice none 0 0) u1):=by rw [Hid,hu1];exact (HR0.o.below HBB1.o).far (by omega)
 have HB1:Hid (BW w u1):=by rw [Hid,hu1];exact (next HB0.o HBB1.o).setCell nL _
 have HS1:Hid (w.heap.size+1+1≤u1.heap.size):=by rw [Hid,hu1];have:=HBB1.o.size;have:=HS0.o;simp;omega
 have HO1_1:Hid (u1.ownsRow (w.heap.size+1+1) 3 1 (.slice b1 fo.length k1) fo.length (fo.map (Value.int .i64))):=by rw [Hid,hu1];exact Ad (HRW1.o) (by omega)
 rw [← hu1];clear hu1 y1 f1 HZW1 HRW1 HBB1 HZ0 HR0 HB0 HS0 n1
 have n2:az.length≤1048576:=by have:=HN.o.2.1;simpa using this
 have x2:=(HZ1.o.below (bR.alloc nL (.cells #[] 107))).c2
 have HE2:Hid ((u1.alloc (.cells #[] 107)).ownsRow (w.heap.size+1+1) 107 6 (.slice (some ⟨u1.heap.size,0,none⟩) 0 0) 0 []):=by
  have h:=World.ownsRow_lit (base:=w.heap.size+1+1) (e:=107) (size:=6) u1 #[] 0 HS1.o (by unfold maxLen;omega) rfl
  rw [Hid];simpa using h
 have HI2:Hid _:=(HX.o _ (HB1.o.alloc HB1.o.size (.cells #[] 107))).az
 simp only at HI2
 have HP2:Hid (∀ v2 w2,w2.ownsRow (w.heap.size+1+1) 107 6 v2 (0+az.length) ([]++(Ah az))→(u1.alloc (.cells #[] 107)).grownBy w2 (some u1.heap.size)→∃ a9 k9,v2=.slice a9 az.length k9∧w2.ownsRow (w.heap.size+1+1) 107 6 (.slice a9 az.length k9) az.length (Ah az)∧Z6 w.heap.size (.int .i64 td) (.slice b1 fo.length k1) (.slice a az.length ac) (.slice c cs.length cc) (.slice l ls.length lc) (.slice g lg.length gc) w2∧BW u1 w2):=by
  intro v2 w2 o2 g2;rw [Nat.zero_add,List.nil_append] at o2;obtain ⟨a9,k9,hv⟩:=Hb o2;subst hv;have b2:=Jz rfl g2;exact ⟨a9,k9,rfl,o2,HZ1.o.below b2,b2⟩
 go_upto_region 3 with (at_builtin;refine Bu _ rfl (.tmp 8) (.tmp 10) rfl (w.heap.size+1+1) _ 0 [] rfl HE2.o a ac az rfl HI2.o (by omega) (by have:=HS1.o;simp;omega) ?_;intro v2 w2 o2 g2 _;obtain ⟨b2,k2,hv2,r2,zz,bb⟩:=HP2.o v2 w2 o2 g2;subst hv2;have y2:=zz.c2;have f2:=zz.z2;have HRW2:Hid _:=r2;have HZW2:Hid _:=zz;have HBB2:Hid _:=bb;clear o2 g2 zz bb r2)
 clear HE2 HI2 HP2 x2;obtain ⟨u2,hu2⟩:∃ u,u=w2.setCell ⟨w.heap.size,2,none⟩ (.slice b2 az.length k2):=⟨_,rfl⟩
 have HZ2:Hid (Z6 w.heap.size (.int .i64 td) (.slice b1 fo.length k1) (.slice b2 az.length k2) (.slice c cs.length cc) (.slice l ls.length lc) (.slice g lg.length gc) u2):=by rw [Hid,hu2];exact HZW2.o.set2 _
 have HR2:Hid (Z6 (w.heap.size+1) (.int .i64 0) (.slice none 0 0) (.slice none 0 0) (.slice none 0 0) (.slice none 0 0) (.slice none 0 0) u2):=by rw [Hid,hu2];exact (HR1.o.below HBB2.o).far (by omega)
 have HB2:Hid (BW w u2):=by rw [Hid,hu2];exact (next HB1.o HBB2.o).setCell nL _
 have HS2:Hid (w.heap.size+1+1≤u2.heap.size):=by rw [Hid,hu2];have:=HBB2.o.size;have:=HS1.o;simp;omega
 have HO1_2:Hid (u2.ownsRow (w.heap.size+1+1) 3 1 (.slice b1 fo.length k1) fo.length (fo.map (Value.int .i64))):=by rw [Hid,hu2];exact Ad (Av HO1_1.o HBB2.o) (by omega)
 have HO2_2:Hid (u2.ownsRow (w.heap.size+1+1) 107 6 (.slice b2 az.length k2) az.length (Ah az)):=by rw [Hid,hu2];exact Ad (HRW2.o) (by omega)
 rw [← hu2];clear hu2 y2 f2 HZW2 HRW2 HBB2 HZ1 HR1 HB1 HS1 n2 HO1_1
 have n3:cs.length≤1048576:=by have:=HN.o.2.2.1;simpa using this
 have x3:=(HZ2.o.below (bR.alloc nL (.cells #[] 61))).c3
 have HE3:Hid ((u2.alloc (.cells #[] 61)).ownsRow (w.heap.size+1+1) 61 12 (.slice (some ⟨u2.heap.size,0,none⟩) 0 0) 0 []):=by
  have h:=World.ownsRow_lit (base:=w.heap.size+1+1) (e:=61) (size:=12) u2 #[] 0 HS2.o (by unfold maxLen;omega) rfl
  rw [Hid];simpa using h
 have HI3:Hid _:=(HX.o _ (HB2.o.alloc HB2.o.size (.cells #[] 61))).cs
 simp only at HI3
 have HP3:Hid (∀ v2 w2,w2.ownsRow (w.heap.size+1+1) 61 12 v2 (0+cs.length) ([]++(Aj cs))→(u2.alloc (.cells #[] 61)).grownBy w2 (some u2.heap.size)→∃ a9 k9,v2=.slice a9 cs.length k9∧w2.ownsRow (w.heap.size+1+1) 61 12 (.slice a9 cs.length k9) cs.length (Aj cs)∧Z6 w.heap.size (.int .i64 td) (.slice b1 fo.length k1) (.slice b2 az.length k2) (.slice c cs.length cc) (.slice l ls.length lc) (.slice g lg.length gc) w2∧BW u2 w2):=by
  intro v2 w2 o2 g2;rw [Nat.zero_add,List.nil_append] at o2;obtain ⟨a9,k9,hv⟩:=Hb o2;subst hv;have b2:=Jz rfl g2;exact ⟨a9,k9,rfl,o2,HZ2.o.below b2,b2⟩
 go_upto_region 4 with (at_builtin;refine Eh _ rfl (.tmp 13) (.tmp 15) rfl (w.heap.size+1+1) _ 0 [] rfl HE3.o c cc cs rfl HI3.o (by omega) (by have:=HS2.o;simp;omega) ?_;intro v2 w2 o2 g2 _;obtain ⟨b3,k3,hv2,r3,zz,bb⟩:=HP3.o v2 w2 o2 g2;subst hv2;have y3:=zz.c3;have f3:=zz.z3;have HRW3:Hid _:=r3;have HZW3:Hid _:=zz;have HBB3:Hid _:=bb;clear o2 g2 zz bb r3)
 clear HE3 HI3 HP3 x3;obtain ⟨u3,hu3⟩:∃ u,u=w2.setCell ⟨w.heap.size,3,none⟩ (.slice b3 cs.length k3):=⟨_,rfl⟩
 have HZ3:Hid (Z6 w.heap.size (.int .i64 td) (.slice b1 fo.length k1) (.slice b2 az.length k2) (.slice b3 cs.length k3) (.slice l ls.length lc) (.slice g lg.length gc) u3):=by rw [Hid,hu3];exact HZW3.o.set3 _
 have HR3:Hid (Z6 (w.heap.size+1) (.int .i64 0) (.slice none 0 0) (.slice none 0 0) (.slice none 0 0) (.slice none 0 0) (.slice none 0 0) u3):=by rw [Hid,hu3];exact (HR2.o.below HBB3.o).far (by omega)
 have HB3:Hid (BW w u3):=by rw [Hid,hu3];exact (next HB2.o HBB3.o).setCell nL _
 have HS3:Hid (w.heap.size+1+1≤u3.heap.size):=by rw [Hid,hu3];have:=HBB3.o.size;have:=HS2.o;simp;omega
 have HO1_3:Hid (u3.ownsRow (w.heap.size+1+1) 3 1 (.slice b1 fo.length k1) fo.length (fo.map (Value.int .i64))):=by rw [Hid,hu3];exact Ad (Av HO1_2.o HBB3.o) (by omega)
 have HO2_3:Hid (u3.ownsRow (w.heap.size+1+1) 107 6 (.slice b2 az.length k2) az.length (Ah az)):=by rw [Hid,hu3];exact Ad (Av HO2_2.o HBB3.o) (by omega)
 have HO3_3:Hid (u3.ownsRow (w.heap.size+1+1) 61 12 (.slice b3 cs.length k3) cs.length (Aj cs)):=by rw [Hid,hu3];exact Ad (HRW3.o) (by omega)
 rw [← hu3];clear hu3 y3 f3 HZW3 HRW3 HBB3 HZ2 HR2 HB2 HS2 n3 HO1_2 HO2_2
 have n4:ls.length≤1048576:=by have:=HN.o.2.2.2.1;simpa using this
 have x4:=HZ3.o.c4;have zf4:=HZ3.o.z4;go_wp2_with fail
 refine (Hh _ _ ls _ (HX.o _ HB3.o).ls (by omega)).mono ?_
 rintro e w2 ⟨b4,k4,rfl,o4,bb⟩;have HRW4:Hid (w2.ownsRow (w.heap.size+1+1) 113 3 (.slice b4 ls.length k4) ls.length (Ag ls)):=Bi o4 HS3.o;have HZW4:Hid (Z6 w.heap.size (.int .i64 td) (.slice b1 fo.length k1) (.slice b2 az.length k2) (.slice b3 cs.length k3) (.slice l ls.length lc) (.slice g lg.length gc) w2):=HZ3.o.below bb;have HBB4:Hid _:=bb;have y4:=HZW4.o.c4;have f4:=HZW4.o.z4;clear bb o4 x4 zf4;go_upto_region 5 with fail
 obtain ⟨u4,hu4⟩:∃ u,u=w2.setCell ⟨w.heap.size,4,none⟩ (.slice b4 ls.length k4):=⟨_,rfl⟩
 have HZ4:Hid (Z6 w.heap.size (.int .i64 td) (.slice b1 fo.length k1) (.slice b2 az.length k2) (.slice b3 cs.length k3) (.slice b4 ls.length k4) (.slice g lg.length gc) u4):=by rw [Hid,hu4];exact HZW4.o.set4 _
 have HR4:Hid (Z6 (w.heap.size+1) (.int .i64 0) (.slice none 0 0) (.slice none 0 0) (.slice none 0 0) (.slice none 0 0) (.slice none 0 0) u4):=by rw [Hid,hu4];exact (HR3.o.below HBB4.o).far (by omega)
 have HB4:Hid (BW w u4):=by rw [Hid,hu4];exact (next HB3.o HBB4.o).setCell nL _
 have HS4:Hid (w.heap.size+1+1≤u4.heap.size):=by rw [Hid,hu4];have:=HBB4.o.size;have:=HS3.o;simp;omega
 have HO1_4:Hid (u4.ownsRow (w.heap.size+1+1) 3 1 (.slice b1 fo.length k1) fo.length (fo.map (Value.int .i64))):=by rw [Hid,hu4];exact Ad (Av HO1_3.o HBB4.o) (by omega)
 have HO2_4:Hid (u4.ownsRow (w.heap.size+1+1) 107 6 (.slice b2 az.length k2) az.length (Ah az)):=by rw [Hid,hu4];exact Ad (Av HO2_3.o HBB4.o) (by omega)
 have HO3_4:Hid (u4.ownsRow (w.heap.size+1+1) 61 12 (.slice b3 cs.length k3) cs.length (Aj cs)):=by rw [Hid,hu4];exact Ad (Av HO3_3.o HBB4.o) (by omega)
 have HO4_4:Hid (u4.ownsRow (w.heap.size+1+1) 113 3 (.slice b4 ls.length k4) ls.length (Ag ls)):=by rw [Hid,hu4];exact Ad (HRW4.o) (by omega)
 rw [← hu4];clear hu4 y4 f4 HZW4 HRW4 HBB4 HZ3 HR3 HB3 HS3 n4 HO1_3 HO2_3 HO3_3
 have n5:lg.length≤1048576:=by have:=HN.o.2.2.2.2;simpa using this
 have x5:=(HZ4.o.below (bR.alloc nL (.cells #[] 9))).c5;obtain ⟨BS5,hBS⟩:∃ n,n=u4.heap.size:=⟨_,rfl⟩
 have HBS:Hid (w.heap.size+1+1≤BS5∧BS5≤u4.heap.size):=by rw [Hid,hBS];exact ⟨HS4.o,nL⟩
 have HAH:Hid (Dt b1 BS5∧Dt b2 BS5∧Dt b3 BS5∧Dt b4 BS5):=by
  rw [Hid,hBS];exact ⟨G8 HO1_4.o nL,G8 HO2_4.o nL,G8 HO3_4.o nL,G8 HO4_4.o nL⟩
 clear hBS
 have HE5:Hid ((u4.alloc (.cells #[] 9)).ownsRow BS5 9 1 (.slice (some ⟨u4.heap.size,0,none⟩) 0 0) 0 []):=by
  have h:=World.ownsRow_lit (base:=BS5) (e:=9) (size:=1) u4 #[] 0 HBS.o.2 (by unfold maxLen;omega) rfl
  rw [Hid];simpa using h
 have HI5:Hid _:=(HX.o _ (HB4.o.alloc HB4.o.size (.cells #[] 9))).log
 simp only at HI5
 have HP5:Hid (∀ v2 w2,w2.ownsRow BS5 9 1 v2 (0+lg.length) ([]++(Am lg))→(u4.alloc (.cells #[] 9)).grownBy w2 (some u4.heap.size)→∃ a9 k9,v2=.slice a9 lg.length k9∧w2.ownsRow BS5 9 1 (.slice a9 lg.length k9) lg.length (Am lg)∧Z6 w.heap.size (.int .i64 td) (.slice b1 fo.length k1) (.slice b2 az.length k2) (.slice b3 cs.length k3) (.slice b4 ls.length k4) (.slice g lg.length gc) w2∧BW u4 w2):=by
  intro v2 w2 o2 g2;rw [Nat.zero_add,List.nil_append] at o2;obtain ⟨a9,k9,hv⟩:=Hb o2;subst hv;have b2:=Jz rfl g2;exact ⟨a9,k9,rfl,o2,HZ4.o.below b2,b2⟩
 go_upto_region 6 with (at_builtin;refine Kh _ rfl (.tmp 22) (.tmp 24) rfl BS5 _ 0 [] rfl HE5.o g gc lg rfl HI5.o (by omega) (by have:=HBS.o;simp;omega) ?_;intro v2 w2 o2 g2;obtain ⟨b5,k5,hv2,r5,zz,bb⟩:=HP5.o v2 w2 o2 g2;subst hv2;have y5:=zz.c5;have f5:=zz.z5;have HRW5:Hid _:=r5;have HZW5:Hid _:=zz;have HBB5:Hid _:=bb;clear o2 g2 zz bb r5)
 clear HE5 HI5 HP5 x5;obtain ⟨u5,hu5⟩:∃ u,u=w2.setCell ⟨w.heap.size,5,none⟩ (.slice b5 lg.length k5):=⟨_,rfl⟩
 have HZ5:Hid (Z6 w.heap.size (.int .i64 td) (.slice b1 fo.length k1) (.slice b2 az.length k2) (.slice b3 cs.length k3) (.slice b4 ls.length k4) (.slice b5 lg.length k5) u5):=by rw [Hid,hu5];exact HZW5.o.set5 _
 have HR5:Hid (Z6 (w.heap.size+1) (.int .i64 0) (.slice none 0 0) (.slice none 0 0) (.slice none 0 0) (.slice none 0 0) (.slice none 0 0) u5):=by rw [Hid,hu5];exact (HR4.o.below HBB5.o).far (by omega)
 have HB5S:Hid (BS5≤u5.heap.size):=by rw [Hid,hu5];have:=HBB5.o.size;have:=HBS.o;simp;omega
 have HB5:Hid (BW w u5):=by rw [Hid,hu5];exact (next HB4.o HBB5.o).setCell nL _
 have HS5:Hid (w.heap.size+1+1≤u5.heap.size):=by rw [Hid,hu5];have:=HBB5.o.size;have:=HS4.o;simp;omega
 have HO1_5:Hid (u5.ownsRow (w.heap.size+1+1) 3 1 (.slice b1 fo.length k1) fo.length (fo.map (Value.int .i64))):=by rw [Hid,hu5];exact Ad (Av HO1_4.o HBB5.o) (by omega)
 have HO2_5:Hid (u5.ownsRow (w.heap.size+1+1) 107 6 (.slice b2 az.length k2) az.length (Ah az)):=by rw [Hid,hu5];exact Ad (Av HO2_4.o HBB5.o) (by omega)
 have HO3_5:Hid (u5.ownsRow (w.heap.size+1+1) 61 12 (.slice b3 cs.length k3) cs.length (Aj cs)):=by rw [Hid,hu5];exact Ad (Av HO3_4.o HBB5.o) (by omega)
 have HO4_5:Hid (u5.ownsRow (w.heap.size+1+1) 113 3 (.slice b4 ls.length k4) ls.length (Ag ls)):=by rw [Hid,hu5];exact Ad (Av HO4_4.o HBB5.o) (by omega)
 have HO5_5:Hid (u5.ownsRow BS5 9 1 (.slice b5 lg.length k5) lg.length (Am lg)):=by rw [Hid,hu5];exact Ad (HRW5.o) (by have:=HBS.o;omega)
 rw [← hu5];clear hu5 y5 f5 HZW5 HRW5 HBB5 HZ4 HR4 HB4 HS4 n5 HO1_4 HO2_4 HO3_4 HO4_4;have HBZ:Hid (BS5≤u5.heap.size):=HB5S.o;obtain ⟨t0,t1,t2,t3,t4,t5,-,-,-,-,-,-⟩:=HZ5.o;obtain ⟨q0,q1,q2,q3,q4,q5,p0,p1,p2,p3,p4,p5⟩:=HR5.o;go_wp2
 refine bodyPost_ret (by simp [results,results71,go_sem,q0,q1,q2,q3,q4,q5];try rfl) rfl ?_
 have bel:∀ (i:Nat) (x:Value) (u:World),BW w u→Below w.heap.size w (u.setCell ⟨w.heap.size+1,i,none⟩ x):=fun i x u h=>h.setCell (show w.heap.size≤w.heap.size+1 by omega) x
 have hbs:=HBS.o
 refine ⟨⟨⟨b1,k1,b2,k2,b3,k3,b4,k4,b5,k5⟩,BS5,rfl,⟨Hq (Ad (Ad (Ad (Ad (Ad (Ad (HO1_5.o) (by omega)) (by omega)) (by omega)) (by omega)) (by omega)) (by omega)),Fd (Ad (Ad (Ad (Ad (Ad (Ad (HO2_5.o) (by omega)) (by omega)) (by omega)) (by omega)) (by omega)) (by omega)),F2 (Ad (Ad (Ad (Ad (Ad (Ad (HO3_5.o) (by omega)) (by omega)) (by omega)) (by omega)) (by omega)) (by omega)),Df (Ad (Ad (Ad (Ad (Ad (Ad (HO4_5.o) (by omega)) (by omega)) (by omega)) (by omega)) (by omega)) (by omega)),Ep (Ad (Ad (Ad (Ad (Ad (Ad (HO5_5.o) (by omega)) (by omega)) (by omega)) (by omega)) (by omega)) (by omega))⟩,(Ad (Ad (Ad (Ad (Ad (Ad (HO5_5.o) (by omega)) (by omega)) (by omega)) (by omega)) (by omega)) (by omega)),by omega,by simpa using HBZ.o,HAH.o,⟨Cw (Bi HO1_5.o (show w.heap.size≤_ by omega)),Cw (Bi HO2_5.o (show w.heap.size≤_ by omega)),Cw (Bi HO3_5.o (show w.heap.size≤_ by omega)),Cw (Bi HO4_5.o (show w.heap.size≤_ by omega)),Cw (Bi HO5_5.o (show w.heap.size≤_ by omega))⟩⟩,bel _ _ _ (bel _ _ _ (bel _ _ _ (bel _ _ _ (bel _ _ _ (bel _ _ _ HB5.o)))))⟩
def Im (a:Option Addr) (B:Nat):Prop:=∀ x,a=some x→x.block≠B
theorem An (u:World) (B i:Nat) (x:Value):u.grownBy (u.setCell ⟨B,i,none⟩ x) (some B):=⟨rfl,rfl,rfl,by simp,fun j _ hj=>Below.heap_setCell _ _ _ _ (fun e=>hj (by rw [e]))⟩
theorem Mi {b off:Nat} {a:Option Addr} {row:Option Nat} (ha:a=some ⟨b,off,none⟩) (h:∀ B,row=some B→Im a B):some b≠row:=fun e=>h b e.symm _ ha rfl
theorem Aw.far {u u':World} {a:Option Addr} {zs:List Int} {row:Option Nat} (h:Aw u a zs) (g:u.grownBy u' row) (hne:∀ B,row=some B→Im a B):Aw u' a zs:=by
 rcases h with h | ⟨b,off,h1,h2,h3⟩
 ·exact .inl h
 ·exact .inr ⟨b,off,h1,Nat.lt_of_lt_of_le h2 g.size,fun i hi=>(g.cell_far ⟨b,off+i,none⟩ h2 (Mi h1 hne)).trans (h3 i hi)⟩
theorem Bh.far {u u':World} {a:Option Addr} {rs:Be} {row:Option Nat} (h:Bh u a rs) (g:u.grownBy u' row) (hne:∀ B,row=some B→Im a B):Bh u' a rs:=by
 rcases h with h | ⟨b,off,h1,h2,h3⟩
 ·exact .inl h
 ·exact .inr ⟨b,off,h1,Nat.lt_of_lt_of_le h2 g.size,fun i hi=>(g.cell_far ⟨b,off+i,none⟩ h2 (Mi h1 hne)).trans (h3 i hi)⟩
theorem Ar.far {u u':World} {a:Option Addr} {az:List Au} {row:Option Nat} (h:Ar u a az) (g:u.grownBy u' row) (hne:∀ B,row=some B→Im a B):Ar u' a az:=by
 rcases h with h | ⟨b,off,h1,h2,h3⟩
 ·exact .inl h
 ·have hs:=Mi h1 hne
  exact .inr ⟨b,off,h1,Nat.lt_of_lt_of_le h2 g.size,fun i hi=>⟨(g.cell_far ⟨b,off+i*6,none⟩ h2 hs).trans (h3 i hi).1,(g.cell_far ⟨b,off+i*6+1,none⟩ h2 hs).trans (h3 i hi).2.1,(g.cell_far ⟨b,off+i*6+2,none⟩ h2 hs).trans (h3 i hi).2.2.1,(g.cell_far ⟨b,off+i*6+3,none⟩ h2 hs).trans (h3 i hi).2.2.2.1,(g.cell_far ⟨b,off+i*6+4,none⟩ h2 hs).trans (h3 i hi).2.2.2.2.1,(g.cell_far ⟨b,off+i*6+5,none⟩ h2 hs).trans (h3 i hi).2.2.2.2.2⟩⟩
theorem A0.far {u u':World} {a:Option Addr} {cs:List Cs} {row:Option Nat} (h:A0 u a cs) (g:u.grownBy u' row) (hne:∀ B,row=some B→Im a B):A0 u' a cs:=by
 rcases h with h | ⟨b,off,h1,h2,h3⟩
 ·exact .inl h
 ·exact .inr ⟨b,off,h1,Nat.lt_of_lt_of_le h2 g.size,fun i hi=>(h3 i hi).grown g (Mi h1 hne)⟩
theorem Ai.far {u u':World} {a:Option Addr} {ls:List Ln} {row:Option Nat} (h:Ai u a ls) (g:u.grownBy u' row) (hne:∀ B,row=some B→Im a B):Ai u' a ls:=by
 rcases h with h | ⟨b,off,h1,h2,h3⟩
 ·exact .inl h
 ·have hs:=Mi h1 hne
  exact .inr ⟨b,off,h1,Nat.lt_of_lt_of_le h2 g.size,fun i hi=>⟨(g.cell_far ⟨b,off+i*3,none⟩ h2 hs).trans (h3 i hi).1,(g.cell_far ⟨b,off+i*3+1,none⟩ h2 hs).trans (h3 i hi).2.1,(g.cell_far ⟨b,off+i*3+2,none⟩ h2 hs).trans (h3 i hi).2.2⟩⟩
structure Wq (q:Bp) (B:Nat):Prop where
 o:Im q.o B
 a:Im q.a B
 c:Im q.c B
 l:Im q.l B
 g:Im q.g B
theorem Aq.set {u:World} {b:Bk} {q:Bp} {B i:Nat} {x:Value} (h:Aq u b q) (n:Wq q B):Aq (u.setCell ⟨B,i,none⟩ x) b q :=
 ⟨h.off.far (An u B i x) (fun B' e=>by cases e;exact n.o),h.az.far (An u B i x) (fun B' e=>by cases e;exact n.a),h.cs.far (An u B i x) (fun B' e=>by cases e;exact n.c),h.ls.far (An u B i x) (fun B' e=>by cases e;exact n.l),h.log.far (An u B i x) (fun B' e=>by cases e;exact n.g)⟩
theorem Aq.put6 {u:World} {b:Bk} {q:Bp} {B:Nat} (h:Aq u b q) (n:Wq q B) (x0 x1 x2 x3 x4 x5:Value) :
  Aq ((((((u.setCell ⟨B,0,none⟩ x0).setCell ⟨B,1,none⟩ x1).setCell ⟨B,2,none⟩ x2).setCell ⟨B,3,none⟩ x3).setCell ⟨B,4,none⟩ x4).setCell ⟨B,5,none⟩ x5) b q :=
 (((((h.set n).set n).set n).set n).set n).set n
theorem Bb {a:Option Addr} {n B:Nat} (h:Cm a n) (hB:B<n):Im a B:=fun x hx e=>by have:=h x hx;omega
theorem Td {a:Option Addr} {n B:Nat} (h:Dt a n) (hB:n≤B):Im a B:=fun x hx e=>by have:=h x hx;omega
structure Vb (p:Bp) (n:Nat):Prop where
 o:Dt p.o n
 a:Dt p.a n
 c:Dt p.c n
 l:Dt p.l n
 g:Dt p.g n
theorem Dt.mono {a:Option Addr} {n m:Nat} (h:Dt a n) (hm:n≤m):Dt a m:=fun x hx=>by have:=h x hx;omega
theorem Kf {a a1:Option Addr} {n m B:Nat} (h:a=a1∨Cm a m) (h1:Dt a1 n) (hb:n≤B) (hB:B<m):Im a B:=by
 rcases h with rfl | h
 ·exact Td h1 hb
 ·exact Bb h hB
theorem nX {p q:Bp} {n m B:Nat} (h:Vb p n) (hg:q.g=p.g) (hp:q.o=p.o∧(q.a=p.a∨Cm q.a m)∧(q.c=p.c∨Cm q.c m)∧(q.l=p.l∨Cm q.l m)) (hb:n≤B) (hB:B<m):Wq q B :=
 ⟨Kf (m:=m) (.inl hp.1) h.o hb hB,Kf hp.2.1 h.a hb hB,Kf hp.2.2.1 h.c hb hB,Kf hp.2.2.2 h.l hb hB,Kf (m:=m) (.inl hg) h.g hb hB⟩
theorem Z6.put6 {B:Nat} {v0 v1 v2 v3 v4 v5:Value} {u:World} (h:Z6 B v0 v1 v2 v3 v4 v5 u) (x0 x1 x2 x3 x4 x5:Value) :
  Z6 B x0 x1 x2 x3 x4 x5 ((((((u.setCell ⟨B,0,none⟩ x0).setCell ⟨B,1,none⟩ x1).setCell ⟨B,2,none⟩ x2).setCell ⟨B,3,none⟩ x3).setCell ⟨B,4,none⟩ x4).setCell ⟨B,5,none⟩ x5) :=
 (((((h.set0 x0).set1 x1).set2 x2).set3 x3).set4 x4).set5 x5
theorem Z6.far6 {B B':Nat} {v0 v1 v2 v3 v4 v5:Value} {u:World} (h:Z6 B v0 v1 v2 v3 v4 v5 u) (hne:B'≠B) (x0 x1 x2 x3 x4 x5:Value) :
  Z6 B v0 v1 v2 v3 v4 v5 ((((((u.setCell ⟨B',0,none⟩ x0).setCell ⟨B',1,none⟩ x1).setCell ⟨B',2,none⟩ x2).setCell ⟨B',3,none⟩ x3).setCell ⟨B',4,none⟩ x4).setCell ⟨B',5,none⟩ x5) :=
 (((((h.far hne).far hne).far hne).far hne).far hne).far hne
structure Ff where
 prune:List Au→Int→List Au
 use:List Au→Int→List Au
 useOk:List Au→Int→Bool
 add:List Au→Au→List Au
 addOk:List Au→Au→Bool
 best:List Au→Int→Int→Int→Int→Int→Prop
 stC:Int→Int→Int→Int→Int→Cs
 stE:Int→Int→Int→Int→Int→List En
 stOk:Int→Int→Int→Int→Int→Bool
 doC:Cs→Ac→Int→List Int→Cs
 doE:Cs→Ac→Int→List Int→List En
 doV:Cs→Ac→Int→List Int→Int
 all:List Ln→List En→List Ln
 allOk:List Ln→List En→Bool
structure Nc (F:Ff):Prop where
 prune:∀ (ao:Option Addr) (cap:Nat) (az:List Au) (t:Int) (w:World),Ar w ao az→az.length≤1048576→Calls prog 178 #[.slice ao az.length cap,.int .i64 t] w (pA w (F.prune az t))
 use:∀ (ao:Option Addr) (cap:Nat) (az:List Au) (i:Int) (w:World),Ar w ao az→az.length≤1048576→Calls prog 183 #[.slice ao az.length cap,.int .i64 i] w (Pi w (F.use az i) (F.useOk az i))
 add:∀ (ao:Option Addr) (cap:Nat) (az:List Au) (a:Au) (w:World),Ar w ao az→az.length≤1048576→a.ref.length≤1048576→Calls prog 143 #[.slice ao az.length cap,Fe a] w (Pi w (F.add az a) (F.addOk az a))
 best:∀ (ao:Option Addr) (cap:Nat) (az:List Au) (iY cQ am day:Int) (w:World),Ar w ao az→az.length≤1048576→(∀ a ∈ az,a.ref.length≤1048576)→(Lit.int .i64 am).wf=true→(Lit.int .i64 day).wf=true →
  Calls prog 180 #[.slice ao az.length cap,.int .i64 iY,.int .i64 cQ,.int .i64 am,.int .i64 day] w fun e w'=>∃ x,e=.returned (.int .i64 x)∧F.best az iY cQ am day x∧BW w w'
 start:∀ (iY aZ cQ am day:Int) (w:World),Calls prog 181 #[.int .i64 iY,.int .i64 aZ,.int .i64 cQ,.int .i64 am,.int .i64 day] w fun e w'=>∃ ao cap,e=.returned (.tuple #[cv (F.stC iY aZ cQ am day),.slice ao (F.stE iY aZ cQ am day).length cap,.bool (F.stOk iY aZ cQ am day)])∧w'.ownsRow w.heap.size 269 4 (.slice ao (F.stE iY aZ cQ am day).length cap) (F.stE iY aZ cQ am day).length (Ba (F.stE iY aZ cQ am day))∧BW w w'
 small:∀ iY aZ cQ am day,(F.stE iY aZ cQ am day).length≤1048576
 act:∀ (c:Cs) (a:Ac) (t:Int) (ao:Option Addr) (cp:Nat) (zs:List Int) (w:World),Aw w ao zs→zs.length≤1048576→Calls prog 184 #[cv c,av a,.int .i64 t,.slice ao zs.length cp] w fun e w'=>∃ ao cap,e=.returned (.tuple #[cv (F.doC c a t zs),.slice ao (F.doE c a t zs).length cap,.int .i64 (F.doV c a t zs)])∧w'.ownsRow w.heap.size 269 4 (.slice ao (F.doE c a t zs).length cap) (F.doE c a t zs).length (Ba (F.doE c a t zs))∧BW w w'
 few:∀ c a t zs,(F.doE c a t zs).length≤1048576
 code:∀ c a t zs,0≤F.doV c a t zs∧F.doV c a t zs≤1000
 post:∀ (ao:Option Addr) (cap:Nat) (ls:List Ln) (eo:Option Addr) (ec:Nat) (es:List En) (w:World),Ai w ao ls→ls.length≤1048576→C8 w eo es→es.length≤1048576 →
  Calls prog 182 #[.agg #[.slice ao ls.length cap],.slice eo es.length ec] w fun e w'=>∃ ao cap,e=.returned (.tuple #[.agg #[.slice ao (F.all ls es).length cap],.bool (F.allOk ls es)])∧w'.ownsRow w.heap.size 113 3 (.slice ao (F.all ls es).length cap) (F.all ls es).length (Ag (F.all ls es))∧BW w w'
def U8 (w:World) (p:Bp) (b':Bk) (code:Int) (e:Ending) (w':World):Prop :=
 ∃ q,e=.returned (.tuple #[C5 b' q,.int .i64 code])∧Aq w' b' q∧q.g=p.g∧q.gc=p.gc∧(q.o=p.o∧(q.a=p.a∨Cm q.a w.heap.size)∧(q.c=p.c∨Cm q.c w.heap.size)∧(q.l=p.l∨Cm q.l w.heap.size))∧BW w w'
theorem Ax {w u:World} {R:Nat} (hR:w.heap.size≤R) (h:BW w u) (x0 x1 x2 x3 x4 x5:Value) :
  Below w.heap.size w ((((((u.setCell ⟨R,0,none⟩ x0).setCell ⟨R,1,none⟩ x1).setCell ⟨R,2,none⟩ x2).setCell ⟨R,3,none⟩ x3).setCell ⟨R,4,none⟩ x4).setCell ⟨R,5,none⟩ x5) :=
 (((((h.setCell (p:=⟨R,0,none⟩) hR _).setCell (p:=⟨R,1,none⟩) hR _).setCell (p:=⟨R,2,none⟩) hR _).setCell (p:=⟨R,3,none⟩) hR _).setCell (p:=⟨R,4,none⟩) hR _).setCell (p:=⟨R,5,none⟩) hR _
theorem Ea {u:World} {base n size R:Nat} {t:TypeId} {v:Value} {xs:List Value} (o:u.ownsRow base t size v n xs) (hB:R<base) (x0 x1 x2 x3 x4 x5:Value) :
  ((((((u.setCell ⟨R,0,none⟩ x0).setCell ⟨R,1,none⟩ x1).setCell ⟨R,2,none⟩ x2).setCell ⟨R,3,none⟩ x3).setCell ⟨R,4,none⟩ x4).setCell ⟨R,5,none⟩ x5).ownsRow base t size v n xs :=
 Ad (Ad (Ad (Ad (Ad (Ad o hB) hB) hB) hB) hB) hB
theorem N6 {u:World} {base n size X:Nat} {t:TypeId} {v:Value} {xs:List Value} (c:Cs) (o:u.ownsRow base t size v n xs) (hB:X<base):(Cz u X c).ownsRow base t size v n xs :=
 Ad (Ad (Ad (Ad (Ad (Ad (Ad (Ad (Ad (Ad (Ad (Ad o hB) hB) hB) hB) hB) hB) hB) hB) hB) hB) hB) hB
theorem Qf {u u2:World} {t:TypeId} (bb:Below (u.alloc (.cells #[.int .i64 0,.int .i64 0,.int .i64 0,.int .i64 0,.int .i64 0,.int .i64 0,.int .i64 0,.int .i64 0,.int .i64 0,.bool false,.int .i64 0,.int .i64 0] t)).drew.heap.size (u.alloc (.cells #[.int .i64 0,.int .i64 0,.int .i64 0,.int .i64 0,.int .i64 0,.int .i64 0,.int .i64 0,.int .i64 0,.int .i64 0,.bool false,.int .i64 0,.int .i64 0] t)).drew u2) :
  CB u.heap.size 0 ⟨0,0,0,0,0,0,0,0,0,false,0,0⟩ u2∧FZ u.heap.size 0 u2∧Below (u.heap.size+1) (u.alloc (.cells #[.int .i64 0,.int .i64 0,.int .i64 0,.int .i64 0,.int .i64 0,.int .i64 0,.int .i64 0,.int .i64 0,.int .i64 0,.bool false,.int .i64 0,.int .i64 0] t)) u2:=by
 have h1:=(CB.new u ⟨0,0,0,0,0,0,0,0,0,false,0,0⟩ t).below (bR.drew)
 have h2:=(FZ.new u #[.int .i64 0,.int .i64 0,.int .i64 0,.int .i64 0,.int .i64 0,.int .i64 0,.int .i64 0,.int .i64 0,.int .i64 0,.bool false,.int .i64 0,.int .i64 0] t).below (by simp) (bR.drew)
 refine ⟨h1.below bb,h2.below (by simp) bb,?_⟩
 exact ((Below.refl (u.heap.size+1) _).drew).trans (bb.mono (by simp))
def Fr (F:Ff) (b:Bk) (n:Int):Bk×Int:=if Dn n=true∧b.today<n then (⟨n,b.off,F.prune b.az n,b.cs,b.ls,b.log⟩,0) else (b,4)
theorem bH (F:Ff) (b:Bk) {n:Int} (h:Dn n=false):Fr F b n=(b,4):=if_neg (by rw [h];simp)
theorem cS (F:Ff) {b:Bk} {n:Int} (h:¬ b.today<n):Fr F b n=(b,4):=if_neg (fun e=>h e.2)
theorem cA (F:Ff) {b:Bk} {n:Int} (h:Dn n=true) (g:b.today<n):Fr F b n=(⟨n,b.off,F.prune b.az n,b.cs,b.ls,b.log⟩,0):=if_pos ⟨h,g⟩
def Gs (u:World) (g k:Nat) (D:Cs):World:=((((((((((((u.setCell ⟨g,k*12,none⟩ (.int .i64 D.iss)).setCell ⟨g,k*12+1,none⟩ (.int .i64 D.acq)).setCell ⟨g,k*12+2,none⟩ (.int .i64 D.cur)).setCell ⟨g,k*12+3,none⟩ (.int .i64 D.am)).setCell ⟨g,k*12+4,none⟩ (.int .i64 D.st)).setCell ⟨g,k*12+5,none⟩ (.int .i64 D.rsn)).setCell ⟨g,k*12+6,none⟩ (.int .i64 D.cl)).setCell ⟨g,k*12+7,none⟩ (.int .i64 D.bk)).setCell ⟨g,k*12+8,none⟩ (.int .i64 D.fee)).setCell ⟨g,k*12+9,none⟩ (.bool D.cop)).setCell ⟨g,k*12+10,none⟩ (.int .i64 D.sta)).setCell ⟨g,k*12+11,none⟩ (.int .i64 D.due))
theorem Pa {w u:World} {g n:Nat} (k:Nat) (D:Cs) (b:Below n w u) (hn:n≤g):Below n w (Gs u g k D) :=
 (((((((((((b.setCell hn _).setCell hn _).setCell hn _).setCell hn _).setCell hn _).setCell hn _).setCell hn _).setCell hn _).setCell hn _).setCell hn _).setCell hn _).setCell hn _
theorem Od {u:World} {base g cap:Nat} {t:TypeId} {cs:List Cs} {k:Nat} (D:Cs) (hk:k<cs.length) (ho:u.ownsRow base t 12 (.slice (some ⟨g,0,none⟩) cs.length cap) cs.length (Aj cs)) :
  (Gs u g k D).ownsRow base t 12 (.slice (some ⟨g,0,none⟩) cs.length cap) cs.length (Aj (cs.set k D)):=by
 have R:=((((((((((((ho.stored (k*12) (.int .i64 D.iss)).1.stored (k*12+1) (.int .i64 D.acq)).1.stored (k*12+2) (.int .i64 D.cur)).1.stored (k*12+3) (.int .i64 D.am)).1.stored (k*12+4) (.int .i64 D.st)).1.stored (k*12+5) (.int .i64 D.rsn)).1.stored (k*12+6) (.int .i64 D.cl)).1.stored (k*12+7) (.int .i64 D.bk)).1.stored (k*12+8) (.int .i64 D.fee)).1.stored (k*12+9) (.bool D.cop)).1.stored (k*12+10) (.int .i64 D.sta)).1.stored (k*12+11) (.int .i64 D.due)).1;rw [Pc cs D k hk] at R;exact R
theorem Vg {u u':World} {a:Option Addr} {ls:List Ln} {B:Nat} (h:Ai u a ls) (ha:Dt a B) (hb:Below B u u'):Ai u' a ls:=by
 rcases h with h | ⟨b,off,rfl,h2,h3⟩
 ·exact .inl h
 ·have hl:b<B:=ha _ rfl
  exact .inr ⟨b,off,rfl,Nat.lt_of_lt_of_le h2 hb.size,fun i hi=>by
   obtain ⟨c1,c2,c3⟩:=h3 i hi;exact ⟨(hb.cell (p:=⟨b,_,none⟩) hl).trans c1,(hb.cell (p:=⟨b,_,none⟩) hl).trans c2,(hb.cell (p:=⟨b,_,none⟩) hl).trans c3⟩⟩
theorem Hf {u:World} {base n cap sz:Nat} {t:TypeId} {a:Option Addr} {xs:List Value} (h:u.ownsRow base t sz (.slice a n cap) n xs) (hn:0<n):∃ g,a=some ⟨g,0,none⟩∧base≤g∧g<u.heap.size:=by
 rcases h.2 with ⟨_,h0⟩ | ⟨g,c,cQ,hv,hr⟩
 ·omega
 ·obtain ⟨rfl,rfl⟩:a=some ⟨g,0,none⟩∧cap=c:=by simpa using hv
  exact ⟨g,rfl,(h.lt g rfl).1,(h.lt g rfl).2⟩
theorem Rc {u:World} {a:Option Addr} {ls:List Ln} {R:Nat} (h:Ai u a ls) (n:Im a R) (x0 x1 x2 x3 x4 x5:Value) :
  Ai ((((((u.setCell ⟨R,0,none⟩ x0).setCell ⟨R,1,none⟩ x1).setCell ⟨R,2,none⟩ x2).setCell ⟨R,3,none⟩ x3).setCell ⟨R,4,none⟩ x4).setCell ⟨R,5,none⟩ x5) a ls:=by
 have s:∀ (v:World) (i:Nat) (x:Value),Ai v a ls→Ai (v.setCell ⟨R,i,none⟩ x) a ls:=fun v i x hv=>hv.far (An _ _ _ _) (fun Q hQ=>by cases hQ;exact n)
 exact s _ _ _ (s _ _ _ (s _ _ _ (s _ _ _ (s _ _ _ (s _ _ _ h)))))
theorem sC {D:Cs} : cv D=.agg #[.int .i64 D.iss,.int .i64 D.acq,.int .i64 D.cur,.int .i64 D.am,.int .i64 D.st,.int .i64 D.rsn,.int .i64 D.cl,.int .i64 D.bk,.int .i64 D.fee,.bool D.cop,.int .i64 D.sta,.int .i64 D.due]:=rfl
def Ja (F:Ff) (b:Bk) (i:Int) (x:Ac):Bk×Int :=
 if ¬ (0≤i∧i≤(b.cs.length:Int) - 1) then (b,5)
 else if F.doV (A8 b.cs i.toNat) x b.today b.off≠0 then (b,10+F.doV (A8 b.cs i.toNat) x b.today b.off)
 else if F.allOk b.ls (F.doE (A8 b.cs i.toNat) x b.today b.off)=false then (b,6)
 else (⟨b.today,b.off,b.az,b.cs.set i.toNat (F.doC (A8 b.cs i.toNat) x b.today b.off),F.all b.ls (F.doE (A8 b.cs i.toNat) x b.today b.off),b.log⟩,0)
theorem cE (F:Ff) {b:Bk} {i:Int} (x:Ac) (h:¬ (0≤i∧i≤(b.cs.length:Int) - 1)):Ja F b i x=(b,5):=if_pos h
theorem cD (F:Ff) {b:Bk} {i:Int} {x:Ac} (h:0≤i∧i≤(b.cs.length:Int) - 1) (g:F.doV (A8 b.cs i.toNat) x b.today b.off≠0):Ja F b i x=(b,10+F.doV (A8 b.cs i.toNat) x b.today b.off):=by
 rw [Ja,if_neg (fun e=>e h),if_pos g]
theorem dC (F:Ff) {b:Bk} {i:Int} {x:Ac} (h:0≤i∧i≤(b.cs.length:Int) - 1) (g:F.doV (A8 b.cs i.toNat) x b.today b.off=0) (k:F.allOk b.ls (F.doE (A8 b.cs i.toNat) x b.today b.off)=false):Ja F b i x=(b,6):=by
 rw [Ja,if_neg (fun e=>e h),if_neg (fun e=>e g),if_pos k]
theorem bE (F:Ff) {b:Bk} {i:Int} {x:Ac} (h:0≤i∧i≤(b.cs.length:Int) - 1) (g:F.doV (A8 b.cs i.toNat) x b.today b.off=0) (k:F.allOk b.ls (F.doE (A8 b.cs i.toNat) x b.today b.off)=true) :
  Ja F b i x=(⟨b.today,b.off,b.az,b.cs.set i.toNat (F.doC (A8 b.cs i.toNat) x b.today b.off),F.all b.ls (F.doE (A8 b.cs i.toNat) x b.today b.off),b.log⟩,0):=by
 rw [Ja,if_neg (fun e=>e h),if_neg (fun e=>e g),if_neg (by rw [k];decide)]
def Jk (F:Ff) (b:Bk) (n0 n1 n2 n3 x:Int):Bk×Int :=
 if x<0 then (b,3)
 else if 150≤b.cs.length then (b,2)
 else if F.stOk n0 n1 n2 n3 b.today=false then (b,5)
 else if F.allOk b.ls (F.stE n0 n1 n2 n3 b.today)=false then (b,6)
 else (⟨b.today,b.off,F.use b.az x,b.cs++[F.stC n0 n1 n2 n3 b.today],F.all b.ls (F.stE n0 n1 n2 n3 b.today),b.log⟩,0)
theorem cK (F:Ff) {b:Bk} {n0 n1 n2 n3 x:Int} (h:x<0):Jk F b n0 n1 n2 n3 x=(b,3):=if_pos h
theorem bQ (F:Ff) {b:Bk} {n0 n1 n2 n3 x:Int} (h:¬ x<0) (g:150≤b.cs.length):Jk F b n0 n1 n2 n3 x=(b,2):=by rw [Jk,if_neg h,if_pos g]
theorem cO (F:Ff) {b:Bk} {n0 n1 n2 n3 x:Int} (h:¬ x<0) (g:¬ 150≤b.cs.length) (k:F.stOk n0 n1 n2 n3 b.today=false):Jk F b n0 n1 n2 n3 x=(b,5):=by rw [Jk,if_neg h,if_neg g,if_pos k]
theorem cM (F:Ff) {b:Bk} {n0 n1 n2 n3 x:Int} (h:¬ x<0) (g:¬ 150≤b.cs.length) (k:F.stOk n0 n1 n2 n3 b.today=true) (m:F.allOk b.ls (F.stE n0 n1 n2 n3 b.today)=false):Jk F b n0 n1 n2 n3 x=(b,6):=by
 rw [Jk,if_neg h,if_neg g,if_neg (by rw [k];decide),if_pos m]
theorem bF (F:Ff) {b:Bk} {n0 n1 n2 n3 x:Int} (h:¬ x<0) (g:¬ 150≤b.cs.length) (k:F.stOk n0 n1 n2 n3 b.today=true) (m:F.allOk b.ls (F.stE n0 n1 n2 n3 b.today)=true) :
  Jk F b n0 n1 n2 n3 x=(⟨b.today,b.off,F.use b.az x,b.cs++[F.stC n0 n1 n2 n3 b.today],F.all b.ls (F.stE n0 n1 n2 n3 b.today),b.log⟩,0):=by
 rw [Jk,if_neg h,if_neg g,if_neg (by rw [k];decide),if_neg (by rw [m];decide)]
theorem Jq {w:World} {base n:Nat} {v:Value} {xs:List Value} (h:w.ownsRow base 61 12 v n xs) (hv:v≠.slice none 0 0):∃ g c,v=.slice (some ⟨g,0,none⟩) n c:=by
 rcases h.2 with ⟨h,_⟩ | ⟨g,c,cQ,h,_⟩
 ·exact absurd h hv
 ·exact ⟨g,c,h⟩
theorem Cv {ops:Array Oper} {o:Oper} {a:Act} {w:World} {K:Act→World→Prop} {Q:Exit→Act→World→Prop} {E:Prop} (hgd:o.guard=none) (s x:Operand)
  (ho:o.op=.call { callee:=.builtin .append,args:=#[s,x],argTypes:=#[26,26] }) (base:Nat) (v:Value) (n:Nat) (xs:List Value) (hs:a.eval s=v) (hown:w.ownsRow base 61 12 v n xs)
  (ao:Option Addr) (c:Nat) (fs:List Cs) (hx:a.eval x=.slice ao fs.length c) (hz:A0 w ao fs) (hn:n+fs.length≤5000000) (hbase:base≤w.heap.size)
  (h:∀ v' w',w'.ownsRow base 61 12 v' (n+fs.length) (xs++Aj fs)→w.grownBy w' v.ownBlock→(v≠.slice none 0 0→v'≠.slice none 0 0)→K (a.put o.dst v') w') :
  if Region.wanted o (yielded ops a.tmps)=true then Oper.wp prog o a w K Q else E:=by
 have hw:Region.wanted o (yielded ops a.tmps)=true:=by simp [Region.wanted,hgd]
 rw [if_pos hw];obtain ⟨v',w',hr,h1,h2,h3⟩:=Ix w base o.type v n xs hown ao c fs hz hn hbase;unfold Oper.wp execOp
 simp only [ho,resolve,invoke,builtin,Sem.run_bind,Sem.run_pure,Result.andThen_ok,List.map_toArray,List.map_cons,List.map_nil,hs,hx,hr]
 exact h v' w' h1 h2 h3
theorem J3 {u:World} {g:Nat} {C:Cs} (h:CB g 0 C u):A0 u (some ⟨g,0,none⟩) [C] :=
 .inr ⟨g,0,rfl,h.lt,fun i hi=>by
  obtain rfl:i=0:=by simpa using hi
  simpa [A8] using h⟩
theorem qK (w:World) (C:Cs):((w.alloc (.cells #[.int .i64 C.iss,.int .i64 C.acq,.int .i64 C.cur,.int .i64 C.am,.int .i64 C.st,.int .i64 C.rsn,.int .i64 C.cl,.int .i64 C.bk,.int .i64 C.fee,.bool C.cop,.int .i64 C.sta,.int .i64 C.due] 61)).alloc (.cells #[] 61)).ownsRow w.heap.size 61 12 (.slice (some ⟨w.heap.size+1,0,none⟩) 0 0) 0 []:=by
 have h:=World.ownsRow_lit (base:=w.heap.size) (e:=61) (size:=12) (w.alloc (.cells #[.int .i64 C.iss,.int .i64 C.acq,.int .i64 C.cur,.int .i64 C.am,.int .i64 C.st,.int .i64 C.rsn,.int .i64 C.cl,.int .i64 C.bk,.int .i64 C.fee,.bool C.cop,.int .i64 C.sta,.int .i64 C.due] 61)) #[] 0 (by simp) (by unfold maxLen;omega) rfl
 simpa using h
theorem rF (w:World) (C:Cs):CB (w.heap.size+1) 0 C ((w.alloc (.cells #[] 61)).alloc (.cells #[.int .i64 C.iss,.int .i64 C.acq,.int .i64 C.cur,.int .i64 C.am,.int .i64 C.st,.int .i64 C.rsn,.int .i64 C.cl,.int .i64 C.bk,.int .i64 C.fee,.bool C.cop,.int .i64 C.sta,.int .i64 C.due] 61)):=by
 have h:=CB.new (w.alloc (.cells #[] 61)) C 61
 simpa using h
def Eo:List UInt8:=[100,97,121]
def Dy:List UInt8:=[97,117,116,104]
def I7:List UInt8:=[112,97,121]
def Nz:List UInt8:=[97,99,116]
def Ca (ws:Be):Bool:=decide (Al ws 0=Eo) && (decide (ws.length=2) && decide (0≤Ae (Al ws 1)))
def Bq (ws:Be):Bool:=decide (Al ws 0=Dy) && decide (ws.length=5)
def Da (ws:Be):Bool:=decide (Al ws 0=I7) && decide (ws.length=5)
def Fl (ws:Be):Bool:=decide (Al ws 0=Nz) && (decide (ws.length=5) && decide (0≤Bz (Al ws 2)))
def Fq (F:Ff) (b:Bk) (ref:List UInt8) (n0 n1 n2:Int):Bk×Int :=
 if F.addOk b.az ⟨ref,n0,n1,n2,b.today,false⟩=true then (⟨b.today,b.off,F.add b.az ⟨ref,n0,n1,n2,b.today,false⟩,b.cs,b.ls,b.log⟩,0) else (b,3)
def Db (F:Ff) (Pay:Bk→Int→Int→Int→Int→Bk×Int→Prop) (Act:Bk→Int→Ac→Bk×Int) (b:Bk) (line:List UInt8) (r:Bk×Int):Prop :=
 if Ca (Ab line)=true then r=Fr F b (Ae (Al (Ab line) 1))
 else if Bq (Ab line)=true then (if Ap ((Ab line).drop 2)=true then r=Fq F b (Al (Ab line) 1) (Ae (Al (Ab line) 2)) (Ae (Al (Ab line) 3)) (Ae (Al (Ab line) 4)) else r=(b,1))
 else if Da (Ab line)=true then (if Ap ((Ab line).drop 1)=true then Pay b (Ae (Al (Ab line) 1)) (Ae (Al (Ab line) 2)) (Ae (Al (Ab line) 3)) (Ae (Al (Ab line) 4)) r else r=(b,1))
 else if Fl (Ab line)=true then (if Ap [Al (Ab line) 1,Al (Ab line) 3,Al (Ab line) 4]=true then r=Act b (Ae (Al (Ab line) 1)) ⟨Bz (Al (Ab line) 2),Ae (Al (Ab line) 3),Ae (Al (Ab line) 4)⟩ else r=(b,1))
 else r=(b,1)
end Go.Proofs.YtomiclakhjncbaaGreatDoor
namespace Go.Proofs.YtomiclakhjncbaaGreatDoor.Kb
open Go.RowKit Go.Proofs.Tryz
structure Z8 (B:Nat) (v0 v1 v2 v3 v4 v5 v6 v7:Value) (u:World):Prop where
 c0:u.cell? ⟨B,0,none⟩=some v0
 c1:u.cell? ⟨B,1,none⟩=some v1
 c2:u.cell? ⟨B,2,none⟩=some v2
 c3:u.cell? ⟨B,3,none⟩=some v3
 c4:u.cell? ⟨B,4,none⟩=some v4
 c5:u.cell? ⟨B,5,none⟩=some v5
 c6:u.cell? ⟨B,6,none⟩=some v6
 c7:u.cell? ⟨B,7,none⟩=some v7
 z0:u.frozen? ⟨B,0,none⟩=false
 z1:u.frozen? ⟨B,1,none⟩=false
 z2:u.frozen? ⟨B,2,none⟩=false
 z3:u.frozen? ⟨B,3,none⟩=false
 z4:u.frozen? ⟨B,4,none⟩=false
 z5:u.frozen? ⟨B,5,none⟩=false
 z6:u.frozen? ⟨B,6,none⟩=false
 z7:u.frozen? ⟨B,7,none⟩=false
theorem Z8.lt {B:Nat} {v0 v1 v2 v3 v4 v5 v6 v7:Value} {u:World} (h:Z8 B v0 v1 v2 v3 v4 v5 v6 v7 u):B<u.heap.size:=World.block_lt_of_cell? u _ h.c0
theorem Z8.grown {B:Nat} {v0 v1 v2 v3 v4 v5 v6 v7:Value} {u u':World} (h:Z8 B v0 v1 v2 v3 v4 v5 v6 v7 u) {row:Option Nat} (g:u.grownBy u' row) (hr:some B≠row):Z8 B v0 v1 v2 v3 v4 v5 v6 v7 u':=by
 have l:=h.lt;obtain ⟨c0,c1,c2,c3,c4,c5,c6,c7,z0,z1,z2,z3,z4,z5,z6,z7⟩:=h;exact ⟨(g.cell_far ⟨B,0,none⟩ l hr).trans c0,(g.cell_far ⟨B,1,none⟩ l hr).trans c1,(g.cell_far ⟨B,2,none⟩ l hr).trans c2,(g.cell_far ⟨B,3,none⟩ l hr).trans c3,(g.cell_far ⟨B,4,none⟩ l hr).trans c4,(g.cell_far ⟨B,5,none⟩ l hr).trans c5,(g.cell_far ⟨B,6,none⟩ l hr).trans c6,(g.cell_far ⟨B,7,none⟩ l hr).trans c7,(g.frozen_far ⟨B,0,none⟩ l hr).trans z0,(g.frozen_far ⟨B,1,none⟩ l hr).trans z1,(g.frozen_far ⟨B,2,none⟩ l hr).trans z2,(g.frozen_far ⟨B,3,none⟩ l hr).trans z3,(g.frozen_far ⟨B,4,none⟩ l hr).trans z4,(g.frozen_far ⟨B,5,none⟩ l hr).trans z5,(g.frozen_far ⟨B,6,none⟩ l hr).trans z6,(g.frozen_far ⟨B,7,none⟩ l hr).trans z7⟩
theorem Z8.set0 {B:Nat} {v0 v1 v2 v3 v4 v5 v6 v7:Value} {u:World} (h:Z8 B v0 v1 v2 v3 v4 v5 v6 v7 u) (x:Value):Z8 B x v1 v2 v3 v4 v5 v6 v7 (u.setCell ⟨B,0,none⟩ x):=by
 obtain ⟨c0,c1,c2,c3,c4,c5,c6,c7,z0,z1,z2,z3,z4,z5,z6,z7⟩:=h
 constructor<;>simp [go_sem, *]
theorem Z8.set2 {B:Nat} {v0 v1 v2 v3 v4 v5 v6 v7:Value} {u:World} (h:Z8 B v0 v1 v2 v3 v4 v5 v6 v7 u) (x:Value):Z8 B v0 v1 x v3 v4 v5 v6 v7 (u.setCell ⟨B,2,none⟩ x):=by
 obtain ⟨c0,c1,c2,c3,c4,c5,c6,c7,z0,z1,z2,z3,z4,z5,z6,z7⟩:=h
 constructor<;>simp [go_sem, *]
theorem Z8.set3 {B:Nat} {v0 v1 v2 v3 v4 v5 v6 v7:Value} {u:World} (h:Z8 B v0 v1 v2 v3 v4 v5 v6 v7 u) (x:Value):Z8 B v0 v1 v2 x v4 v5 v6 v7 (u.setCell ⟨B,3,none⟩ x):=by
 obtain ⟨c0,c1,c2,c3,c4,c5,c6,c7,z0,z1,z2,z3,z4,z5,z6,z7⟩:=h
 constructor<;>simp [go_sem, *]
theorem Z8.set5 {B:Nat} {v0 v1 v2 v3 v4 v5 v6 v7:Value} {u:World} (h:Z8 B v0 v1 v2 v3 v4 v5 v6 v7 u) (x:Value):Z8 B v0 v1 v2 v3 v4 x v6 v7 (u.setCell ⟨B,5,none⟩ x):=by
 obtain ⟨c0,c1,c2,c3,c4,c5,c6,c7,z0,z1,z2,z3,z4,z5,z6,z7⟩:=h
 constructor<;>simp [go_sem, *]
theorem Z8.set6 {B:Nat} {v0 v1 v2 v3 v4 v5 v6 v7:Value} {u:World} (h:Z8 B v0 v1 v2 v3 v4 v5 v6 v7 u) (x:Value):Z8 B v0 v1 v2 v3 v4 v5 x v7 (u.setCell ⟨B,6,none⟩ x):=by
 obtain ⟨c0,c1,c2,c3,c4,c5,c6,c7,z0,z1,z2,z3,z4,z5,z6,z7⟩:=h
 constructor<;>simp [go_sem, *]
theorem Z8.set7 {B:Nat} {v0 v1 v2 v3 v4 v5 v6 v7:Value} {u:World} (h:Z8 B v0 v1 v2 v3 v4 v5 v6 v7 u) (x:Value):Z8 B v0 v1 v2 v3 v4 v5 v6 x (u.setCell ⟨B,7,none⟩ x):=by
 obtain ⟨c0,c1,c2,c3,c4,c5,c6,c7,z0,z1,z2,z3,z4,z5,z6,z7⟩:=h
 constructor<;>simp [go_sem, *]
theorem Z8.new (w:World) (v0 v1 v2 v3 v4 v5 v6 v7:Value) (ty:TypeId):Z8 w.heap.size v0 v1 v2 v3 v4 v5 v6 v7 (w.alloc (.cells #[v0,v1,v2,v3,v4,v5,v6,v7] ty)) :=
 ⟨by simp,by simp,by simp,by simp,by simp,by simp,by simp,by simp,by simp [go_sem],by simp [go_sem],by simp [go_sem],by simp [go_sem],by simp [go_sem],by simp [go_sem],by simp [go_sem],by simp [go_sem]⟩
theorem Pv {u:World} {base n size:Nat} {t:TypeId} {v:Value} {xs:List Value} (h:u.ownsRow base t size v n xs):∀ g,v.ownBlock=some g→∃ cQ fz,u.heap[g]?=some (.cells cQ t fz):=by
 intro g hg
 rcases h.2 with ⟨hv,_⟩ | ⟨g',cap,cQ,hv,_,hh,_⟩
 ·rw [hv] at hg;cases hg
 ·rw [hv] at hg
  injection hg with hg
  subst hg;exact ⟨cQ,(0,0),hh⟩
def El (u:World) (g:Nat) (t:TypeId):Prop:=∃ cQ fz,u.heap[g]?=some (.cells cQ t fz)
theorem Bj {u:World} {b1 n1 s1 b2 n2 s2:Nat} {t1 t2:TypeId} {v1 v2:Value} {x1 x2:List Value} (h1:u.ownsRow b1 t1 s1 v1 n1 x1) (h2:u.ownsRow b2 t2 s2 v2 n2 x2) (ht:t1≠t2):v1.ownBlock=none∨v1.ownBlock≠v2.ownBlock:=by
 cases hv:v1.ownBlock with
 | none=>exact .inl rfl
 | some g =>
  refine .inr fun e=>ht ?_
  obtain ⟨c1,f1,e1⟩:=Pv h1 g hv;obtain ⟨c2,f2,e2⟩:=Pv h2 g e.symm;rw [e1] at e2
  simp only [Option.some.injEq,Obj.cells.injEq] at e2
  exact e2.2.1
theorem dB {u:World} {b1 n1 s1 K:Nat} {t1 t2:TypeId} {v1:Value} {x1:List Value} (h1:u.ownsRow b1 t1 s1 v1 n1 x1) (h2:El u K t2) (ht:t1≠t2):v1.ownBlock=none∨v1.ownBlock≠some K:=by
 cases hv:v1.ownBlock with
 | none=>exact .inl rfl
 | some g =>
  refine .inr fun e=>ht ?_
  injection e with e
  subst e;obtain ⟨c1,f1,e1⟩:=Pv h1 g hv;obtain ⟨c2,f2,e2⟩:=h2;rw [e1] at e2
  simp only [Option.some.injEq,Obj.cells.injEq] at e2
  exact e2.2.1
theorem D8 {u:World} {b1 n1 s1 K:Nat} {t1 t2:TypeId} {v1:Value} {x1:List Value} (h1:u.ownsRow b1 t1 s1 v1 n1 x1) (h2:El u K t2) (ht:t1≠t2):some K≠v1.ownBlock:=by
 rcases dB h1 h2 ht with h | h
 ·rw [h];exact fun e=>by cases e
 ·exact fun e=>h e.symm
theorem El.grown {u u':World} {g:Nat} {t:TypeId} {row:Option Nat} (h:El u g t) (hg:u.grownBy u' row) (hr:some g≠row):El u' g t:=by
 obtain ⟨cQ,fz,e⟩:=h
 have hl:g<u.heap.size:=by
  rcases Nat.lt_or_ge g u.heap.size with h | h
  ·exact h
  ·rw [Array.getElem?_eq_none h] at e;cases e
 exact ⟨cQ,fz,(hg.block g hl hr).trans e⟩
theorem El.set {u:World} {g:Nat} {t:TypeId} (h:El u g t) (i:Nat) (x:Value):El (u.setCell ⟨g,i,none⟩ x) g t:=by
 obtain ⟨cQ,fz,e⟩:=h;refine ⟨cQ.setIfInBounds i x,fz,?_⟩;unfold World.setCell
 simp only [Array.getElem?_modify,if_true,e,Option.map_some]
 rfl
theorem Ez {u:World} {base base' n size:Nat} {t:TypeId} {v:Value} {xs:List Value} (h:u.ownsRow base t size v n xs) (hb:base'≤base):u.ownsRow base' t size v n xs :=
 ⟨h.1,h.2.imp id (fun ⟨g,cap,cQ,hv,hg,r⟩=>⟨g,cap,cQ,hv,Nat.le_trans hb hg,r⟩)⟩
def tF (o:Obj):Prop:=∃ cQ t fz,o=.cells cQ t fz∧(t=61∨t=9∨t=143)
structure Ce (B:Nat) (w w':World):Prop where
 b:Below B w w'
 i:∀ (k:Nat) (o:Obj),w.heap[k]?=some o→¬ tF o→w'.heap[k]?=some o
theorem Ed {w:World} {k:Nat} {o:Obj} (h:w.heap[k]?=some o):k<w.heap.size:=by
 rcases Nat.lt_or_ge k w.heap.size with h' | h'
 ·exact h'
 ·rw [Array.getElem?_eq_none h'] at h;cases h
theorem Ce.refl (B:Nat) (w:World):Ce B w w:=⟨bR,fun _ _ h _=>h⟩
theorem Ce.trans {B:Nat} {w u v:World} (h:Ce B w u) (g:Ce B u v):Ce B w v:=⟨h.b.trans g.b,fun k o e m=>g.i k o (h.i k o e m) m⟩
theorem Ce.of {B:Nat} {w u:World} (h:BW w u) (hB:B≤w.heap.size):Ce B w u:=⟨h.mono hB,fun k _ e _=>(h.block k (Ed e)).trans e⟩
theorem Ce.drew {B:Nat} {w u:World} (h:Ce B w u):Ce B w u.drew:=⟨h.b.drew,h.i⟩
theorem Ce.setK {B K i:Nat} {w u:World} {x:Value} (h:Ce B w u) (kt:El u K 143) (hK:B≤K):Ce B w (u.setCell ⟨K,i,none⟩ x) :=
 ⟨h.b.setCell hK _,fun k o e m=>by
  have e1:=h.i k o e m
  refine ((An u K i x).block k (Ed e1) (fun c=>m ?_)).trans e1
  injection c with c
  subst c;obtain ⟨cQ,fz,e2⟩:=kt;rw [e1] at e2
  injection e2 with e2
  exact ⟨cQ,_,fz,e2,.inr (.inr rfl)⟩⟩
theorem Ce.grownO {B n size:Nat} {w u u':World} {t:TypeId} {v:Value} {xs:List Value} (h:Ce B w u) (g:u.grownBy u' v.ownBlock) (o:u.ownsRow B t size v n xs) (hs:B≤u.heap.size) (ht:t=61∨t=9):Ce B w u' :=
 ⟨h.b.grown g hs (fun k hk=>(o.lt k hk).1),fun k x e m=>by
  have e1:=h.i k x e m
  refine (g.block k (Ed e1) (fun c=>m ?_)).trans e1
  obtain ⟨cQ,fz,e2⟩:=Pv o k c.symm;rw [e1] at e2
  injection e2 with e2
  exact ⟨cQ,_,fz,e2,ht.elim .inl (fun e=>.inr (.inl e))⟩⟩
structure KS (B K:Nat) (st:Int) (b:Bk) (q:Bp) (u:World):Prop where
 z:Z8 K (.int .i32 st) (.int .u32 0) (.slice q.l b.ls.length q.lc) (.int .i64 b.today) (.slice q.o b.off.length q.oc) (.slice q.a b.az.length q.ac) (.slice q.c b.cs.length q.cc) (.slice q.g b.log.length q.gc) u
 kt:El u K 143
 off:u.ownsRow B 3 1 (.slice q.o b.off.length q.oc) b.off.length (b.off.map (Value.int .i64))
 az:u.ownsRow B 107 6 (.slice q.a b.az.length q.ac) b.az.length (Ah b.az)
 cs:u.ownsRow B 61 12 (.slice q.c b.cs.length q.cc) b.cs.length (Aj b.cs)
 ls:u.ownsRow B 113 3 (.slice q.l b.ls.length q.lc) b.ls.length (Ag b.ls)
 log:u.ownsRow B 9 1 (.slice q.g b.log.length q.gc) b.log.length (Am b.log)
 hK:B≤K
theorem KS.at {B K:Nat} {st:Int} {b:Bk} {q:Bp} {u:World} (h:KS B K st b q u):Aq u b q:=⟨Hq h.off,Fd h.az,F2 h.cs,Df h.ls,Ep h.log⟩
theorem KS.far {B K:Nat} {st:Int} {b:Bk} {q:Bp} {u u':World} {row:Option Nat} (h:KS B K st b q u) (g:u.grownBy u' row) (hr:∀ x,row=some x→x<B):KS B K st b q u':=by
 have hK:=h.hK
 have ne:∀ {t:TypeId} {s n:Nat} {v:Value} {xs:List Value},u.ownsRow B t s v n xs→v.ownBlock=none∨v.ownBlock≠row:=fun o=>by
  rename_i t s n v xs
  cases hv:v.ownBlock with
  | none=>exact .inl rfl
  | some j =>
   refine .inr fun e=>?_
   have h1:=(o.lt j hv).1;have h2:=hr j e.symm
   omega
 have nK:some K≠row:=fun e=>by have:=hr K e.symm;omega
 exact ⟨h.z.grown g nK,h.kt.grown g nK,h.off.kept g (ne h.off),h.az.kept g (ne h.az),h.cs.kept g (ne h.cs),h.ls.kept g (ne h.ls),h.log.kept g (ne h.log),h.hK⟩
theorem KS.below {B K:Nat} {st:Int} {b:Bk} {q:Bp} {u u':World} (h:KS B K st b q u) (hb:BW u u'):KS B K st b q u' :=
 h.far (row:=none) ⟨hb.os,hb.tape,hb.output,hb.size,fun k hk _=>hb.block k hk⟩ (fun x hx=>by cases hx)
theorem KS.drew {B K:Nat} {st:Int} {b:Bk} {q:Bp} {u:World} (h:KS B K st b q u):KS B K st b q u.drew:=h.below (bR.drew)
theorem KS.al {B K:Nat} {st:Int} {b:Bk} {q:Bp} {u:World} (h:KS B K st b q u) (o:Obj):KS B K st b q (u.alloc o):=h.below (bR.alloc nL _)
theorem Em {u:World} {b1 n1 s1 K i:Nat} {t1 t2:TypeId} {v1 x:Value} {x1:List Value} (h1:u.ownsRow b1 t1 s1 v1 n1 x1) (h2:El u K t2) (ht:t1≠t2):(u.setCell ⟨K,i,none⟩ x).ownsRow b1 t1 s1 v1 n1 x1 :=
 h1.kept (An u K i x) (dB h1 h2 ht)
theorem KS.setSt {B K:Nat} {st:Int} {b:Bk} {q:Bp} {u:World} (h:KS B K st b q u) (s:Int):KS B K s b q (u.setCell ⟨K,0,none⟩ (.int .i32 s)) :=
 ⟨h.z.set0 _,h.kt.set _ _,Em h.off h.kt (by decide),Em h.az h.kt (by decide),Em h.cs h.kt (by decide),Em h.ls h.kt (by decide),Em h.log h.kt (by decide),h.hK⟩
theorem KS.setDay {B K:Nat} {st:Int} {b:Bk} {q:Bp} {u:World} (h:KS B K st b q u) (n:Int):KS B K st ⟨n,b.off,b.az,b.cs,b.ls,b.log⟩ q (u.setCell ⟨K,3,none⟩ (.int .i64 n)) :=
 ⟨h.z.set3 _,h.kt.set _ _,Em h.off h.kt (by decide),Em h.az h.kt (by decide),Em h.cs h.kt (by decide),Em h.ls h.kt (by decide),Em h.log h.kt (by decide),h.hK⟩
theorem KS.setA {B K:Nat} {st:Int} {b:Bk} {q:Bp} {u:World} (h:KS B K st b q u) {L:List Au} {a:Option Addr} {c m:Nat} (o:u.ownsRow m 107 6 (.slice a L.length c) L.length (Ah L)) (hm:B≤m) :
  KS B K st ⟨b.today,b.off,L,b.cs,b.ls,b.log⟩ ⟨q.o,q.oc,a,c,q.c,q.cc,q.l,q.lc,q.g,q.gc⟩ (u.setCell ⟨K,5,none⟩ (.slice a L.length c)) :=
 ⟨h.z.set5 _,h.kt.set _ _,Em h.off h.kt (by decide),Em (Ez o hm) h.kt (by decide),Em h.cs h.kt (by decide),Em h.ls h.kt (by decide),Em h.log h.kt (by decide),h.hK⟩
theorem KS.setL {B K:Nat} {st:Int} {b:Bk} {q:Bp} {u:World} (h:KS B K st b q u) {L:List Ln} {a:Option Addr} {c m:Nat} (o:u.ownsRow m 113 3 (.slice a L.length c) L.length (Ag L)) (hm:B≤m) :
  KS B K st ⟨b.today,b.off,b.az,b.cs,L,b.log⟩ ⟨q.o,q.oc,q.a,q.ac,q.c,q.cc,a,c,q.g,q.gc⟩ (u.setCell ⟨K,2,none⟩ (.slice a L.length c)) :=
 ⟨h.z.set2 _,h.kt.set _ _,Em h.off h.kt (by decide),Em h.az h.kt (by decide),Em h.cs h.kt (by decide),Em (Ez o hm) h.kt (by decide),Em h.log h.kt (by decide),h.hK⟩
theorem KS.setC {B K:Nat} {st:Int} {b:Bk} {q:Bp} {u u':World} (h:KS B K st b q u) (g:u.grownBy u' (Value.slice q.c b.cs.length q.cc).ownBlock) {L:List Cs} {a:Option Addr} {c:Nat} (o:u'.ownsRow B 61 12 (.slice a L.length c) L.length (Aj L)) :
  KS B K st ⟨b.today,b.off,b.az,L,b.ls,b.log⟩ ⟨q.o,q.oc,q.a,q.ac,a,c,q.l,q.lc,q.g,q.gc⟩ (u'.setCell ⟨K,6,none⟩ (.slice a L.length c)):=by
 have nK:=D8 h.cs h.kt (by decide)
 have kt:=h.kt.grown g nK
 exact ⟨(h.z.grown g nK).set6 _,kt.set _ _,Em (h.off.kept g (Bj h.off h.cs (by decide))) kt (by decide),Em (h.az.kept g (Bj h.az h.cs (by decide))) kt (by decide),Em o kt (by decide),Em (h.ls.kept g (Bj h.ls h.cs (by decide))) kt (by decide),Em (h.log.kept g (Bj h.log h.cs (by decide))) kt (by decide),h.hK⟩
theorem KS.setG {B K:Nat} {st:Int} {b:Bk} {q:Bp} {u u':World} (h:KS B K st b q u) (g:u.grownBy u' (Value.slice q.g b.log.length q.gc).ownBlock) {L:Be} {a:Option Addr} {c:Nat} (o:u'.ownsRow B 9 1 (.slice a L.length c) L.length (Am L)) :
  KS B K st ⟨b.today,b.off,b.az,b.cs,b.ls,L⟩ ⟨q.o,q.oc,q.a,q.ac,q.c,q.cc,q.l,q.lc,a,c⟩ (u'.setCell ⟨K,7,none⟩ (.slice a L.length c)):=by
 have nK:=D8 h.log h.kt (by decide)
 have kt:=h.kt.grown g nK
 exact ⟨(h.z.grown g nK).set7 _,kt.set _ _,Em (h.off.kept g (Bj h.off h.log (by decide))) kt (by decide),Em (h.az.kept g (Bj h.az h.log (by decide))) kt (by decide),Em (h.cs.kept g (Bj h.cs h.log (by decide))) kt (by decide),Em (h.ls.kept g (Bj h.ls h.log (by decide))) kt (by decide),Em o kt (by decide),h.hK⟩
def Rp (x:Int):Prop:=0≤x∧x<1000000000000000000
structure Rq (F:Ff) (E:World→Prop) (G:Nat):Prop where
 keep:∀ w w',E w→Below G w w'→E w'
 size:∀ w,E w→G≤w.heap.size
 num:∀ (l:List UInt8) (w:World),l.length≤1048576→Calls prog 275 #[.string ⟨l.toArray⟩] w fun e w'=>e=.returned (.int .i64 (Dr l))∧BW w w'
 dec:∀ (m:Nat) (w:World),m<1000000000000000000→E w→Calls prog 127 #[.int .i64 m] w fun e w'=>e=.returned (.string ⟨(Lib.decDigits m).toArray⟩)∧BW w w'
 clone:∀ (l:List UInt8) (w:World),l.length≤1048576→Calls prog 138 #[.string ⟨l.toArray⟩] w fun e w'=>e=.returned (.string ⟨l.toArray⟩)∧BW w w'
 split:∀ (l:List UInt8) (w:World),l.length≤1048576→E w→Calls prog 66 #[.string ⟨l.toArray⟩,.string ⟨#[32]⟩] w fun e w'=>∃ a,e=.returned (.slice a (Ab l).length (Ab l).length)∧Bh w' a (Ab l)∧BW w w'
 eFull:∀ w,E w→∃ t a,w.cell? ⟨1,0,none⟩=some (.iface t (.pointer (some a)))
 eLine:∀ w,E w→∃ t a,w.cell? ⟨3,0,none⟩=some (.iface t (.pointer (some a)))
 eDay:∀ w,E w→∃ t a,w.cell? ⟨4,0,none⟩=some (.iface t (.pointer (some a)))
 eAuth:∀ w,E w→∃ t a,w.cell? ⟨5,0,none⟩=some (.iface t (.pointer (some a)))
 eCases:∀ w,E w→∃ t a,w.cell? ⟨6,0,none⟩=some (.iface t (.pointer (some a)))
 eCase:∀ w,E w→∃ t a,w.cell? ⟨7,0,none⟩=some (.iface t (.pointer (some a)))
 eMoney:∀ w,E w→∃ t a,w.cell? ⟨8,0,none⟩=some (.iface t (.pointer (some a)))
 eAct:∀ w,E w→∃ t a,w.cell? ⟨9,0,none⟩=some (.iface t (.pointer (some a)))
 words:∀ w,E w→∀ k,k<10→w.cell? ⟨0,k,none⟩=some (.string ⟨(Al Dm k).toArray⟩)
 prune:∀ (ao:Option Addr) (cap:Nat) (az:List Au) (t:Int) (w:World),Ar w ao az→az.length≤1048576→(∀ a ∈ az,a.ref.length≤1048576)→Calls prog 207 #[.slice ao az.length cap,.int .i64 t] w (pA w (F.prune az t))
 use:∀ (ao:Option Addr) (cap:Nat) (az:List Au) (i:Int) (w:World),Ar w ao az→az.length≤1048576→(∀ a ∈ az,a.ref.length≤1048576)→Calls prog 212 #[.slice ao az.length cap,.int .i64 i] w (Pi w (F.use az i) (F.useOk az i))
 add:∀ (ao:Option Addr) (cap:Nat) (az:List Au) (a:Au) (w:World),Ar w ao az→az.length≤1048576→(∀ x ∈ az,x.ref.length≤1048576)→a.ref.length≤1048576→Rp a.cur→Calls prog 208 #[.slice ao az.length cap,Fe a] w (Pi w (F.add az a) (F.addOk az a))
 best:∀ (ao:Option Addr) (cap:Nat) (az:List Au) (iY cQ am day:Int) (w:World),Ar w ao az→az.length≤1048576→(∀ a ∈ az,a.ref.length≤1048576)→(∀ a ∈ az,(Lit.int .i64 a.cur).wf=true)→(Lit.int .i64 am).wf=true→(Lit.int .i64 day).wf=true →
  Calls prog 209 #[.slice ao az.length cap,.int .i64 iY,.int .i64 cQ,.int .i64 am,.int .i64 day] w fun e w'=>∃ x,e=.returned (.int .i64 x)∧F.best az iY cQ am day x∧BW w w'
 start:∀ (iY aZ cQ am day:Int) (w:World),Rp cQ→Calls prog 210 #[.int .i64 iY,.int .i64 aZ,.int .i64 cQ,.int .i64 am,.int .i64 day] w fun e w'=>∃ ao cap,e=.returned (.tuple #[cv (F.stC iY aZ cQ am day),.slice ao (F.stE iY aZ cQ am day).length cap,.bool (F.stOk iY aZ cQ am day)])∧w'.ownsRow w.heap.size 269 4 (.slice ao (F.stE iY aZ cQ am day).length cap) (F.stE iY aZ cQ am day).length (Ba (F.stE iY aZ cQ am day))∧BW w w'
 small:∀ iY aZ cQ am day,(F.stE iY aZ cQ am day).length≤1048576∧(Rp iY→Rp aZ→Rp cQ→Rp am→∀ x ∈ F.stE iY aZ cQ am day,Ma x)
 act:∀ (c:Cs) (a:Ac) (t:Int) (ao:Option Addr) (cp:Nat) (zs:List Int) (w:World),Aw w ao zs→zs.length≤1048576→E w→Qk c→Calls prog 214 #[cv c,av a,.int .i64 t,.slice ao zs.length cp] w fun e w'=>∃ ao cap,e=.returned (.tuple #[cv (F.doC c a t zs),.slice ao (F.doE c a t zs).length cap,.int .i64 (F.doV c a t zs)])∧w'.ownsRow w.heap.size 269 4 (.slice ao (F.doE c a t zs).length cap) (F.doE c a t zs).length (Ba (F.doE c a t zs))∧BW w w'
 few:∀ c a t zs,(F.doE c a t zs).length≤1048576∧(Qk c→Rp a.am→∀ x ∈ F.doE c a t zs,Ma x)
 low:∀ az i c a d x,F.best az i c a d x→-1≤x
 stay:∀ ls es,F.allOk ls es=false→F.all ls es=ls
 code:∀ c a t zs,0≤F.doV c a t zs∧F.doV c a t zs≤1000
 post:∀ (ao:Option Addr) (cap:Nat) (ls:List Ln) (eo:Option Addr) (ec:Nat) (es:List En) (w:World),Ai w ao ls→ls.length≤1048576→(∀ x ∈ ls,Hw x)→C8 w eo es→es.length≤1048576→(∀ x ∈ es,Ma x) →
  Calls prog 255 #[.agg #[.slice ao ls.length cap],.slice eo es.length ec] w fun e w'=>∃ ao cap,e=.returned (.tuple #[.agg #[.slice ao (F.all ls es).length cap],.bool (F.allOk ls es)])∧w'.ownsRow w.heap.size 113 3 (.slice ao (F.all ls es).length cap) (F.all ls es).length (Ag (F.all ls es))∧BW w w'
theorem Rq.grow {F:Ff} {E:World→Prop} {G:Nat} (K:Rq F E G) {w w':World} (h:E w) (hb:BW w w'):E w':=K.keep w w' h (hb.mono (K.size w h))
def Qv (s:List UInt8):Int:=if 0≤Ae s then Ae s else 0
theorem jJ {s:List UInt8} (h:Dr s<0):Ae s = -1:=by
 unfold Ae
 split
 ·rfl
 ·rw [if_pos (.inl h)]
theorem pB {s:List UInt8} (h:Lib.decDigits (Dr s).toNat≠s):Ae s = -1:=by
 unfold Ae
 split
 ·rfl
 ·rw [if_pos (.inr h)]
theorem qW (m:Nat):Lib.decDigits m≠[]:=by
 intro h;rw [Lib.decDigits] at h
 split at h <;> simp at h
theorem Oc {a b:Int} {p q:Bool} (h1:a=b) (h2:p=q):Ending.returned (.tuple #[.int .i64 a,.bool p])=.returned (.tuple #[.int .i64 b,.bool q]):=by rw [h1,h2]
theorem Xv {s:List UInt8} (h:Ae s = -1):Qv s=0∧decide (0≤Ae s)=false:=by
 unfold Qv;rw [h]
 exact ⟨by simp,by simp⟩
theorem dY {F:Ff} {E:World→Prop} {G:Nat} (K:Rq F E G) (s:List UInt8) (w:World) (hl:s.length≤1048576) (hE:E w) :
  Calls prog 246 #[.string ⟨s.toArray⟩] w fun e w'=>e=.returned (.tuple #[.int .i64 (Qv s),.bool (decide (0≤Ae s))])∧BW w w':=by
 have HN:Hid (∀ u,Calls prog 275 #[.string ⟨s.toArray⟩] u fun e w'=>e=.returned (.int .i64 (Dr s))∧BW u w'):=fun u=>K.num s u hl
 have hbd:=Qj s
 by_cases h2:Dr s<0
 ·obtain ⟨e1,e2⟩:=Xv (jJ h2)
  have HE:Hid (Qv s=0∧decide (0≤Ae s)=false):=⟨e1,e2⟩;obtain ⟨n,hn⟩:∃ n,Dr s=n:=⟨_,rfl⟩;rw [hn] at HN h2 hbd;clear hn e1 e2
  go_enter func246,ntmps246
  go_wp2_with (go_at_call 275;refine (HN.o _).mono ?_;rintro e w' ⟨rfl,b1⟩)
  go_ret2;exact ⟨Oc HE.o.1.symm HE.o.2.symm,b1⟩
 obtain ⟨m,hm⟩:=Int.eq_ofNat_of_zero_le (show 0≤Dr s by omega)
 have HD:Hid (∀ u,E u→Calls prog 127 #[.int .i64 (m:Int)] u fun e w'=>e=.returned (.string ⟨(Lib.decDigits m).toArray⟩)∧BW u w'):=fun u h=>K.dec m u (by omega) h
 have HG:Hid (∀ u,BW w u→E u):=fun u h=>K.grow hE h
 by_cases h1:15<s.length
 ·have h1':(15:Int)<(s.length:Int):=by omega
  obtain ⟨e1,e2⟩:=Xv (jY h1);have HE:Hid (Qv s=0∧decide (0≤Ae s)=false):=⟨e1,e2⟩;rw [hm] at HN h2 hbd
  have hmm:¬ (m:Int)<0:=by omega
  clear hm e1 e2 h1
  go_enter func246,ntmps246
  go_wp2_with (go_at_call 275;refine (HN.o _).mono ?_;rintro e w' ⟨rfl,b1⟩)
  go_ret2;exact ⟨Oc HE.o.1.symm HE.o.2.symm,b1⟩
 have h1':¬ (15:Int)<(s.length:Int):=by omega
 by_cases h3:Lib.decDigits m=s
 ·have h0:s≠[]:=fun e=>qW m (h3.trans e)
  have hW:Ae s=(m:Int):=by rw [kY h0 h1 h2 (by rw [hm];exact h3),hm]
  have HE:Hid (Qv s=(m:Int)∧decide (0≤Ae s)=true):=by
   unfold Qv;rw [hW]
   exact ⟨if_pos (by omega),decide_eq_true (by omega)⟩
  rw [hm] at HN h2 hbd;rw [h3] at HD
  have hmm:¬ (m:Int)<0:=by omega
  clear h1 h3 hW h0 hm
  go_enter func246,ntmps246
  go_wp2_with (first | (go_at_call 275;refine (HN.o _).mono ?_;rintro e w' ⟨rfl,b1⟩) | (go_at_call 127;refine (HD.o _ (HG.o _ b1)).mono ?_;rintro e w2 ⟨rfl,b2⟩))
  go_ret2;exact ⟨Oc HE.o.1.symm HE.o.2.symm,next b1 b2⟩
 ·obtain ⟨e1,e2⟩:=Xv (pB (s:=s) (by rw [hm];exact h3))
  have HE:Hid (Qv s=0∧decide (0≤Ae s)=false):=⟨e1,e2⟩;rw [hm] at HN h2 hbd;obtain ⟨D,hD⟩:∃ D,Lib.decDigits m=D:=⟨_,rfl⟩;rw [hD] at HD h3
  have hds:(D == s)=false:=by simpa using h3
  have hmm:¬ (m:Int)<0:=by omega
  clear h1 hD hm e1 e2
  go_enter func246,ntmps246
  go_wp2_with (first | (go_at_call 275;refine (HN.o _).mono ?_;rintro e w' ⟨rfl,b1⟩) | (go_at_call 127;refine (HD.o _ (HG.o _ b1)).mono ?_;rintro e w2 ⟨rfl,b2⟩))
  go_ret2;exact ⟨Oc HE.o.1.symm HE.o.2.symm,next b1 b2⟩
theorem Ks {F:Ff} {E:World→Prop} {G:Nat} (K:Rq F E G) (ao:Option Addr) (cap:Nat) (rs:Be) (w:World) (hz:Bh w ao rs) (hn:rs.length≤1048576) (hd:∀ r ∈ rs,r.length≤1048576) (hE:E w) :
  Calls prog 206 #[.slice ao rs.length cap] w fun e w'=>∃ a k,e=.returned (.tuple #[.slice a (A7 rs).length k,.bool (Ap rs)])∧w'.ownsRow w.heap.size 3 1 (.slice a (A7 rs).length k) (A7 rs).length ((A7 rs).map (Value.int .i64))∧BW w w':=by
 obtain ⟨i0,hi,hz0,hz1,hz2⟩:=info_parts mG;have HX:Hid (Bh w ao rs):=hz
 have HD:Hid (∀ k,k<rs.length→(Al rs k).length≤1048576):=fun k hk=>hd _ (F7 hk)
 have HG:Hid (∀ u,BW w u→E u):=fun u h=>K.grow hE h
 have HK:Hid (Rq F E G):=K;clear hz hd hE K
 go_enter func206,ntmps206
 go_wp2
 go_loopw [4,11] (fun s i wr=>∃ (v:Value) (k:Nat),v=s∧k≤rs.length∧i=.int .i64 (k:Int)∧(∀ j,j<k→0≤Ae (Al rs j))∧wr.ownsRow w.heap.size 3 1 v ((rs.take k).map Ae).length (((rs.take k).map Ae).map (Value.int .i64))∧BW w wr) (fun _ i _=>rs.length - (intOf i).toNat)
 case atStart=>exact ⟨_,0,rfl,Nat.zero_le _,rfl,fun j hj=>absurd hj (Nat.not_lt_zero _),World.ownsRow_nil _ _ _ _,bR⟩
 case round =>
  obtain ⟨v,k,hvs,hk,rfl,hall,hown,hbr⟩:=hrel;subst hvs;have HBR:Hid (BW w wr):=hbr;have HALL:Hid (∀ j,j<k→0≤Ae (Al rs j)):=hall;have HSZ:Hid (w.heap.size≤wr.heap.size):=hbr.size
  have HLT:Hid (∀ j,v.ownBlock=some j→w.heap.size≤j):=fun j hj=>(hown.lt j hj).1
  have hml:((rs.take k).map Ae).length≤1048576:=by simp;omega
  by_cases hlt:k<rs.length
  ·have hki:(k:Int)<(rs.length:Int):=by omega
   obtain ⟨gb,off,rfl,hgb,hcell⟩:∃ gb off,ao=some ⟨gb,off,none⟩∧gb<wr.heap.size∧wr.cell? ⟨gb,off+k,none⟩=some (.string ⟨(Al rs k).toArray⟩):=by
    rcases HX.o.below hbr with h | ⟨gb,off,h1,h2,h3⟩
    ·rw [h] at hlt;simp at hlt
    ·exact ⟨gb,off,h1,h2,h3 k hlt⟩
   have HNX:Hid _:=Tm rs k hlt;have hrl:=HD.o k hlt;have HNO:Hid _:=@S0 rs k hlt
   have HNM:Hid (∀ u,BW w u→Calls prog 246 #[.string ⟨(Al rs k).toArray⟩] u fun e w'=>e=.returned (.tuple #[.int .i64 (Qv (Al rs k)),.bool (decide (0≤Ae (Al rs k)))])∧BW u w'):=fun u h=>dY HK.o _ u hrl (HG.o u h)
   have HAL2:Hid (0≤Ae (Al rs k)→∀ j,j<k+1→0≤Ae (Al rs j)):=fun h j hj=>by
    rcases (show j<k∨j=k by omega) with hj | rfl
    ·exact HALL.o j hj
    ·exact h
   have HPN:Hid (0≤Ae (Al rs k)→Qv (Al rs k)=Ae (Al rs k)):=fun h=>if_pos h
   obtain ⟨L,hL⟩:∃ L,(rs.take k).map Ae=L:=⟨_,rfl⟩;rw [hL] at HNX hown hml;obtain ⟨y,hy⟩:∃ y,Qv (Al rs k)=y:=⟨_,rfl⟩;rw [hy] at HNM HPN;obtain ⟨x,hx⟩:∃ x,Ae (Al rs k)=x:=⟨_,rfl⟩;rw [hx] at HNX HNM HNO HAL2 HPN;obtain ⟨r,hr⟩:∃ r,Al rs k=r:=⟨_,rfl⟩;rw [hr] at hcell HNM hrl;have HO:Hid (wr.ownsRow w.heap.size 3 1 v L.length (L.map (Value.int .i64))):=hown;clear hL hx hr hy hown hbr hall
   by_cases hxn:x<0
   ·have HE:Hid (Ap rs=false):=HNO.o hxn
    have HE2:Hid (A7 rs=[]):=if_neg (by rw [HE.o];decide)
    have hdx:decide (0≤x)=false:=decide_eq_false (by omega)
    rw [hdx] at HNM;clear hdx
    go_wp2_with (go_at_call 246;refine (HNM.o _ HBR.o).mono ?_;rintro e w' ⟨rfl,b1⟩)
    have HB1:Hid (BW w w'):=next HBR.o b1;clear b1;go_ret2;rw [HE.o,HE2.o];exact ⟨_,_,rfl,World.ownsRow_nil _ _ _ _,HB1.o⟩
   ·have hdx:decide (0≤x)=true:=decide_eq_true (by omega)
    rw [hdx] at HNM
    have HYX:Hid (y=x):=HPN.o (by omega)
    clear hdx;go_wp2_with fail
    refine (HNM.o _ HBR.o).mono ?_;rintro e w1 ⟨rfl,b1⟩;have HB1:Hid (BW w w1):=next HBR.o b1;have HO1:Hid (w1.ownsRow w.heap.size 3 1 v L.length (L.map (Value.int .i64))):=Av HO.o b1;have HS1:Hid (w.heap.size≤w1.heap.size):=HB1.o.size;rw [HYX.o];clear b1 hcell
    go_wp2_with (at_builtin;refine wpList_append_own _ rfl (.tmp 22) (.tmp 24) 22 rfl w.heap.size 3 i0 (.int .i64 0) 1 8 underlying22 hi hz0 hz1 hz2 rfl (by decide) _ _ _ rfl (HO1.o.alloc _) ⟨w1.heap.size,0,none⟩ 1 1 [.int .i64 x] rfl rfl (World.news_of_block (heap_alloc_new w1 _)) (cJ _) (by unfold maxLen;omega) (by omega) (by simp;have:=HS1.o;omega) ?_;intro v5 w5 o5 g5 _)
    have q5:BW w w5:=(HB1.o.alloc (by have:=HS1.o;omega) _).grown g5 (by have:=HS1.o;simp;omega) HLT.o
    have HR5:Hid (w5.ownsRow w.heap.size 3 1 v5 ((rs.take (k+1)).map Ae).length (((rs.take (k+1)).map Ae).map (Value.int .i64))):=by
     rw [Hid,HNX.o,List.length_append,List.map_append];exact o5
    clear o5 g5;go_wp2
    go_roundw
    case rel=>exact ⟨_,k+1,rfl,by omega,by go_num,HAL2.o (by omega),HR5.o,q5⟩
    case measure=>simp [intOf];omega
  ·have hke:k=rs.length:=by omega
   subst hke
   have hki:¬ (rs.length:Int)<(rs.length:Int):=by omega
   have HE:Hid (Ap rs=true):=Qe HALL.o;have HE2:Hid (A7 rs=rs.map Ae):=if_pos HE.o;rw [List.take_length] at hown;obtain ⟨L,hL⟩:∃ L,rs.map Ae=L:=⟨_,rfl⟩;rw [hL] at hown HE2;clear hL hml;obtain ⟨va,vk,hva⟩:=Fz hown;subst hva;have HO:Hid _:=hown;clear hbr hown hall;go_wp2;go_ret2;rw [HE.o,HE2.o];exact ⟨_,_,rfl,HO.o,HBR.o⟩
def aL:List Nat:=[3,4,5,6,7,8,9]
def NF (E:World→Prop) (y:Value):Prop:=∃ w g,E w∧g ∈ aL∧w.cell? ⟨g,0,none⟩=some y
def sQ (E:World→Prop) (code:Int) (v:Value):Prop:=(code=0∧v=.nilIface)∨(code≠0∧∃ y,NF E y∧v=.iface 170 (.agg #[y,.int .i64 code]))
def Wz (E:World→Prop) (B K:Nat) (w:World) (r:Bk×Int) (e:Ending) (w':World):Prop:=∃ q v,e=.returned v∧sQ E r.2 v∧KS B K 1 r.1 q w'∧Ce B w w'
theorem Et {E:World→Prop} {B K:Nat} {w w':World} {b:Bk} {q:Bp} {c:Int} {y:Value} (hy:NF E y) (hc:c≠0) (k:KS B K 1 b q w') (hb:Ce B w w'):Wz E B K w (b,c) (.returned (.iface 170 (.agg #[y,.int .i64 c]))) w' :=
 ⟨q,_,rfl,.inr ⟨hc,y,hy,rfl⟩,k,hb⟩
theorem Uv {E:World→Prop} {B K:Nat} {w w':World} {b:Bk} {q:Bp} (k:KS B K 1 b q w') (hb:Ce B w w'):Wz E B K w (b,0) (.returned .nilIface) w':=⟨q,_,rfl,.inl ⟨rfl,rfl⟩,k,hb⟩
structure Ej (b:Bk):Prop where
 sm:D0 b
 ref:∀ a ∈ b.az,a.ref.length≤1048576
 cQ:∀ a ∈ b.az,(Lit.int .i64 a.cur).wf=true
 cc:∀ c ∈ b.cs,Qk c
 lb:∀ x ∈ b.ls,Hw x
 day:(Lit.int .i64 b.today).wf=true
def N8 (F:Ff) (b:Bk) (rs:Be):Bk×Int:=if Ap rs=true∧rs.length=1 then Fr F b (Ae (Al rs 0)) else (b,1)
theorem KS.lt {B K:Nat} {st:Int} {b:Bk} {q:Bp} {u:World} (h:KS B K st b q u):B≤u.heap.size:=by have:=h.z.lt;have:=h.hK;omega
theorem lF {F:Ff} {E:World→Prop} {G B K:Nat} (KI:Rq F E G) (b:Bk) (q:Bp) (ao:Option Addr) (cap:Nat) (rs:Be) (w:World) (hk:KS B K 1 b q w) (hE:E w) (hP:Ej b) (hz:Bh w ao rs) (hn:rs.length≤1048576) (hd:∀ r ∈ rs,r.length≤1048576) :
  Calls prog 172 #[.pointer (some ⟨K,0,none⟩),.slice ao rs.length cap] w (Wz E B K w (N8 F b rs)):=by
 have HNS:Hid (Calls prog 206 #[.slice ao rs.length cap] w fun e w'=>∃ a k,e=.returned (.tuple #[.slice a (A7 rs).length k,.bool (Ap rs)])∧w'.ownsRow w.heap.size 3 1 (.slice a (A7 rs).length k) (A7 rs).length ((A7 rs).map (Value.int .i64))∧BW w w'):=Ks KI ao cap rs w hz hn hd hE
 have HB0:Hid (B≤w.heap.size):=hk.lt;have HK0:Hid (KS B K 1 b q w):=hk;have HE0:Hid (E w):=hE;have HPR:Hid (Ej b):=hP;have HKI:Hid (Rq F E G):=KI;clear hz hd hk hE hP KI
 by_cases hok:Ap rs=true∧rs.length=1
 ·obtain ⟨h1,h2⟩:=hok
  obtain ⟨r0,hr0⟩:∃ r0,rs=[r0]:=by
   match rs,h2 with
   | [r],_=>exact ⟨r,rfl⟩
  have hv:A7 rs=[Ae r0]:=by rw [A7,if_pos h1,hr0];rfl
  have HR:Hid (N8 F b rs=Fr F b (Ae r0)):=by rw [Hid,N8,if_pos ⟨h1,h2⟩,hr0];rfl
  rw [hv,h1] at HNS;rw [HR.o];have hbd:=Ib r0;obtain ⟨n,hnn⟩:∃ n,Ae r0=n:=⟨_,rfl⟩;rw [hnn] at HNS hbd ⊢
  simp only [List.length_singleton,List.map_cons,List.map_nil] at HNS
  clear hv hnn HR h1 hr0 h2
  go_enter func172,ntmps172
  go_wp2_with fail
  refine Calls.mono HNS.o ?_;rintro e w1 ⟨a,k,rfl,o1,b1⟩
  obtain ⟨g,rfl,-,-⟩:=Hf o1 (by omega)
  have hcell:w1.cell? ⟨g,0,none⟩=some (.int .i64 n):=by simpa using o1.cellAt 0 (by omega)
  have HK1:Hid (KS B K 1 b q w1):=HK0.o.below b1;have HB1:Hid (Ce B w w1):=.of b1 HB0.o;have HE1:Hid (E w1):=HKI.o.grow HE0.o b1;clear o1 b1 HNS
  have HDO:Hid (∀ u,Calls prog 99 #[.int .i64 n] u fun e w'=>e=.returned (.bool (Dn n))∧w'=u):=fun u=>Bm n u
  obtain ⟨c0,c1,c2,c3,c4,c5,c6,c7,z0,z1,z2,z3,z4,z5,z6,z7⟩:=HK1.o.z;obtain ⟨et,ea,hee⟩:=HKI.o.eDay w1 HE1.o
  have HYY:Hid (NF E (.iface et (.pointer (some ea)))):=⟨w1,4,HE1.o,by decide,hee⟩
  by_cases hdy:Dn n=true
  ·rw [hdy] at HDO
   by_cases hlt:b.today<n
   ·have hle:¬ n≤b.today:=by omega
    have HDB:Hid _:=cA F hdy hlt;clear hdy hee
    go_upto_region 8 with (go_at_call 99;refine (HDO.o _).mono ?_;rintro e w' ⟨rfl,hw'⟩;replace hw':=hw'.symm;subst hw')
    obtain ⟨W,hW⟩:∃ W,W=w1.setCell ⟨K,3,none⟩ (.int .i64 n):=⟨_,rfl⟩;rw [← hW]
    have HK2:Hid (KS B K 1 ⟨n,b.off,b.az,b.cs,b.ls,b.log⟩ q W):=by rw [hW];exact HK1.o.setDay n
    have HB2:Hid (Ce B w W):=by rw [hW];exact HB1.o.setK HK1.o.kt HK1.o.hK
    clear hW c0 c1 c2 c3 c4 c5 c6 c7 z0 z1 z2 z3 z4 z5 z6 z7 hcell;obtain ⟨c0,c1,c2,c3,c4,c5,c6,c7,z0,z1,z2,z3,z4,z5,z6,z7⟩:=HK2.o.z;go_wp2_with fail
    refine Calls.mono (HKI.o.prune q.a q.ac b.az n W HK2.o.at.az HPR.o.sm.2.1 HPR.o.ref) ?_;rintro e w3 ⟨a3,k3,rfl,o3,b3⟩;have HBW:Hid (B≤W.heap.size):=HK2.o.lt;have HK3:Hid _:=(HK2.o.below b3).setA o3 HBW.o;have HB3:Hid (Ce B w (w3.setCell ⟨K,5,none⟩ (.slice a3 (F.prune b.az n).length k3))):=(HB2.o.trans (.of b3 HBW.o)).setK (HK2.o.below b3).kt HK1.o.hK;have z5':=(HK2.o.below b3).z.z5;have c5':=(HK2.o.below b3).z.c5;clear o3 b3 c0 c1 c2 c3 c4 c5 c6 c7 z0 z1 z2 z3 z4 z5 z6 z7;go_wp2;go_ret;rw [HDB.o];exact Uv HK3.o HB3.o
   ·have hle:n≤b.today:=by omega
    have HDB:Hid _:=cS F hlt;clear hdy
    go_wp2_with (go_at_call 99;refine (HDO.o _).mono ?_;rintro e w' ⟨rfl,hw'⟩;replace hw':=hw'.symm;subst hw')
    go_ret;rw [HDB.o]
    exact Et HYY.o (by decide) HK1.o HB1.o
  ·have hdf:Dn n=false:=by simpa using hdy
   rw [hdf] at HDO;have HDB:Hid _:=bH F b hdf;clear hdy hdf
   go_wp2_with (go_at_call 99;refine (HDO.o _).mono ?_;rintro e w' ⟨rfl,hw'⟩;replace hw':=hw'.symm;subst hw')
   go_ret;rw [HDB.o]
   exact Et HYY.o (by decide) HK1.o HB1.o
 ·have HR:Hid (N8 F b rs=(b,1)):=if_neg hok
  have hne:Ap rs=true→¬ (A7 rs).length=1:=fun h1 h2=>hok ⟨h1,by rw [A7,if_pos h1] at h2;simpa using h2⟩
  rw [HR.o]
  have hln:(A7 rs).length≤1048576:=by unfold A7;split <;> simp;omega
  obtain ⟨L,hL⟩:∃ L,A7 rs=L:=⟨_,rfl⟩;rw [hL] at HNS hne hln;obtain ⟨ok,hok2⟩:∃ x,Ap rs=x:=⟨_,rfl⟩;rw [hok2] at HNS hne;clear hL hok2 hok HR
  go_enter func172,ntmps172
  go_wp2_with fail
  refine Calls.mono HNS.o ?_;rintro e w1 ⟨a,k,rfl,o1,b1⟩;have HK1:Hid (KS B K 1 b q w1):=HK0.o.below b1;have HB1:Hid (Ce B w w1):=.of b1 HB0.o;obtain ⟨et,ea,hee⟩:=HKI.o.eLine w1 (HKI.o.grow HE0.o b1)
  have HYY:Hid (NF E (.iface et (.pointer (some ea)))):=⟨w1,3,(HKI.o.grow HE0.o b1),by decide,hee⟩
  clear o1 b1 HNS
  cases ok
  ·clear hne
   go_wp2;go_ret
   exact Et HYY.o (by decide) HK1.o HB1.o
  ·have hl1:((L.length:Int) == 1)=false:=by
     have:=hne rfl
     simp;omega
   clear hne;go_wp2;go_ret
   exact Et HYY.o (by decide) HK1.o HB1.o
def Gt (F:Ff) (b:Bk) (rs:Be):Bk×Int :=
 if rs.length=4∧Al rs 0≠[]∧Ap (rs.drop 1)=true then Fq F b (Al rs 0) (Ae (Al rs 1)) (Ae (Al rs 2)) (Ae (Al rs 3)) else (b,1)
theorem kK (F:Ff) {b:Bk} {ref:List UInt8} {n0 n1 n2:Int} (h:F.addOk b.az ⟨ref,n0,n1,n2,b.today,false⟩=true):Fq F b ref n0 n1 n2=(⟨b.today,b.off,F.add b.az ⟨ref,n0,n1,n2,b.today,false⟩,b.cs,b.ls,b.log⟩,0):=if_pos h
theorem bZ (F:Ff) {b:Bk} {ref:List UInt8} {n0 n1 n2:Int} (h:F.addOk b.az ⟨ref,n0,n1,n2,b.today,false⟩=false):Fq F b ref n0 n1 n2=(b,3):=if_neg (by rw [h];decide)
theorem nP {α:Type} {rs:List α} (h:rs.length=4):∃ a b c d,rs=[a,b,c,d]:=by
 match rs,h with
 | [a,b,c,d],_=>exact ⟨a,b,c,d,rfl⟩
theorem pV {w:World} {ao:Option Addr} {a b c d:List UInt8} (h:Bh w ao [a,b,c,d]):∃ g off,ao=some ⟨g,off,none⟩∧g<w.heap.size∧w.cell? ⟨g,off,none⟩=some (.string ⟨a.toArray⟩)∧w.cell? ⟨g,off+1,none⟩=some (.string ⟨b.toArray⟩)∧w.cell? ⟨g,off+2,none⟩=some (.string ⟨c.toArray⟩)∧w.cell? ⟨g,off+3,none⟩=some (.string ⟨d.toArray⟩):=by
 rcases h with h | ⟨g,off,h1,h2,h3⟩
 ·cases h
 ·exact ⟨g,off,h1,h2,h3 0 (by simp),h3 1 (by simp),h3 2 (by simp),h3 3 (by simp)⟩
theorem pY {w:World} {g off:Nat} {b c d:List UInt8} (hg:g<w.heap.size) (h1:w.cell? ⟨g,off,none⟩=some (.string ⟨b.toArray⟩)) (h2:w.cell? ⟨g,off+1,none⟩=some (.string ⟨c.toArray⟩)) (h3:w.cell? ⟨g,off+2,none⟩=some (.string ⟨d.toArray⟩)):Bh w (some ⟨g,off,none⟩) [b,c,d] :=
 .inr ⟨g,off,rfl,hg,fun i hi=>by
  rcases (show i=0∨i=1∨i=2 by simp at hi;omega) with rfl | rfl | rfl
  ·exact h1
  ·exact h2
  ·exact h3⟩
theorem eM {F:Ff} {E:World→Prop} {G B K:Nat} (KI:Rq F E G) (b:Bk) (q:Bp) (ao:Option Addr) (cap:Nat) (rs:Be) (w:World) (hk:KS B K 1 b q w) (hE:E w) (hP:Ej b) (hz:Bh w ao rs) (hcap:rs.length≤cap) (hcm:cap≤1048577) (hd:∀ r ∈ rs,r.length≤1048576) :
  Calls prog 173 #[.pointer (some ⟨K,0,none⟩),.slice ao rs.length cap] w (Wz E B K w (Gt F b rs)):=by
 have HB0:Hid (B≤w.heap.size):=hk.lt;have HK0:Hid (KS B K 1 b q w):=hk;have HE0:Hid (E w):=hE;have HPR:Hid (Ej b):=hP;have HKI:Hid (Rq F E G):=KI;obtain ⟨et,ea,hee⟩:=KI.eLine w hE
 have HYY:Hid (NF E (.iface et (.pointer (some ea)))):=⟨w,3,hE,by decide,hee⟩
 have HBR:Hid (Ce B w w):=.refl _ _
 by_cases hl4:rs.length=4
 ·obtain ⟨r0,r1,r2,r3,hrs⟩:=nP hl4
  have d0:=hd r0 (by rw [hrs];simp)
  have d1:=hd r1 (by rw [hrs];simp)
  have d2:=hd r2 (by rw [hrs];simp)
  have d3:=hd r3 (by rw [hrs];simp)
  rw [hrs] at hz;obtain ⟨g,off,rfl,hg,t0,t1,t2,t3⟩:=pV hz;rw [hrs] at hcap ⊢
  simp only [List.length_cons,List.length_nil] at hcap
  clear hd hz hl4 hk hE hP KI hrs
  by_cases hr0:r0=[]
  ·have HR:Hid (Gt F b [r0,r1,r2,r3]=(b,1)):=if_neg (by rintro ⟨_,h,_⟩;exact h hr0)
   rw [HR.o];subst hr0;clear HR
   go_enter func173,ntmps173
   go_wp2;go_ret
   exact Et HYY.o (by decide) HK0.o HBR.o
  ·have hrb:(r0 == [])=false:=by simpa using hr0
   have HNS:Hid (Calls prog 206 #[.slice (some ⟨g,off+1,none⟩) 3 (cap - 1)] w fun e w'=>∃ a k,e=.returned (.tuple #[.slice a (A7 [r1,r2,r3]).length k,.bool (Ap [r1,r2,r3])])∧w'.ownsRow w.heap.size 3 1 (.slice a (A7 [r1,r2,r3]).length k) (A7 [r1,r2,r3]).length ((A7 [r1,r2,r3]).map (Value.int .i64))∧BW w w') :=
    Ks HKI.o (some ⟨g,off+1,none⟩) (cap - 1) [r1,r2,r3] w (pY hg t1 t2 t3) (by simp) (by
     intro r hr
     simp at hr
     rcases hr with rfl | rfl | rfl <;> assumption) HE0.o
   have HRR:Hid (Gt F b [r0,r1,r2,r3]=if Ap [r1,r2,r3]=true then Fq F b r0 (Ae r1) (Ae r2) (Ae r3) else (b,1)):=by
    rw [Hid,Gt]
    by_cases h:Ap [r1,r2,r3]=true
    ·rw [if_pos ⟨rfl,hr0,h⟩,if_pos h];rfl
    ·rw [if_neg (fun e=>h e.2.2),if_neg h]
   rw [HRR.o];clear HRR hr0
   by_cases hok:Ap [r1,r2,r3]=true
   ·have hv:A7 [r1,r2,r3]=[Ae r1,Ae r2,Ae r3]:=if_pos hok
    have b1':=Ib r1;have b2':=Ib r2;have b3':=Ib r3
    have hn2:0≤Ae r2:=by
     have:=List.all_eq_true.1 hok r2 (by simp)
     simpa using this
    rw [hv,hok] at HNS;rw [if_pos hok];obtain ⟨n1,e1⟩:∃ n,Ae r1=n:=⟨_,rfl⟩;obtain ⟨n2,e2⟩:∃ n,Ae r2=n:=⟨_,rfl⟩;obtain ⟨n3,e3⟩:∃ n,Ae r3=n:=⟨_,rfl⟩;rw [e1] at HNS b1' ⊢;rw [e2] at HNS b2' hn2 ⊢;rw [e3] at HNS b3' ⊢
    simp only [List.length_cons,List.length_nil,List.map_cons,List.map_nil] at HNS
    clear hv e1 e2 e3 hok hee
    go_enter func173,ntmps173
    go_wp2_with fail
    refine Calls.mono HNS.o ?_;rintro e w1 ⟨a,k,rfl,o1,p1⟩
    obtain ⟨g1,rfl,-,-⟩:=Hf o1 (by omega)
    have m0:w1.cell? ⟨g1,0,none⟩=some (.int .i64 n1):=by simpa using o1.cellAt 0 (by omega)
    have m1:w1.cell? ⟨g1,1,none⟩=some (.int .i64 n2):=by simpa using o1.cellAt 1 (by omega)
    have m2:w1.cell? ⟨g1,2,none⟩=some (.int .i64 n3):=by simpa using o1.cellAt 2 (by omega)
    have s0:w1.cell? ⟨g,off,none⟩=some (.string ⟨r0.toArray⟩):=(p1.cell (p:=⟨g,off,none⟩) hg).trans t0;have HK1:Hid (KS B K 1 b q w1):=HK0.o.below p1;have HB1:Hid (Ce B w w1):=.of p1 HB0.o;have HE1:Hid (E w1):=HKI.o.grow HE0.o p1;have hz:=HK1.o.z;have lK:=hz.lt
    have HS:Hid (∀ u,BW w1 u→u.cell? ⟨K,3,none⟩=some (.int .i64 b.today)∧u.cell? ⟨K,5,none⟩=some (.slice q.a b.az.length q.ac)∧u.cell? ⟨g,off,none⟩=some (.string ⟨r0.toArray⟩)∧u.cell? ⟨g1,0,none⟩=some (.int .i64 n1)∧u.cell? ⟨g1,1,none⟩=some (.int .i64 n2)∧u.cell? ⟨g1,2,none⟩=some (.int .i64 n3)):=fun u h=>by
     have l1:=World.block_lt_of_cell? w1 _ m0;have l2:=World.block_lt_of_cell? w1 _ s0;exact ⟨(h.cell (p:=⟨K,3,none⟩) lK).trans hz.c3,(h.cell (p:=⟨K,5,none⟩) lK).trans hz.c5,(h.cell (p:=⟨g,off,none⟩) l2).trans s0,(h.cell (p:=⟨g1,0,none⟩) l1).trans m0,(h.cell (p:=⟨g1,1,none⟩) l1).trans m1,(h.cell (p:=⟨g1,2,none⟩) l1).trans m2⟩
    have HAD:Hid (∀ u,BW w1 u→Calls prog 208 #[.slice q.a b.az.length q.ac,.agg #[.string ⟨r0.toArray⟩,.int .i64 n1,.int .i64 n2,.int .i64 n3,.int .i64 b.today,.bool false]] u (Pi u (F.add b.az ⟨r0,n1,n2,n3,b.today,false⟩) (F.addOk b.az ⟨r0,n1,n2,n3,b.today,false⟩))):=fun u h =>
     HKI.o.add q.a q.ac b.az ⟨r0,n1,n2,n3,b.today,false⟩ u (HK1.o.below h).at.az HPR.o.sm.2.1 HPR.o.ref d0 ⟨hn2,b2'.2⟩
    have k0:BW w1 w1:=bR;have HY:Hid _:=@kK F b r0 n1 n2 n3;have HNO:Hid _:=@bZ F b r0 n1 n2 n3;obtain ⟨L,hL⟩:∃ L,F.add b.az ⟨r0,n1,n2,n3,b.today,false⟩=L:=⟨_,rfl⟩;obtain ⟨ok,hok⟩:∃ o,F.addOk b.az ⟨r0,n1,n2,n3,b.today,false⟩=o:=⟨_,rfl⟩;rw [hL] at HAD HY;rw [hok] at HAD HY HNO;clear o1 p1 HNS hL hok hz lK t0 t1 t2 t3 hn2 b1' b2' b3';obtain ⟨q3,q5,qg,qa,qb,qc⟩:=HS.o _ k0;clear m0 m1 m2 s0;go_upto_region 6 with fail
    go_region_held3 (fun u=>u.cell? ⟨K,3,none⟩=some (.int .i64 b.today)∧u.cell? ⟨K,5,none⟩=some (.slice q.a b.az.length q.ac)∧u.cell? ⟨g,off,none⟩=some (.string ⟨r0.toArray⟩)∧u.cell? ⟨g1,0,none⟩=some (.int .i64 n1)∧u.cell? ⟨g1,1,none⟩=some (.int .i64 n2)∧u.cell? ⟨g1,2,none⟩=some (.int .i64 n3)) (first | with_reducible exact HS.o _ k0 | with_reducible exact HS.o _ k0.drew | with_reducible exact HS.o _ k3) ((go_at_call 208;(first | with_reducible refine Calls.mono (HAD.o _ k0) ?_ | with_reducible refine Calls.mono (HAD.o _ k0.drew) ?_);rintro e w3 ⟨a3,c3,rfl,o3,p3⟩;have k3:BW w1 w3:=(by first | exact p3 | exact (Below.trans (Below.refl w1.heap.size w1).drew p3))))
    all_goals
     rename_i hheld
     have HK3:Hid (KS B K 1 b q w3):=HK1.o.below k3;have HBW:Hid (B≤w1.heap.size):=HK1.o.lt;have HB3:Hid (Ce B w w3):=HB1.o.trans (.of k3 HBW.o);obtain ⟨et,ea,hee⟩:=HKI.o.eAuth w3 (HKI.o.grow HE1.o k3)
     have HYY:Hid (NF E (.iface et (.pointer (some ea)))):=⟨w3,5,(HKI.o.grow HE1.o k3),by decide,hee⟩
     have HO3:Hid (w3.ownsRow w1.heap.size 107 6 (.slice a3 L.length c3) L.length (Ah L)):=(by first | exact o3 | exact (by simpa using o3))
     clear hheld q3 q5 qg qa qb qc k0 k3 p3 o3
     cases ok
     ·have HQ:Hid _:=HNO.o rfl
      clear HY HNO;go_wp2;go_ret;rw [HQ.o]
      exact Et HYY.o (by decide) HK3.o HB3.o
     ·have HQ:Hid _:=HY.o rfl
      have HKA:Hid _:=HK3.o.setA HO3.o HBW.o;have HBA:Hid (Ce B w (w3.setCell ⟨K,5,none⟩ (.slice a3 L.length c3))):=HB3.o.setK HK3.o.kt HK1.o.hK;have z5:=HK3.o.z.z5;have c5:=HK3.o.z.c5;clear HY HNO;go_wp2;go_ret;rw [HQ.o];exact Uv HKA.o HBA.o
   ·have hokf:Ap [r1,r2,r3]=false:=by simpa using hok
    rw [if_neg hok];obtain ⟨L,hL⟩:∃ L,A7 [r1,r2,r3]=L:=⟨_,rfl⟩;rw [hL,hokf] at HNS;clear hL hok hokf hee
    go_enter func173,ntmps173
    go_wp2_with fail
    refine Calls.mono HNS.o ?_;rintro e w1 ⟨a,k,rfl,o1,p1⟩;have HK1:Hid (KS B K 1 b q w1):=HK0.o.below p1;have HB1:Hid (Ce B w w1):=.of p1 HB0.o;obtain ⟨et,ea,hee⟩:=HKI.o.eLine w1 (HKI.o.grow HE0.o p1)
    have HYY:Hid (NF E (.iface et (.pointer (some ea)))):=⟨w1,3,(HKI.o.grow HE0.o p1),by decide,hee⟩
    clear o1 p1 HNS t0 t1 t2 t3;go_wp2;go_ret
    exact Et HYY.o (by decide) HK1.o HB1.o
 ·have HR:Hid (Gt F b rs=(b,1)):=if_neg (fun e=>hl4 e.1)
  rw [HR.o];obtain ⟨n,hnl⟩:∃ n,rs.length=n:=⟨_,rfl⟩;rw [hnl] at hl4 hcap ⊢
  have hl4':((n:Int) == 4)=false:=by
   have:¬ (n:Int)=4:=by omega
   simpa using this
  have hl5:((n:Int) != 4)=true:=by
   have:¬ (n:Int)=4:=by omega
   simpa using this
  clear HR hl4 hd hz hk hE hP KI hnl hcap hcm
  go_enter func173,ntmps173
  go_wp2;go_ret
  exact Et HYY.o (by decide) HK0.o HBR.o
def PsR (B K:Nat) (F:Ff) (b:Bk) (q:Bp) (es:List En) (w:World) (e:Ending) (w':World):Prop :=
 e=.returned (.bool (F.allOk b.ls es))∧(∃ a c,KS B K 1 ⟨b.today,b.off,b.az,b.cs,F.all b.ls es,b.log⟩ ⟨q.o,q.oc,q.a,q.ac,q.c,q.cc,a,c,q.g,q.gc⟩ w')∧Ce B w w'∧w.grownBy w' (some K)
theorem K9 {F:Ff} {E:World→Prop} {G B K:Nat} (KI:Rq F E G) (b:Bk) (q:Bp) (eo:Option Addr) (ec:Nat) (es:List En) (w:World) (hk:KS B K 1 b q w) (hP:Ej b) (hz:C8 w eo es) (hn:es.length≤1048576) (hd:∀ x ∈ es,Ma x) :
  Calls prog 211 #[.pointer (some ⟨K,2,none⟩),.slice eo es.length ec] w (PsR B K F b q es w):=by
 have HPO:Hid (Calls prog 255 #[.agg #[.slice q.l b.ls.length q.lc],.slice eo es.length ec] w fun e w'=>∃ ao cap,e=.returned (.tuple #[.agg #[.slice ao (F.all b.ls es).length cap],.bool (F.allOk b.ls es)])∧w'.ownsRow w.heap.size 113 3 (.slice ao (F.all b.ls es).length cap) (F.all b.ls es).length (Ag (F.all b.ls es))∧BW w w'):=KI.post q.l q.lc b.ls eo ec es w hk.at.ls hP.sm.2.2.2.1 hP.lb hz hn hd
 have HB0:Hid (B≤w.heap.size):=hk.lt;have HK0:Hid (KS B K 1 b q w):=hk;obtain ⟨L,hL⟩:∃ L,F.all b.ls es=L:=⟨_,rfl⟩;obtain ⟨ok,hok⟩:∃ o,F.allOk b.ls es=o:=⟨_,rfl⟩;have HLL:Hid (F.all b.ls es=L):=hL;have HOK:Hid (F.allOk b.ls es=ok):=hok;rw [hL,hok] at HPO;obtain ⟨c0,c1,c2,c3,c4,c5,c6,c7,z0,z1,z2,z3,z4,z5,z6,z7⟩:=hk.z;clear hz hd hk hP KI hL hok
 go_enter func211,ntmps211
 go_wp2_with fail
 refine Calls.mono HPO.o ?_;rintro e w1 ⟨a,k,rfl,o1,b1⟩;have bA:Below w1.heap.size w1 (w1.alloc (.cells #[.slice a L.length k] 29)):=bR.alloc nL _;have HO:Hid ((w1.alloc (.cells #[.slice a L.length k] 29)).ownsRow w.heap.size 113 3 (.slice a L.length k) L.length (Ag L)):=Av o1 bA;have HK2:Hid (KS B K 1 b q (w1.alloc (.cells #[.slice a L.length k] 29))):=(HK0.o.below b1).below bA;have HB2:Hid (Below w.heap.size w (w1.alloc (.cells #[.slice a L.length k] 29))):=next b1 bA
 have bc:(w1.alloc (.cells #[.slice a L.length k] 29)).cell? ⟨w1.heap.size,0,none⟩=some (.slice a L.length k):=by simp
 clear c0 c1 c2 c3 c4 c5 c6 c7 z0 z1 z2 z3 z4 z5 z6 z7 o1 b1 bA HPO;go_upto_region 2 with fail
 obtain ⟨W,hW⟩:∃ W,W=w1.alloc (.cells #[.slice a L.length k] 29):=⟨_,rfl⟩;rw [← hW] at HO HK2 HB2 bc ⊢;clear hW;have c2:=HK2.o.z.c2;have z2:=HK2.o.z.z2;have HKL:Hid _:=HK2.o.setL HO.o HB0.o
 have HGR:Hid (w.grownBy (W.setCell ⟨K,2,none⟩ (.slice a L.length k)) (some K)):=by
  have h:=HB2.o
  exact (World.grownBy.trans ⟨h.os,h.tape,h.output,h.size,fun j hj _=>h.block j hj⟩ (An W K 2 _))
 have HBS:Hid (Ce B w (W.setCell ⟨K,2,none⟩ (.slice a L.length k))):=(Ce.of HB2.o HB0.o).setK HK2.o.kt HK0.o.hK;go_wp2;go_ret;refine ⟨?_,⟨a,k,?_⟩,HBS.o,HGR.o⟩
 ·rw [HOK.o];rfl
 ·rw [HLL.o];exact HKL.o
def sL:Array Value:=#[.string ⟨#[97,115,107]⟩,.string ⟨#[103,105,118,101]⟩,.string ⟨#[99,104,97,114,103,101]⟩,.string ⟨#[97,110,115,119,101,114]⟩,.string ⟨#[115,101,99,111,110,100]⟩,.string ⟨#[97,99,99,101,112,116]⟩,.string ⟨#[114,101,102,117,115,101]⟩,.string ⟨#[114,117,108,101]⟩,.string ⟨#[101,120,112,105,114,101]⟩,.string ⟨#[99,108,111,115,101]⟩]
theorem pJ (k:Nat) (h:k<10) (V:World):(Instr.index 156 (.agg sL) (.int .i64 (k:Int))).run prog V=.ok (.string ⟨(Al Dm k).toArray⟩) V:=by
 rcases (show k=0∨k=1∨k=2∨k=3∨k=4∨k=5∨k=6∨k=7∨k=8∨k=9 by omega) with rfl | rfl | rfl | rfl | rfl | rfl | rfl | rfl | rfl | rfl <;> kernel_rfl
def Oz (s:List UInt8):Int:=if 0≤Bz s then Bz s else 0
theorem fD {F:Ff} {E:World→Prop} {G:Nat} (K:Rq F E G) (s:List UInt8) (w:World) (hE:E w) :
  Calls prog 213 #[.string ⟨s.toArray⟩] w fun e w'=>e=.returned (.tuple #[.int .i64 (Oz s),.bool (decide (0≤Bz s))])∧BW w w':=by
 have HK:Hid (Bz s=Dh s (Dm.drop 0) 0):=rfl;have hw:=K.words w hE
 have g0:w.cell? ⟨0,0,none⟩=some (.string ⟨#[97,115,107]⟩):=hw 0 (by decide)
 have g1:w.cell? ⟨0,1,none⟩=some (.string ⟨#[103,105,118,101]⟩):=hw 1 (by decide)
 have g2:w.cell? ⟨0,2,none⟩=some (.string ⟨#[99,104,97,114,103,101]⟩):=hw 2 (by decide)
 have g3:w.cell? ⟨0,3,none⟩=some (.string ⟨#[97,110,115,119,101,114]⟩):=hw 3 (by decide)
 have g4:w.cell? ⟨0,4,none⟩=some (.string ⟨#[115,101,99,111,110,100]⟩):=hw 4 (by decide)
 have g5:w.cell? ⟨0,5,none⟩=some (.string ⟨#[97,99,99,101,112,116]⟩):=hw 5 (by decide)
 have g6:w.cell? ⟨0,6,none⟩=some (.string ⟨#[114,101,102,117,115,101]⟩):=hw 6 (by decide)
 have g7:w.cell? ⟨0,7,none⟩=some (.string ⟨#[114,117,108,101]⟩):=hw 7 (by decide)
 have g8:w.cell? ⟨0,8,none⟩=some (.string ⟨#[101,120,112,105,114,101]⟩):=hw 8 (by decide)
 have g9:w.cell? ⟨0,9,none⟩=some (.string ⟨#[99,108,111,115,101]⟩):=hw 9 (by decide)
 clear hw hE K
 go_enter func213,ntmps213
 go_wp2;clear g0 g1 g2 g3 g4 g5 g6 g7 g8 g9
 go_loopw [7] (fun i wr=>∃ (k:Nat),k≤10∧i=.int .i64 (k:Int)∧Bz s=Dh s (Dm.drop k) k∧BW w wr) (fun i _=>10 - (intOf i).toNat)
 case atStart=>exact ⟨0,Nat.zero_le _,rfl,HK.o,bR⟩
 case round =>
  obtain ⟨k,hk,rfl,hkw,hbr⟩:=hrel;have HBR:Hid (BW w wr):=hbr
  by_cases hlt:k<10
  ·have hki:(k:Int)<10:=by omega
   have hst:=Sz s Dm k hlt;have hix:=pJ k hlt;unfold sL at hix;obtain ⟨r,hr⟩:∃ r,Al Dm k=r:=⟨_,rfl⟩;rw [hr] at hst hix;clear hr hbr HK
   by_cases hrs:r=s
   ·subst hrs
    rw [if_pos rfl] at hst
    have HE:Hid (Oz r=(k:Int)∧decide (0≤Bz r)=true):=by
     have e:Bz r=(k:Int):=hkw.trans hst;unfold Oz;rw [e]
     exact ⟨if_pos (by omega),decide_eq_true (by omega)⟩
    clear hst hkw;go_wp2;go_ret2;exact ⟨Oc HE.o.1.symm HE.o.2.symm,HBR.o⟩
   ·rw [if_neg hrs] at hst
    have HE:Hid (Bz s=Dh s (Dm.drop (k+1)) (k+1)):=hkw.trans hst
    have hds:(r == s)=false:=by simpa using hrs
    clear hst hkw;go_wp2
    go_roundw
    case rel=>exact ⟨k+1,by omega,by go_num,HE.o,HBR.o⟩
    case measure=>simp [intOf];omega
  ·have hke:k=10:=by omega
   subst hke
   have HE:Hid (Oz s=0∧decide (0≤Bz s)=false):=by
    have e:Bz s = -1:=hkw;unfold Oz;rw [e]
    exact ⟨by simp,by simp⟩
   clear hbr hkw;go_wp2;go_ret2;exact ⟨Oc HE.o.1.symm HE.o.2.symm,HBR.o⟩
end Go.Proofs.YtomiclakhjncbaaGreatDoor.Kb
namespace Go.Proofs.YtomiclakhjncbaaGreatDoor
open Go.RowKit Go.Proofs.Tryz
theorem Mj (F:Ff) (K:Nc F) (b:Bk) (p:Bp) (n:Int) (w:World) (hx:Aq w b p) (hn:D0 b) :
  Calls prog 141 #[C5 b p,.int .i64 n] w (U8 w p (Fr F b n).1 (Fr F b n).2):=by
 have HX:Hid (∀ u,BW w u→Aq u b p):=fun u h=>hx.below h
 have HN:Hid (D0 b):=hn;clear hx hn;obtain ⟨td,fo,az,cs,ls,lg⟩:=b;obtain ⟨o,oc,a,ac,c,cc,l,lc,g,gc⟩:=p;unfold C5
 simp only
 obtain ⟨u0,hu0⟩:∃ u,u=((w.alloc (.cells #[.int .i64 td,.slice o fo.length oc,.slice a az.length ac,.slice c cs.length cc,.slice l ls.length lc,.slice g lg.length gc] 31))).alloc (.cells #[.int .i64 0,.slice none 0 0,.slice none 0 0,.slice none 0 0,.slice none 0 0,.slice none 0 0] 31):=⟨_,rfl⟩
 have HB0:Hid (BW w u0):=by rw [Hid,hu0];go_grown
 have HS0:Hid ((w.heap.size+1)<u0.heap.size):=by rw [Hid,hu0];simp
 have HZ0:Hid (Z6 w.heap.size (.int .i64 td) (.slice o fo.length oc) (.slice a az.length ac) (.slice c cs.length cc) (.slice l ls.length lc) (.slice g lg.length gc) u0):=by
  rw [Hid,hu0];exact ((Z6.new w (.int .i64 td) (.slice o fo.length oc) (.slice a az.length ac) (.slice c cs.length cc) (.slice l ls.length lc) (.slice g lg.length gc) 31)).below (bR.alloc nL _)
 have HR0:Hid (Z6 (w.heap.size+1) (.int .i64 0) (.slice none 0 0) (.slice none 0 0) (.slice none 0 0) (.slice none 0 0) (.slice none 0 0) u0):=by
  have h:=Z6.new ((w.alloc (.cells #[.int .i64 td,.slice o fo.length oc,.slice a az.length ac,.slice c cs.length cc,.slice l ls.length lc,.slice g lg.length gc] 31))) (.int .i64 0) (.slice none 0 0) (.slice none 0 0) (.slice none 0 0) (.slice none 0 0) (.slice none 0 0) 31
  rw [Hid,hu0];simpa using h
 have HU0:Hid _:=hu0;clear hu0
 go_enter func141,ntmps141
 go_upto_region 1 with fail
 rw [← HU0.o];clear HU0;obtain ⟨t0,t1,t2,t3,t4,t5,s0,s1,s2,s3,s4,s5⟩:=HZ0.o;obtain ⟨q0,q1,q2,q3,q4,q5,p0,p1,p2,p3,p4,p5⟩:=HR0.o
 cases hd:Dn n
 ·have HE:Hid _:=bH F ⟨td,fo,az,cs,ls,lg⟩ hd
  go_wp2_with (go_at_call 102;refine (A9 _ _).mono ?_;rintro e w' ⟨rfl,hw'⟩;replace hw':=hw'.symm;subst hw';rw [hd])
  refine bodyPost_ret (by simp [results,results141,go_sem,q0,q1,q2,q3,q4,q5];try rfl) rfl ?_
  rw [HE.o]
  have bel:=Ax (R:=(w.heap.size+1)) (by omega) HB0.o
  exact ⟨⟨o,oc,a,ac,c,cc,l,lc,g,gc⟩,rfl,HX.o _ (bel _ _ _ _ _ _),rfl,rfl,⟨rfl,.inl rfl,.inl rfl,.inl rfl⟩,bel _ _ _ _ _ _⟩
 by_cases hlt:td<n
 case neg =>
  have hle:n≤td:=by omega
  have HE:Hid _:=@cS F ⟨td,fo,az,cs,ls,lg⟩ n hlt
  go_wp2_with (go_at_call 102;refine (A9 _ _).mono ?_;rintro e w' ⟨rfl,hw'⟩;replace hw':=hw'.symm;subst hw';rw [hd])
  refine bodyPost_ret (by simp [results,results141,go_sem,q0,q1,q2,q3,q4,q5];try rfl) rfl ?_
  rw [HE.o]
  have bel:=Ax (R:=(w.heap.size+1)) (by omega) HB0.o
  exact ⟨⟨o,oc,a,ac,c,cc,l,lc,g,gc⟩,rfl,HX.o _ (bel _ _ _ _ _ _),rfl,rfl,⟨rfl,.inl rfl,.inl rfl,.inl rfl⟩,bel _ _ _ _ _ _⟩
 have hle:¬ n≤td:=by omega
 have HE:Hid _:=@cA F ⟨td,fo,az,cs,ls,lg⟩ n hd hlt
 go_upto_region 4 with (go_at_call 102;refine (A9 _ _).mono ?_;rintro e w' ⟨rfl,hw'⟩;replace hw':=hw'.symm;subst hw';rw [hd])
 obtain ⟨u1,hu1⟩:∃ u,u=u0.setCell ⟨w.heap.size,0,none⟩ (.int .i64 n):=⟨_,rfl⟩
 have HZ1:Hid (Z6 w.heap.size (.int .i64 n) (.slice o fo.length oc) (.slice a az.length ac) (.slice c cs.length cc) (.slice l ls.length lc) (.slice g lg.length gc) u1):=by rw [Hid,hu1];exact HZ0.o.set0 _
 have HR1:Hid (Z6 (w.heap.size+1) (.int .i64 0) (.slice none 0 0) (.slice none 0 0) (.slice none 0 0) (.slice none 0 0) (.slice none 0 0) u1):=by rw [Hid,hu1];exact HR0.o.far (by omega)
 have HB1:Hid (BW w u1):=by rw [Hid,hu1];exact HB0.o.setCell nL _
 have HS1:Hid (w.heap.size+1<u1.heap.size):=by rw [Hid,hu1];simpa using HS0.o
 rw [← hu1];clear hu1 HZ0 HR0 HB0 HS0 t0 t1 t2 t3 t4 t5 s0 s1 s2 s3 s4 s5 q0 q1 q2 q3 q4 q5 p0 p1 p2 p3 p4 p5;obtain ⟨t0,t1,t2,t3,t4,t5,s0,s1,s2,s3,s4,s5⟩:=HZ1.o;obtain ⟨q0,q1,q2,q3,q4,q5,p0,p1,p2,p3,p4,p5⟩:=HR1.o;go_wp2_with fail
 refine (K.prune a ac az n _ (HX.o _ HB1.o).az (by have:=HN.o.2.1;simpa using this)).mono ?_
 rintro e u2 ⟨b2,k2,rfl,o2,bb⟩;have HZ2:Hid _:=HZ1.o.below bb;have HR2:Hid _:=HR1.o.below bb;have HB2:Hid (BW w u2):=next HB1.o bb;have HO2:Hid _:=Bi o2 HS1.o;obtain ⟨L,hL⟩:∃ L,F.prune az n=L:=⟨_,rfl⟩;rw [hL] at HO2 ⊢;clear t0 t1 t2 t3 t4 t5 s0 s1 s2 s3 s4 s5 q0 q1 q2 q3 q4 q5 p0 p1 p2 p3 p4 p5 bb o2 HZ1 HR1 HB1;obtain ⟨t0,t1,t2,t3,t4,t5,s0,s1,s2,s3,s4,s5⟩:=HZ2.o;obtain ⟨q0,q1,q2,q3,q4,q5,p0,p1,p2,p3,p4,p5⟩:=HR2.o;go_upto_region 5 with fail
 obtain ⟨u3,hu3⟩:∃ u,u=u2.setCell ⟨w.heap.size,2,none⟩ (.slice b2 L.length k2):=⟨_,rfl⟩
 have HZ3:Hid (Z6 w.heap.size (.int .i64 n) (.slice o fo.length oc) (.slice b2 L.length k2) (.slice c cs.length cc) (.slice l ls.length lc) (.slice g lg.length gc) u3):=by rw [Hid,hu3];exact HZ2.o.set2 _
 have HR3:Hid (Z6 (w.heap.size+1) (.int .i64 0) (.slice none 0 0) (.slice none 0 0) (.slice none 0 0) (.slice none 0 0) (.slice none 0 0) u3):=by rw [Hid,hu3];exact HR2.o.far (by omega)
 have HB3:Hid (BW w u3):=by rw [Hid,hu3];exact HB2.o.setCell nL _
 have HO3:Hid (u3.ownsRow (w.heap.size+2) 107 6 (.slice b2 L.length k2) L.length (Ah L)):=by rw [Hid,hu3];exact Ad HO2.o (by omega)
 rw [← hu3];clear hu3 HZ2 HR2 HB2 HO2 t0 t1 t2 t3 t4 t5 s0 s1 s2 s3 s4 s5 q0 q1 q2 q3 q4 q5 p0 p1 p2 p3 p4 p5;obtain ⟨t0,t1,t2,t3,t4,t5,s0,s1,s2,s3,s4,s5⟩:=HZ3.o;obtain ⟨q0,q1,q2,q3,q4,q5,p0,p1,p2,p3,p4,p5⟩:=HR3.o;go_wp2
 refine bodyPost_ret (by simp [results,results141,go_sem,q0,q1,q2,q3,q4,q5];try rfl) rfl ?_
 rw [HE.o,hL]
 have bel:=Ax (R:=w.heap.size+1) (by omega) HB3.o
 have hX:=HX.o _ (bel (.int .i64 n) (.slice o fo.length oc) (.slice b2 L.length k2) (.slice c cs.length cc) (.slice l ls.length lc) (.slice g lg.length gc))
 exact ⟨⟨o,oc,b2,k2,c,cc,l,lc,g,gc⟩,rfl,⟨hX.off,Fd (Ea HO3.o (by omega) _ _ _ _ _ _),hX.cs,hX.ls,hX.log⟩,rfl,rfl,⟨rfl,.inr (fun x hx=>by have:=Cw HO3.o x hx;omega),.inl rfl,.inl rfl⟩,bel _ _ _ _ _ _⟩
def Fg (Rel:Bk→List UInt8→Bk×Int→Prop) (b:Bk) (line:List UInt8) (r:Bk×Int):Prop :=
 (600≤b.log.length∧r=(b,2))∨(b.log.length<600∧∃ s,Rel b line s∧((s.2≠0∧r=(b,s.2))∨(s.2=0∧r=(⟨s.1.today,s.1.off,s.1.az,s.1.cs,s.1.ls,b.log++[line]⟩,0))))
structure cB (Pre:Bk→Prop) (Rel:Bk→List UInt8→Bk×Int→Prop):Prop where
 log:∀ b l r,Rel b l r→r.1.log=b.log
 small:∀ b,Pre b→D0 b
 calls:∀ (b:Bk) (p:Bp) (line:List UInt8) (w:World),Aq w b p→Vb p w.heap.size→Pre b→line.length≤1048575 →
  Calls prog 84 #[C5 b p,.string ⟨line.toArray⟩] w fun e w'=>∃ r,Rel b line r∧U8 w p r.1 r.2 e w'
theorem Z6.grown {B:Nat} {v0 v1 v2 v3 v4 v5:Value} {u u':World} {row:Option Nat} (h:Z6 B v0 v1 v2 v3 v4 v5 u) (g:u.grownBy u' row) (hr:some B≠row):Z6 B v0 v1 v2 v3 v4 v5 u':=by
 have l:=h.lt;obtain ⟨c0,c1,c2,c3,c4,c5,z0,z1,z2,z3,z4,z5⟩:=h;exact ⟨(g.cell_far ⟨B,0,none⟩ l hr).trans c0,(g.cell_far ⟨B,1,none⟩ l hr).trans c1,(g.cell_far ⟨B,2,none⟩ l hr).trans c2,(g.cell_far ⟨B,3,none⟩ l hr).trans c3,(g.cell_far ⟨B,4,none⟩ l hr).trans c4,(g.cell_far ⟨B,5,none⟩ l hr).trans c5,(g.frozen_far ⟨B,0,none⟩ l hr).trans z0,(g.frozen_far ⟨B,1,none⟩ l hr).trans z1,(g.frozen_far ⟨B,2,none⟩ l hr).trans z2,(g.frozen_far ⟨B,3,none⟩ l hr).trans z3,(g.frozen_far ⟨B,4,none⟩ l hr).trans z4,(g.frozen_far ⟨B,5,none⟩ l hr).trans z5⟩
theorem aC {u u':World} {row:Option Nat} {T i:Nat} {x:Value} (h:u.grownBy u' row) (hT:u.heap.size≤T):u.grownBy (u'.setCell ⟨T,i,none⟩ x) row :=
 ⟨h.os,h.tape,h.output,by simpa using h.size,fun j hj hne=>(Below.heap_setCell _ _ _ _ (fun e=>by have:j=T:=e;omega)).trans (h.block j hj hne)⟩
theorem Mz {a a1:Option Addr} {n base B:Nat} (h:a=a1∨Cm a n) (h1:Dt a1 base) (hb:base≤B) (hB:B<n):Im a B:=by
 rcases h with rfl | h
 ·exact Td h1 hb
 ·exact Bb h hB
theorem Ky {a a1:Option Addr} {n B:Nat} (h:a=a1∨Cm a n) (h1:Im a1 B) (hB:B<n):Im a B:=by
 rcases h with rfl | h
 ·exact h1
 ·exact Bb h hB
structure Tp (Pre:Bk→Prop) (Pay:Bk→Int→Int→Int→Int→Bk×Int→Prop) (Act:Bk→Int→Ac→Bk×Int):Prop where
 pay:∀ (b:Bk) (p:Bp) (g k:Nat) (n0 n1 n2 n3:Int) (w:World),Aq w b p→Vb p w.heap.size→Pre b→w.cell? ⟨g,0,none⟩=some (.int .i64 n0)→w.cell? ⟨g,1,none⟩=some (.int .i64 n1)→w.cell? ⟨g,2,none⟩=some (.int .i64 n2)→w.cell? ⟨g,3,none⟩=some (.int .i64 n3)→n3<1000000000000000000→-1≤n3 →
  Calls prog 144 #[C5 b p,.slice (some ⟨g,0,none⟩) 4 k] w fun e w'=>∃ r,Pay b n0 n1 n2 n3 r∧U8 w p r.1 r.2 e w'
 act:∀ (b:Bk) (p:Bp) (i:Int) (x:Ac) (w:World),Aq w b p→Vb p w.heap.size→Pre b→Calls prog 146 #[C5 b p,.int .i64 i,av x] w (U8 w p (Act b i x).1 (Act b i x).2)
theorem Cm.mono {a:Option Addr} {n m:Nat} (h:Cm a n) (hm:m≤n):Cm a m:=fun x hx=>by have:=h x hx;omega
theorem Vb.mono {p:Bp} {n m:Nat} (h:Vb p n) (hm:n≤m):Vb p m:=⟨h.o.mono hm,h.a.mono hm,h.c.mono hm,h.l.mono hm,h.g.mono hm⟩
theorem Dz {u:World} {R:Nat} {p:Addr} {v:Value} (h:u.cell? p=some v) (hne:p.block≠R) (x0 x1 x2 x3 x4 x5:Value) :
  ((((((u.setCell ⟨R,0,none⟩ x0).setCell ⟨R,1,none⟩ x1).setCell ⟨R,2,none⟩ x2).setCell ⟨R,3,none⟩ x3).setCell ⟨R,4,none⟩ x4).setCell ⟨R,5,none⟩ x5).cell? p=some v:=by
 have s:∀ (y:World) (i:Nat) (x:Value),y.cell? p=some v→(y.setCell ⟨R,i,none⟩ x).cell? p=some v:=fun y i x hy=>((An y R i x).cell_far p (World.block_lt_of_cell? y _ hy) (by simp;exact hne)).trans hy
 exact s _ _ _ (s _ _ _ (s _ _ _ (s _ _ _ (s _ _ _ (s _ _ _ h)))))
theorem Qp {w u u4:World} {p q:Bp} {b':Bk} {code:Int} {R:Nat} (hah:Vb p w.heap.size) (hwu:BW w u) (hR:w.heap.size≤R) (hRu:R<u.heap.size) (hb:Aq u4 b' q) (hg:q.g=p.g) (hgc:q.gc=p.gc)
  (hpt:q.o=p.o∧(q.a=p.a∨Cm q.a u.heap.size)∧(q.c=p.c∨Cm q.c u.heap.size)∧(q.l=p.l∨Cm q.l u.heap.size)) (b4:BW u u4) (x0 x1 x2 x3 x4 x5:Value) :
  U8 w p b' code (.returned (.tuple #[C5 b' q,.int .i64 code])) ((((((u4.setCell ⟨R,0,none⟩ x0).setCell ⟨R,1,none⟩ x1).setCell ⟨R,2,none⟩ x2).setCell ⟨R,3,none⟩ x3).setCell ⟨R,4,none⟩ x4).setCell ⟨R,5,none⟩ x5) :=
 ⟨q,rfl,hb.put6 (nX hah hg hpt hR hRu) _ _ _ _ _ _,hg,hgc,⟨hpt.1,hpt.2.1.imp id (fun h=>h.mono hwu.size),hpt.2.2.1.imp id (fun h=>h.mono hwu.size),hpt.2.2.2.imp id (fun h=>h.mono hwu.size)⟩,Ax hR (next hwu b4) _ _ _ _ _ _⟩
theorem Dj (ao:Option Addr) (cap:Nat) (az:List Au) (w:World) (hz:Ar w ao az) (hn:az.length≤4194304) (hd:∀ a ∈ az,a.ref.length≤1099511627776) :
  Calls prog 110 #[.slice ao az.length cap] w fun e w'=>e=.returned (.slice (some ⟨w.heap.size,0,none⟩) az.length az.length) ∧
   w'.ownsRow w.heap.size 107 6 (.slice (some ⟨w.heap.size,0,none⟩) az.length az.length) az.length (Ah az)∧BW w w':=by
 obtain ⟨i0,hi,hz0,hz1,hz2⟩:=info_parts cF;have hm0:=Qx az.length
 rcases hz with rfl | ⟨b,off,rfl,hb,hcell⟩
 ·go_enter func110,ntmps110
  go_wp2_with (refine wpList_make_full _ rfl (.tmp 7) (.tmp 7) 132 rfl w.heap.size 107 i0 _ 6 underlying132 hi hz0 hz1 .i64 .i64 _ _ 0 rfl rfl rfl rfl (by rw [hz2];omega) (by unfold maxLen;omega) nL ?_;intro w1 hown hg)
  refine wp_loop_rounds 1 ?_;rw [rounds_succ];go_wp2;go_ret
  exact ⟨rfl,by simpa [madeCells,Ah] using hown,bR.grown hg nL (fun k hk=>by cases hk)⟩
 rw [← Pz az] at hm0;have HC:Hid (∀ i,i<az.length→w.cell? ⟨b,off+i*6,none⟩=some (.string ⟨(Ak az i).ref.toArray⟩)∧w.cell? ⟨b,off+i*6+1,none⟩=some (.int .i64 (Ak az i).iss)∧w.cell? ⟨b,off+i*6+2,none⟩=some (.int .i64 (Ak az i).cur)∧w.cell? ⟨b,off+i*6+3,none⟩=some (.int .i64 (Ak az i).am)∧w.cell? ⟨b,off+i*6+4,none⟩=some (.int .i64 (Ak az i).day)∧w.cell? ⟨b,off+i*6+5,none⟩=some (.bool (Ak az i).used)):=hcell;clear hcell
 go_enter func110,ntmps110
 go_wp2_with (refine wpList_make_full _ rfl (.tmp 7) (.tmp 7) 132 rfl w.heap.size 107 i0 _ 6 underlying132 hi hz0 hz1 .i64 .i64 _ _ az.length rfl rfl rfl rfl (by rw [hz2];omega) (by unfold maxLen;omega) nL ?_;intro w1 hown hg)
 rw [hm0] at hown
 have hb1:BW w w1:=bR.grown hg nL (fun k hk=>by cases hk)
 clear hm0 hg
 go_loopw [4,5,11] (fun _ _ i wr=>∃ k:Nat,k≤az.length∧i=.int .i64 k∧wr.ownsRow w.heap.size 107 6 (.slice (some ⟨w.heap.size,0,none⟩) az.length az.length) az.length (Ah (Du az k))∧BW w wr) (fun _ _ i _=>az.length - (intOf i).toNat)
 case atStart=>exact ⟨0,Nat.zero_le _,rfl,hown,hb1⟩
 case round =>
  obtain ⟨k,hk,rfl,ho,hbr⟩:=hrel;clear hown hb1
  by_cases hlt:k<az.length
  ·have x0:wr.cell? ⟨b,off+k*6,none⟩=some (.string ⟨(Ak az k).ref.toArray⟩):=(hbr.cell (p:=⟨b,off+k*6,none⟩) hb).trans (HC.o k hlt).1
   have x1:wr.cell? ⟨b,off+k*6+1,none⟩=some (.int .i64 (Ak az k).iss):=(hbr.cell (p:=⟨b,off+k*6+1,none⟩) hb).trans (HC.o k hlt).2.1;have x2:wr.cell? ⟨b,off+k*6+2,none⟩=some (.int .i64 (Ak az k).cur):=(hbr.cell (p:=⟨b,off+k*6+2,none⟩) hb).trans (HC.o k hlt).2.2.1;have x3:wr.cell? ⟨b,off+k*6+3,none⟩=some (.int .i64 (Ak az k).am):=(hbr.cell (p:=⟨b,off+k*6+3,none⟩) hb).trans (HC.o k hlt).2.2.2.1;have x4:wr.cell? ⟨b,off+k*6+4,none⟩=some (.int .i64 (Ak az k).day):=(hbr.cell (p:=⟨b,off+k*6+4,none⟩) hb).trans (HC.o k hlt).2.2.2.2.1;have x5:wr.cell? ⟨b,off+k*6+5,none⟩=some (.bool (Ak az k).used):=(hbr.cell (p:=⟨b,off+k*6+5,none⟩) hb).trans (HC.o k hlt).2.2.2.2.2
   have hki:(k:Int)<(az.length:Int):=by omega
   have hdk:=hd _ (J8 hlt);have HS:Hid _:=Ly az k hlt
   have HT:Hid _:=Hu (Du az k) (Ak az k) k (by rw [Iu az k hk];exact hlt)
   have HFL:Hid (k<(Du az k).length):=by rw [Hid,Iu az k hk];exact hlt
   have HFL2:Hid (k<(Du az (k+1)).length):=by rw [Hid,Iu az (k+1) hlt];exact hlt
   have HAT:Hid (Ak (Du az (k+1)) k=Ak az k):=by
    rw [Hid,← Ly az k hlt,Gw (by rw [List.length_set];exact HFL.o),List.getElem_set_self]
   obtain ⟨⟨r,i,c,m,d,u⟩,hf⟩:∃ f,Ak az k=f:=⟨_,rfl⟩;rw [hf] at x0 x1 x2 x3 x4 x5 HS HT hdk HAT
   simp only at x0 x1 x2 x3 x4 x5 HT hdk
   have HO:Hid (wr.ownsRow w.heap.size 107 6 (.slice (some ⟨w.heap.size,0,none⟩) az.length az.length) az.length (Ah (Du az k))):=ho;have HA:Hid _:=Wu az k hlt;have HBR:Hid (BW w wr):=hbr;have hws:w.heap.size<wr.heap.size:=(ho.lt _ rfl).2;clear hf ho hbr;go_upto_region 5 with fail
   clear x0 x1 x2 x3 x4 x5;obtain ⟨W,hW⟩:∃ W,wr.alloc (.cells #[.string ⟨r.toArray⟩,.int .i64 i,.int .i64 c,.int .i64 m,.int .i64 d,.bool u] 107)=W:=⟨_,rfl⟩;have bW:BW wr W:=hW ▸ bR.alloc nL _;have BX:Jo wr.heap.size ⟨r,i,c,m,d,u⟩ W:=hW ▸ Jo.new wr ⟨r,i,c,m,d,u⟩ _;rw [hW];clear hW;have oW:=Iw HO.o bW;have hat:=De (Du az k) k HFL.o;rw [HA.o] at hat;have HBX:Hid (Jo wr.heap.size ⟨r,i,c,m,d,u⟩ W):=BX
   have y0:W.cell? ⟨w.heap.size,k*6,none⟩=some (.string ⟨#[]⟩):=by rw [oW.cellAt (k*6) (by omega)];exact hat.1
   have z0:W.frozen? ⟨w.heap.size,k*6,none⟩=false:=oW.frozenAt _
   have y1:W.cell? ⟨w.heap.size,k*6+1,none⟩=some (.int .i64 0):=by rw [oW.cellAt (k*6+1) (by omega)];exact hat.2.1
   have z1:W.frozen? ⟨w.heap.size,k*6+1,none⟩=false:=oW.frozenAt _
   have y2:W.cell? ⟨w.heap.size,k*6+2,none⟩=some (.int .i64 0):=by rw [oW.cellAt (k*6+2) (by omega)];exact hat.2.2.1
   have z2:W.frozen? ⟨w.heap.size,k*6+2,none⟩=false:=oW.frozenAt _
   have y3:W.cell? ⟨w.heap.size,k*6+3,none⟩=some (.int .i64 0):=by rw [oW.cellAt (k*6+3) (by omega)];exact hat.2.2.2.1
   have z3:W.frozen? ⟨w.heap.size,k*6+3,none⟩=false:=oW.frozenAt _
   have y4:W.cell? ⟨w.heap.size,k*6+4,none⟩=some (.int .i64 0):=by rw [oW.cellAt (k*6+4) (by omega)];exact hat.2.2.2.2.1
   have z4:W.frozen? ⟨w.heap.size,k*6+4,none⟩=false:=oW.frozenAt _
   have y5:W.cell? ⟨w.heap.size,k*6+5,none⟩=some (.bool false):=by rw [oW.cellAt (k*6+5) (by omega)];exact hat.2.2.2.2.2
   have z5:W.frozen? ⟨w.heap.size,k*6+5,none⟩=false:=oW.frozenAt _
   have HR:Hid ((((((((W.setCell ⟨w.heap.size,k*6,none⟩ (.string ⟨r.toArray⟩)).setCell ⟨w.heap.size,k*6+1,none⟩ (.int .i64 i)).setCell ⟨w.heap.size,k*6+2,none⟩ (.int .i64 c)).setCell ⟨w.heap.size,k*6+3,none⟩ (.int .i64 m)).setCell ⟨w.heap.size,k*6+4,none⟩ (.int .i64 d)).setCell ⟨w.heap.size,k*6+5,none⟩ (.bool u))).ownsRow w.heap.size 107 6 (.slice (some ⟨w.heap.size,0,none⟩) az.length az.length) az.length (Ah (Du az (k+1)))):=by
    have R:=(((((((oW.stored (k*6) (.string ⟨r.toArray⟩)).1.stored (k*6+1) (.int .i64 i)).1.stored (k*6+2) (.int .i64 c)).1.stored (k*6+3) (.int .i64 m)).1.stored (k*6+4) (.int .i64 d)).1.stored (k*6+5) (.bool u))).1;rw [HT.o,HS.o] at R;exact R
   have HBW:Hid (Below w.heap.size w (((((((W.setCell ⟨w.heap.size,k*6,none⟩ (.string ⟨r.toArray⟩)).setCell ⟨w.heap.size,k*6+1,none⟩ (.int .i64 i)).setCell ⟨w.heap.size,k*6+2,none⟩ (.int .i64 c)).setCell ⟨w.heap.size,k*6+3,none⟩ (.int .i64 m)).setCell ⟨w.heap.size,k*6+4,none⟩ (.int .i64 d)).setCell ⟨w.heap.size,k*6+5,none⟩ (.bool u)))):=(((((((HBR.o.trans (bW.mono HBR.o.size)).setCell nL _).setCell nL _).setCell nL _).setCell nL _).setCell nL _).setCell nL _)
   have HBOX:Hid ((((((((W.setCell ⟨w.heap.size,k*6,none⟩ (.string ⟨r.toArray⟩)).setCell ⟨w.heap.size,k*6+1,none⟩ (.int .i64 i)).setCell ⟨w.heap.size,k*6+2,none⟩ (.int .i64 c)).setCell ⟨w.heap.size,k*6+3,none⟩ (.int .i64 m)).setCell ⟨w.heap.size,k*6+4,none⟩ (.int .i64 d)).setCell ⟨w.heap.size,k*6+5,none⟩ (.bool u))).cell? ⟨wr.heap.size,0,none⟩=some (.string ⟨r.toArray⟩)):=(World.grownBy.cell_far (row:=some w.heap.size) (((((((oW.stored (k*6) (.string ⟨r.toArray⟩)).2).trans ((oW.stored (k*6) (.string ⟨r.toArray⟩)).1.stored (k*6+1) (.int .i64 i)).2).trans (((oW.stored (k*6) (.string ⟨r.toArray⟩)).1.stored (k*6+1) (.int .i64 i)).1.stored (k*6+2) (.int .i64 c)).2).trans ((((oW.stored (k*6) (.string ⟨r.toArray⟩)).1.stored (k*6+1) (.int .i64 i)).1.stored (k*6+2) (.int .i64 c)).1.stored (k*6+3) (.int .i64 m)).2).trans (((((oW.stored (k*6) (.string ⟨r.toArray⟩)).1.stored (k*6+1) (.int .i64 i)).1.stored (k*6+2) (.int .i64 c)).1.stored (k*6+3) (.int .i64 m)).1.stored (k*6+4) (.int .i64 d)).2).trans ((((((oW.stored (k*6) (.string ⟨r.toArray⟩)).1.stored (k*6+1) (.int .i64 i)).1.stored (k*6+2) (.int .i64 c)).1.stored (k*6+3) (.int .i64 m)).1.stored (k*6+4) (.int .i64 d)).1.stored (k*6+5) (.bool u)).2) ⟨wr.heap.size,0,none⟩ BX.lt (by simp;omega)).trans BX.c0
   obtain ⟨q0,q1,q2,q3,q4,q5⟩:=BX
   simp only at q0 q1 q2 q3 q4 q5
   clear oW hat bW HO HA HS HT;go_upto_region 6 with fail
   clear q0 q1 q2 q3 q4 q5 y0 z0 y1 z1 y2 z2 y3 z3 y4 z4 y5 z5;obtain ⟨V,hV⟩:∃ V,(((((((W.setCell ⟨w.heap.size,k*6,none⟩ (.string ⟨r.toArray⟩)).setCell ⟨w.heap.size,k*6+1,none⟩ (.int .i64 i)).setCell ⟨w.heap.size,k*6+2,none⟩ (.int .i64 c)).setCell ⟨w.heap.size,k*6+3,none⟩ (.int .i64 m)).setCell ⟨w.heap.size,k*6+4,none⟩ (.int .i64 d)).setCell ⟨w.heap.size,k*6+5,none⟩ (.bool u)))=V:=⟨_,rfl⟩;rw [hV] at HR HBW HBOX ⊢;clear hV;have v0:=HBOX.o;have lb:wr.heap.size<V.heap.size:=World.block_lt_of_cell? V _ v0;go_wp2_with fail
   refine (Sm r _ hdk).mono ?_;rintro e w2 ⟨rfl,b2⟩;have o2:=Iw HR.o b2;have hat:=De (Du az (k+1)) k HFL2.o;rw [HAT.o] at hat
   have t0:w2.cell? ⟨w.heap.size,k*6,none⟩=some (.string ⟨r.toArray⟩):=by rw [o2.cellAt (k*6) (by omega)];exact hat.1
   have t1:w2.frozen? ⟨w.heap.size,k*6,none⟩=false:=o2.frozenAt _
   have HR2:Hid ((w2.setCell ⟨w.heap.size,k*6,none⟩ (.string ⟨r.toArray⟩)).ownsRow w.heap.size 107 6 (.slice (some ⟨w.heap.size,0,none⟩) az.length az.length) az.length (Ah (Du az (k+1)))):=by
    have R:=(o2.stored (k*6) (.string ⟨r.toArray⟩)).1;rw [G9 hat.1] at R;exact R
   have HB2:Hid (Below w.heap.size w (w2.setCell ⟨w.heap.size,k*6,none⟩ (.string ⟨r.toArray⟩))):=(HBW.o.trans (b2.mono HBW.o.size)).setCell nL _;clear o2 hat b2 HR HBW v0 HBOX HBX HAT;go_wp2
   go_roundw
   case rel=>exact ⟨k+1,by omega,by go_num,HR2.o,HB2.o⟩
   case measure=>simp [intOf];omega
  ·have hke:k=az.length:=by omega
   subst hke;rw [Sv] at ho;have HO:Hid _:=ho;clear ho;go_wp2;go_ret;exact ⟨rfl,HO.o,hbr⟩
def Gl (l:List UInt8) (a:Au):Bool:=a.ref == l
def addOk (az:List Au) (a:Au):Bool:=Gy a && (!az.any (Gl a.ref) && decide (az.length<100))
def Hp (az:List Au) (a:Au):List Au:=if addOk az a=true then az++[a] else az
theorem cZ {az:List Au} {a:Au} (h:addOk az a=false):Hp az a=az:=by rw [Hp,if_neg (by rw [h];decide)]
theorem Nk {az:List Au} {a:Au} (h:addOk az a=true):Hp az a=az++[a]:=by rw [Hp,if_pos h]
theorem jO (az:List Au) (a:Au):(Hp az a).length≤az.length+1:=by unfold Hp;split <;> simp
theorem Wr (p:Au→Bool) (az:List Au) (k:Nat) (h:k<az.length):(az.drop k).any p=(p (Ak az k) || (az.drop (k+1)).any p):=by
 rw [List.drop_eq_getElem_cons h,Gw h,List.any_cons]
theorem bP {w:World} {g:Nat} {a:Au} (h:Jo g a w):Ar w (some ⟨g,0,none⟩) [a] :=
 .inr ⟨g,0,rfl,h.lt,fun i hi=>by
  obtain rfl:i=0:=by simpa using hi
  exact ⟨h.c0,h.c1,h.c2,h.c3,h.c4,h.c5⟩⟩
theorem fA (a:Au) (l:List UInt8) (g:Nat) (w:World) (hc:w.cell? ⟨g,0,none⟩=some (.string ⟨l.toArray⟩)) :
  Calls prog 278 #[Fe a,.pointer (some ⟨g,0,none⟩)] w fun e w'=>e=.returned (.bool (Gl l a))∧BW w w':=by
 have hg:g<w.heap.size:=World.block_lt_of_cell? w _ hc;obtain ⟨r,i,c,m,d,u⟩:=a;have HQ:Hid (Gl l ⟨r,i,c,m,d,u⟩=(r == l)):=rfl
 simp only [Fe]
 have hc2:(w.alloc (.cells #[.string ⟨r.toArray⟩,.int .i64 i,.int .i64 c,.int .i64 m,.int .i64 d,.bool u] 107)).cell? ⟨g,0,none⟩=some (.string ⟨l.toArray⟩):=by rw [World.cell?_alloc_lt _ _ _ hg];exact hc
 go_enter func278,ntmps278
 go_wp2;go_ret;exact ⟨Aa HQ.o.symm,bR.alloc nL _⟩
theorem iA (ao:Option Addr) (cap:Nat) (az:List Au) (l:List UInt8) (g:Nat) (w:World) (hz:Ar w ao az) (hn:az.length≤4194304) (hc:w.cell? ⟨g,0,none⟩=some (.string ⟨l.toArray⟩)) :
  Calls prog 309 #[.slice ao az.length cap,.func (.func 278) #[] #[.pointer (some ⟨g,0,none⟩)]] w fun e w'=>∃ x:Int,e=.returned (.int .i64 x)∧decide (0≤x)=az.any (Gl l)∧BW w w':=by
 have hg:g<w.heap.size:=World.block_lt_of_cell? w _ hc
 rcases hz with rfl | ⟨b,off,rfl,hb,hcell⟩
 ·go_enter func309,ntmps309
  go_wp2;refine wp_loop_rounds 1 ?_;rw [rounds_succ];go_wp2;go_ret
  exact ⟨_,rfl,by simp,bR⟩
 have HC:Hid (∀ i,i<az.length→w.cell? ⟨b,off+i*6,none⟩=some (.string ⟨(Ak az i).ref.toArray⟩)∧w.cell? ⟨b,off+i*6+1,none⟩=some (.int .i64 (Ak az i).iss)∧w.cell? ⟨b,off+i*6+2,none⟩=some (.int .i64 (Ak az i).cur)∧w.cell? ⟨b,off+i*6+3,none⟩=some (.int .i64 (Ak az i).am)∧w.cell? ⟨b,off+i*6+4,none⟩=some (.int .i64 (Ak az i).day)∧w.cell? ⟨b,off+i*6+5,none⟩=some (.bool (Ak az i).used)):=hcell;have HG:Hid _:=hc;clear hcell hc
 go_enter func309,ntmps309
 go_wp2
 go_loopw [5,8] (fun _ i wr=>∃ k:Nat,k≤az.length∧i=.int .i64 k∧az.any (Gl l)=(az.drop k).any (Gl l)∧BW w wr) (fun _ i _=>az.length - (intOf i).toNat)
 case atStart=>exact ⟨0,Nat.zero_le _,rfl,rfl,bR⟩
 case round =>
  obtain ⟨k,hk,rfl,hany,hbr⟩:=hrel
  by_cases hlt:k<az.length
  ·have x0:wr.cell? ⟨b,off+k*6,none⟩=some (.string ⟨(Ak az k).ref.toArray⟩):=(hbr.cell (p:=⟨b,off+k*6,none⟩) hb).trans (HC.o k hlt).1
   have x1:wr.cell? ⟨b,off+k*6+1,none⟩=some (.int .i64 (Ak az k).iss):=(hbr.cell (p:=⟨b,off+k*6+1,none⟩) hb).trans (HC.o k hlt).2.1;have x2:wr.cell? ⟨b,off+k*6+2,none⟩=some (.int .i64 (Ak az k).cur):=(hbr.cell (p:=⟨b,off+k*6+2,none⟩) hb).trans (HC.o k hlt).2.2.1;have x3:wr.cell? ⟨b,off+k*6+3,none⟩=some (.int .i64 (Ak az k).am):=(hbr.cell (p:=⟨b,off+k*6+3,none⟩) hb).trans (HC.o k hlt).2.2.2.1;have x4:wr.cell? ⟨b,off+k*6+4,none⟩=some (.int .i64 (Ak az k).day):=(hbr.cell (p:=⟨b,off+k*6+4,none⟩) hb).trans (HC.o k hlt).2.2.2.2.1;have x5:wr.cell? ⟨b,off+k*6+5,none⟩=some (.bool (Ak az k).used):=(hbr.cell (p:=⟨b,off+k*6+5,none⟩) hb).trans (HC.o k hlt).2.2.2.2.2
   have hki:(k:Int)<(az.length:Int):=by omega
   have HST:Hid _:=hany.trans (Wr (Gl l) az k hlt);have hgr:=(hbr.cell (p:=⟨g,0,none⟩) hg).trans HG.o
   have HCL:Hid (Calls prog 278 #[Fe (Ak az k),.pointer (some ⟨g,0,none⟩)] wr fun e w'=>e=.returned (.bool (Gl l (Ak az k)))∧BW wr w'):=fA _ l g wr hgr
   obtain ⟨q,hq⟩:∃ q,Gl l (Ak az k)=q:=⟨_,rfl⟩;rw [hq] at HST HCL;obtain ⟨⟨r,i,c,m,d,u⟩,hf⟩:∃ a,Ak az k=a:=⟨_,rfl⟩;rw [hf] at x0 x1 x2 x3 x4 x5 HCL;unfold Fe at HCL
   simp only at x0 x1 x2 x3 x4 x5 HCL
   have HB:Hid (BW w wr):=hbr;clear hf hany hgr hq hbr;go_wp2_with fail
   refine (HCL.o).mono ?_;rintro e w2 ⟨rfl,b2⟩;have HB2:Hid (BW w w2):=HB.o.trans (b2.mono HB.o.size);clear b2 x0 x1 x2 x3 x4 x5
   cases q
   ·go_wp2
    go_roundw
    case rel=>exact ⟨k+1,by omega,by go_num,by rw [HST.o];rfl,HB2.o⟩
    case measure=>simp [intOf];omega
   ·go_wp2
    go_ret
    exact ⟨(k:Int),rfl,by rw [HST.o,decide_eq_true (show (0:Int)≤(k:Int) by omega)];rfl,HB2.o⟩
  ·have HE:Hid (az.any (Gl l)=false):=by rw [Hid,hany,List.drop_of_length_le (by omega)];rfl
   go_wp2;go_ret
   exact ⟨_,rfl,by rw [HE.o];rfl,hbr⟩
theorem Zj (ao:Option Addr) (cap:Nat) (az:List Au) (l:List UInt8) (w:World) (hz:Ar w ao az) (hn:az.length≤4194304) :
  Calls prog 249 #[.slice ao az.length cap,.string ⟨l.toArray⟩] w fun e w'=>e=.returned (.bool (az.any (Gl l)))∧BW w w':=by
 have bA:∀ t,Below w.heap.size w (w.alloc (.cells #[.string ⟨l.toArray⟩] t)):=fun t=>bR.alloc nL _
 have HC:Hid (∀ t,Calls prog 277 #[.slice ao az.length cap,.func (.func 278) #[] #[.pointer (some ⟨w.heap.size,0,none⟩)]] (w.alloc (.cells #[.string ⟨l.toArray⟩] t)) fun e w'=>e=.returned (.bool (az.any (Gl l)))∧BW w w'):=fun t=>by
  have hzA:=hz.below (bA t)
  have hcc:(w.alloc (.cells #[.string ⟨l.toArray⟩] t)).cell? ⟨w.heap.size,0,none⟩=some (.string ⟨l.toArray⟩):=by simp
  have HIX:Hid (Calls prog 309 #[.slice ao az.length cap,.func (.func 278) #[] #[.pointer (some ⟨w.heap.size,0,none⟩)]] (w.alloc (.cells #[.string ⟨l.toArray⟩] t)) fun e w'=>∃ x:Int,e=.returned (.int .i64 x)∧decide (0≤x)=az.any (Gl l)∧Below (w.alloc (.cells #[.string ⟨l.toArray⟩] t)).heap.size (w.alloc (.cells #[.string ⟨l.toArray⟩] t)) w'):=iA ao cap az l w.heap.size _ hzA hn hcc
  have HB0:Hid (Below w.heap.size w (w.alloc (.cells #[.string ⟨l.toArray⟩] t))):=bA t
  generalize w.alloc (.cells #[.string ⟨l.toArray⟩] t)=W at HIX HB0
  clear hzA hcc bA
  go_enter func277,ntmps277
  go_wp2_with fail
  refine Calls.mono HIX.o ?_;rintro e w2 ⟨x,rfl,hx,b2⟩;have HX:Hid _:=hx;have HB2:Hid (BW w w2):=HB0.o.trans (b2.mono HB0.o.size);clear hx b2;go_wp2;go_ret;exact ⟨Aa HX.o,HB2.o⟩
 clear bA hz
 go_enter func249,ntmps249
 go_wp2_with fail
 refine (HC.o _).mono ?_;rintro e w2 ⟨rfl,b2⟩;have HB2:Hid _:=b2;clear b2;go_wp2;go_ret;exact ⟨rfl,HB2.o⟩
def Zb (w:World) (g:Nat) (a1:Option Addr) (c1:Nat) (a2:Option Addr) (c2:Nat) (xs ys:List Au):Prop :=
 w.cell? ⟨g,0,none⟩=some (.slice a1 xs.length c1)∧w.cell? ⟨g,1,none⟩=some (.slice a2 ys.length c2)∧Ar w a1 xs∧Ar w a2 ys
theorem Zb.below {w w':World} {g:Nat} {a1 a2:Option Addr} {c1 c2:Nat} {xs ys:List Au} (h:Zb w g a1 c1 a2 c2 xs ys) (hb:BW w w'):Zb w' g a1 c1 a2 c2 xs ys:=by
 obtain ⟨h1,h2,h3,h4⟩:=h;have hg:g<w.heap.size:=World.block_lt_of_cell? w _ h1;exact ⟨(hb.cell (p:=⟨g,0,none⟩) hg).trans h1,(hb.cell (p:=⟨g,1,none⟩) hg).trans h2,h3.below hb,h4.below hb⟩
theorem hI (g:Nat) (a1 a2:Option Addr) (c1 c2:Nat) (xs ys:List Au) (w:World) (h:Zb w g a1 c1 a2 c2 xs ys) (hx:xs.length≤1048576) (hy:ys.length≤1048576) :
  Calls prog 250 #[.slice (some ⟨g,0,none⟩) 2 2] w fun e w'=>∃ v,e=.returned v ∧
   w'.ownsRow w.heap.size 107 6 v (xs.length+ys.length) (Ah (xs++ys))∧BW w w':=by
 have HT:Hid (Zb w g a1 c1 a2 c2 xs ys):=h;obtain ⟨e1,e2,f1,f2⟩:=h;have HF1:Hid _:=f1;clear f1 f2
 go_enter func250,ntmps250
 go_wp2;refine wp_loop_rounds 3 ?_;rw [rounds_succ]
 go_wp2_with (at_builtin;refine Bu _ rfl (.tmp 12) (.tmp 13) rfl w.heap.size _ 0 [] rfl (World.ownsRow_nil _ _ _ _) a1 c1 xs rfl HF1.o (by omega) nL ?_;intro v2 w2 o2 g2 _)
 have q2:BW w w2:=bR.grown g2 nL (fun k hk=>by cases hk)
 obtain ⟨_,d2,f1,f2⟩:=HT.o.below q2;have HF2:Hid _:=f2;have HO2:Hid (w2.ownsRow w.heap.size 107 6 v2 (0+xs.length) ([]++Ah xs)):=o2;have hs2:=q2.size;clear e1 e2 f1 f2 o2 g2 HF1;go_wp2;rw [rounds_succ]
 go_wp2_with (at_builtin;refine Bu _ rfl (.tmp 12) (.tmp 13) rfl w.heap.size _ _ _ rfl HO2.o a2 c2 ys rfl HF2.o (by omega) hs2 ?_;intro v3 w3 o3 g3 _)
 have q3:BW w w3:=q2.grown g3 hs2 (fun k hk=>(HO2.o.lt k hk).1)
 have HO3:Hid (w3.ownsRow w.heap.size 107 6 v3 (xs.length+ys.length) (Ah (xs++ys))):=by
  rw [F9];rw [Nat.zero_add,List.nil_append] at o3;exact o3
 clear d2 o3 g3 HO2 hs2 HF2;go_wp2;rw [rounds_succ];go_wp2;go_ret;exact ⟨v3,rfl,HO3.o,q3⟩
theorem aI (ao:Option Addr) (cap:Nat) (az:List Au) (a:Au) (w:World) (hz:Ar w ao az) (hn:az.length≤1048576) (hd:∀ x ∈ az,x.ref.length≤1099511627776) (hl:a.ref.length≤1099511627776) (hc:Bf a.cur) :
  Calls prog 208 #[.slice ao az.length cap,Fe a] w (Pi w (Hp az a) (addOk az a)):=by
 have HV:Hid (addOk az a=(Gy a && (!az.any (Gl a.ref) && decide (az.length<100)))):=rfl;have HN:Hid (addOk az a=false→Hp az a=az):=cZ;have HY:Hid (addOk az a=true→Hp az a=az++[a]):=Nk;have HZ:Hid (Ar w ao az):=hz;clear hz;obtain ⟨q,hq⟩:∃ q,Gy a=q:=⟨_,rfl⟩
 have HO:Hid (∀ u,Calls prog 248 #[Fe a] u fun e w'=>e=.returned (.bool q)∧BW u w'):=fun u=>by rw [← hq];exact Oi a u hl hc
 obtain ⟨h,hh⟩:∃ h,az.any (Gl a.ref)=h:=⟨_,rfl⟩
 have HH:Hid (∀ u,Ar u ao az→Calls prog 249 #[.slice ao az.length cap,.string ⟨a.ref.toArray⟩] u fun e w'=>e=.returned (.bool h)∧BW u w'):=fun u hu=>by rw [← hh];exact Zj ao cap az a.ref u hu (by omega)
 have HCP:Hid (∀ u,Ar u ao az→Calls prog 110 #[.slice ao az.length cap] u fun e w'=>e=.returned (.slice (some ⟨u.heap.size,0,none⟩) az.length az.length) ∧
   w'.ownsRow u.heap.size 107 6 (.slice (some ⟨u.heap.size,0,none⟩) az.length az.length) az.length (Ah az)∧BW u w'):=fun u hu=>Dj ao cap az u hu (by omega) hd
 have HCN:Hid (∀ (u:World) (bo:Option Addr) (cb:Nat),Ar u bo (az++[a])→Calls prog 110 #[.slice bo (az++[a]).length cb] u fun e w'=>e=.returned (.slice (some ⟨u.heap.size,0,none⟩) (az++[a]).length (az++[a]).length) ∧
   w'.ownsRow u.heap.size 107 6 (.slice (some ⟨u.heap.size,0,none⟩) (az++[a]).length (az++[a]).length) (az++[a]).length (Ah (az++[a]))∧BW u w'):=fun u bo cb hu=>Dj bo cb (az++[a]) u hu (by simp;omega) (fun x hx=>by
    rcases List.mem_append.1 hx with h1 | h1
    ·exact hd x h1
    ·have:x=a:=by simpa using h1
     rw [this];exact hl)
 obtain ⟨W,hW⟩:∃ W,W=w.alloc (.cells #[.string ⟨a.ref.toArray⟩,.int .i64 a.iss,.int .i64 a.cur,.int .i64 a.am,.int .i64 a.day,.bool a.used] 107):=⟨_,rfl⟩
 have B:Jo w.heap.size a W:=by rw [hW];exact Jo.new w a _
 have HBB:Hid (Jo w.heap.size a W):=B
 have bW:BW w W:=by rw [hW];exact bR.alloc nL _
 have HBW:Hid (BW w W):=bW;rw [hq,hh] at HV;clear bW hd hl hc hq hh
 cases q
 ·have HQ:Hid (addOk az a=false):=HV.o
  have HL:Hid (Hp az a=az):=HN.o HQ.o;rw [HQ.o,HL.o];clear HV HN HY HQ HL HCN HH;obtain ⟨r,i,c,m,d,u⟩:=a;unfold Fe at HO ⊢
  simp only at hW HO ⊢
  have HW:Hid _:=hW;obtain ⟨f0,f1,f2,f3,f4,f5⟩:=B;clear hW
  go_enter func208,ntmps208
  go_upto_region 1 with fail
  rw [← HW.o];go_wp2_with fail
  refine (HO.o _).mono ?_;rintro e u1 ⟨rfl,b1⟩;have HB1:Hid (BW w u1):=next HBW.o b1;clear b1 f0 f1 f2 f3 f4 f5;go_wp2_with fail
  refine (HCP.o _ (HZ.o.below HB1.o)).mono ?_;rintro e u2 ⟨rfl,o2,b2⟩;have HO2:Hid _:=Ri o2 HB1.o.size;have HB2:Hid (BW w u2):=next HB1.o b2;clear o2 b2;go_wp2;go_ret2;exact ⟨_,_,rfl,HO2.o,HB2.o⟩
 cases h
 ·by_cases h100:az.length<100
  ·have HQ:Hid (addOk az a=true):=by rw [Hid,HV.o,decide_eq_true h100];rfl
   have HL:Hid (Hp az a=az++[a]):=HY.o HQ.o;rw [HQ.o,HL.o]
   have h100':(az.length:Int)<100:=by omega
   have HXL:Hid ((az++[a]).length=az.length+1):=by rw [Hid];simp
   have HJ:Hid (∀ (u:World) (g:Nat) (a2:Option Addr) (c2:Nat),Zb u g ao cap a2 c2 az [a]→Calls prog 250 #[.slice (some ⟨g,0,none⟩) 2 2] u fun e w'=>∃ bo cb,e=.returned (.slice bo (az++[a]).length cb)∧Ar w' bo (az++[a])∧BW u w'):=fun u g a2 c2 h2 =>
    (hI g ao a2 cap c2 az [a] u h2 (by omega) (by simp)).mono fun e u' ⟨v,he,hv,hb⟩=>by
     obtain ⟨bo,cb,rfl,hA,_⟩:=Lo hv;exact ⟨bo,cb,he,hA,hb⟩
   clear HV HN HY HQ HL HCP;obtain ⟨L,hL⟩:∃ L,az++[a]=L:=⟨_,rfl⟩;rw [hL] at HCN HJ HXL ⊢
   have HTW:Hid (∀ (u:World) (t1 t2:TypeId),Ar u ao az→Zb ((u.alloc (.cells #[.string ⟨a.ref.toArray⟩,.int .i64 a.iss,.int .i64 a.cur,.int .i64 a.am,.int .i64 a.day,.bool a.used] t1)).alloc (.cells #[.slice ao az.length cap,.slice (some ⟨u.heap.size,0,none⟩) 1 1] t2)) (u.heap.size+1) ao cap (some ⟨u.heap.size,0,none⟩) 1 az [a]∧Below u.heap.size u ((u.alloc (.cells #[.string ⟨a.ref.toArray⟩,.int .i64 a.iss,.int .i64 a.cur,.int .i64 a.am,.int .i64 a.day,.bool a.used] t1)).alloc (.cells #[.slice ao az.length cap,.slice (some ⟨u.heap.size,0,none⟩) 1 1] t2))):=fun u t1 t2 hu=>by
    have b1:Below u.heap.size u (u.alloc (.cells #[.string ⟨a.ref.toArray⟩,.int .i64 a.iss,.int .i64 a.cur,.int .i64 a.am,.int .i64 a.day,.bool a.used] t1)):=bR.alloc nL _;have B1:=Jo.new u a t1;have z1:=hu.below b1
    have hsz:(u.alloc (.cells #[.string ⟨a.ref.toArray⟩,.int .i64 a.iss,.int .i64 a.cur,.int .i64 a.am,.int .i64 a.day,.bool a.used] t1)).heap.size=u.heap.size+1:=by simp
    generalize u.alloc (.cells #[.string ⟨a.ref.toArray⟩,.int .i64 a.iss,.int .i64 a.cur,.int .i64 a.am,.int .i64 a.day,.bool a.used] t1)=V at b1 B1 z1 hsz
    have b2:Below V.heap.size V (V.alloc (.cells #[.slice ao az.length cap,.slice (some ⟨u.heap.size,0,none⟩) 1 1] t2)):=bR.alloc nL _
    have k1:(V.alloc (.cells #[.slice ao az.length cap,.slice (some ⟨u.heap.size,0,none⟩) 1 1] t2)).cell? ⟨V.heap.size,0,none⟩=some (.slice ao az.length cap):=by simp
    have k2:(V.alloc (.cells #[.slice ao az.length cap,.slice (some ⟨u.heap.size,0,none⟩) 1 1] t2)).cell? ⟨V.heap.size,1,none⟩=some (.slice (some ⟨u.heap.size,0,none⟩) 1 1):=by simp
    rw [hsz] at k1 k2;exact ⟨⟨k1,k2,z1.below b2,bP (B1.below b2)⟩,next b1 b2⟩
   clear hL;obtain ⟨r,i,c,m,d,u⟩:=a;unfold Fe at HO ⊢
   simp only at hW HO HH HTW ⊢
   have HW:Hid _:=hW;obtain ⟨f0,f1,f2,f3,f4,f5⟩:=B;clear hW
   go_enter func208,ntmps208
   go_upto_region 1 with fail
   rw [← HW.o];go_wp2_with fail
   refine (HO.o _).mono ?_;rintro e u1 ⟨rfl,b1⟩;have HB1:Hid (BW w u1):=next HBW.o b1;have B1:=HBB.o.below b1;have HBB1:Hid (Jo w.heap.size ⟨r,i,c,m,d,u⟩ u1):=B1;clear b1 f0 f1 f2 f3 f4 f5;obtain ⟨f0,f1,f2,f3,f4,f5⟩:=B1
   simp only at f0 f1 f2 f3 f4 f5
   go_wp2_with fail
   refine (HH.o _ (HZ.o.below HB1.o)).mono ?_;rintro e u2 ⟨rfl,b2⟩;have HB2:Hid (BW w u2):=next HB1.o b2;have B2:=HBB1.o.below b2;clear b2 f0 f1 f2 f3 f4 f5;obtain ⟨f0,f1,f2,f3,f4,f5⟩:=B2
   simp only at f0 f1 f2 f3 f4 f5
   go_wp2_with fail
   refine (HJ.o _ _ _ _ (HTW.o u2 _ _ (HZ.o.below HB2.o)).1).mono ?_;rintro e u3 ⟨bo,cb,rfl,hA3,b3⟩;have HB3:Hid (BW w u3):=next (next HB2.o (HTW.o u2 _ _ (HZ.o.below HB2.o)).2) b3;have HA3:Hid (Ar u3 bo L):=hA3;clear hA3 b3 f0 f1 f2 f3 f4 f5;go_wp2_with fail
   refine (HCN.o _ _ _ HA3.o).mono ?_;rintro e u4 ⟨rfl,o4,b4⟩;have HO4:Hid _:=Ri o4 HB3.o.size;have HB4:Hid (BW w u4):=next HB3.o b4;clear o4 b4;go_wp2;go_ret2;exact ⟨_,_,rfl,HO4.o,HB4.o⟩
  ·have HQ:Hid (addOk az a=false):=by rw [Hid,HV.o,decide_eq_false h100];rfl
   have HL:Hid (Hp az a=az):=HN.o HQ.o;rw [HQ.o,HL.o]
   have h100':100≤(az.length:Int):=by omega
   clear HV HN HY HQ HL HCN;obtain ⟨r,i,c,m,d,u⟩:=a;unfold Fe at HO ⊢
   simp only at hW HO HH ⊢
   have HW:Hid _:=hW;obtain ⟨f0,f1,f2,f3,f4,f5⟩:=B;clear hW
   go_enter func208,ntmps208
   go_upto_region 1 with fail
   rw [← HW.o];go_wp2_with fail
   refine (HO.o _).mono ?_;rintro e u1 ⟨rfl,b1⟩;have HB1:Hid (BW w u1):=next HBW.o b1;have B1:=HBB.o.below b1;clear b1 f0 f1 f2 f3 f4 f5;obtain ⟨f0,f1,f2,f3,f4,f5⟩:=B1
   simp only at f0 f1 f2 f3 f4 f5
   go_wp2_with fail
   refine (HH.o _ (HZ.o.below HB1.o)).mono ?_;rintro e u2 ⟨rfl,b2⟩;have HB2:Hid (BW w u2):=next HB1.o b2;clear b2 f0 f1 f2 f3 f4 f5;go_wp2_with fail
   refine (HCP.o _ (HZ.o.below HB2.o)).mono ?_;rintro e u3 ⟨rfl,o3,b3⟩;have HO3:Hid _:=Ri o3 HB2.o.size;have HB3:Hid (BW w u3):=next HB2.o b3;clear o3 b3;go_wp2;go_ret2;exact ⟨_,_,rfl,HO3.o,HB3.o⟩
 ·have HQ:Hid (addOk az a=false):=by rw [Hid,HV.o];rfl
  have HL:Hid (Hp az a=az):=HN.o HQ.o;rw [HQ.o,HL.o];clear HV HN HY HQ HL HCN;obtain ⟨r,i,c,m,d,u⟩:=a;unfold Fe at HO ⊢
  simp only at hW HO HH ⊢
  have HW:Hid _:=hW;obtain ⟨f0,f1,f2,f3,f4,f5⟩:=B;clear hW
  go_enter func208,ntmps208
  go_upto_region 1 with fail
  rw [← HW.o];go_wp2_with fail
  refine (HO.o _).mono ?_;rintro e u1 ⟨rfl,b1⟩;have HB1:Hid (BW w u1):=next HBW.o b1;have B1:=HBB.o.below b1;clear b1 f0 f1 f2 f3 f4 f5;obtain ⟨f0,f1,f2,f3,f4,f5⟩:=B1
  simp only at f0 f1 f2 f3 f4 f5
  go_wp2_with fail
  refine (HH.o _ (HZ.o.below HB1.o)).mono ?_;rintro e u2 ⟨rfl,b2⟩;have HB2:Hid (BW w u2):=next HB1.o b2;clear b2 f0 f1 f2 f3 f4 f5;go_wp2_with fail
  refine (HCP.o _ (HZ.o.below HB2.o)).mono ?_;rintro e u3 ⟨rfl,o3,b3⟩;have HO3:Hid _:=Ri o3 HB2.o.size;have HB3:Hid (BW w u3):=next HB2.o b3;clear o3 b3;go_wp2;go_ret2;exact ⟨_,_,rfl,HO3.o,HB3.o⟩
theorem Yb (ao:Option Addr) (cap:Nat) (az:List Au) (a:Au) (w:World) (hz:Ar w ao az) (hn:az.length≤1048576) (hl:a.ref.length≤1099511627776) :
  Calls prog 143 #[.slice ao az.length cap,Fe a] w (Pi w (Hp az a) (addOk az a)):=by
 have HV:Hid (addOk az a=(Gy a && (!az.any (Gl a.ref) && decide (az.length<100)))):=rfl;have HN:Hid (addOk az a=false→Hp az a=az):=cZ;have HY:Hid (addOk az a=true→Hp az a=az++[a]):=Nk;have HZ:Hid (Ar w ao az):=hz;obtain ⟨q,hq⟩:∃ q,Gy a=q:=⟨_,rfl⟩
 have HO:Hid (∀ u,Calls prog 179 #[Fe a] u fun e w'=>e=.returned (.bool q)∧BW u w'):=fun u=>by rw [← hq];exact Pe a u hl
 obtain ⟨W,hW⟩:∃ W,W=w.alloc (.cells #[.string ⟨a.ref.toArray⟩,.int .i64 a.iss,.int .i64 a.cur,.int .i64 a.am,.int .i64 a.day,.bool a.used] 107):=⟨_,rfl⟩
 have B:Jo w.heap.size a W:=by rw [hW];exact Jo.new w a _
 have HBB:Hid (Jo w.heap.size a W):=B
 have bW:BW w W:=by rw [hW];exact bR.alloc nL _
 have HBW:Hid (BW w W):=bW;have bA:Below W.heap.size W (W.alloc (.cells #[] 107)):=bR.alloc nL _;have HZ1:Hid (Ar (W.alloc (.cells #[] 107)) ao az):=(hz.below bW).below bA;have HO1:=kV W;rw [hq] at HV;obtain ⟨A,hA⟩:∃ A,a=A:=⟨_,rfl⟩;rw [hA] at HV HN HY HBB ⊢
 have HAR:Hid (A.ref=a.ref):=by rw [hA];exact rfl
 have HAA:Hid (A=⟨a.ref,a.iss,a.cur,a.am,a.day,a.used⟩):=by rw [hA];exact rfl
 have e0:Fe A=Fe a:=by rw [hA]
 rw [e0];clear bW hl hq hz e0 hA;obtain ⟨r,i,c,m,d,u⟩:=a;unfold Fe at HO ⊢
 simp only at hW HO HAR HAA ⊢
 rw [HAR.o] at HV;have HW:Hid _:=hW;clear hW B
 go_enter func143,ntmps143
 go_upto_region 1 with fail
 rw [← HW.o]
 go_upto_region 2 with (at_builtin;refine Bu _ rfl (.tmp 8) (.tmp 9) rfl W.heap.size (.slice (some ⟨W.heap.size,0,none⟩) 0 0) 0 [] rfl HO1 ao cap az rfl HZ1.o (by omega) (by simp) ?_;intro v2 w2 o2 g2 n2)
 obtain ⟨g,cc,rfl⟩:=Oe o2 (n2 (by simp))
 simp only [Nat.zero_add,List.nil_append] at o2 ⊢
 have b2:BW W w2:=bA.grown g2 (by simp) (fun j hj=>by cases hj;exact nL)
 have B2:=HBB.o.below b2;rw [HAA.o] at B2;have HB2:Hid (BW w w2):=next HBW.o b2;have HBX2:Hid (Jo w.heap.size ⟨r,i,c,m,d,u⟩ w2):=B2;have HR:Hid (w2.ownsRow w.heap.size 107 6 (.slice (some ⟨g,0,none⟩) az.length cc) az.length (Ah az)):=Ri o2 HBW.o.size;have HG:Hid (W.heap.size≤g):=(o2.lt g rfl).1;clear o2 b2 g2 n2 HO1 bA HZ1;obtain ⟨f0,f1,f2,f3,f4,f5⟩:=B2
 simp only at f0 f1 f2 f3 f4 f5
 cases q
 ·have HQ:Hid (addOk az A=false):=HV.o
  have HL:Hid (Hp az A=az):=HN.o HQ.o;clear HV HN HY HAA HAR;go_wp2_with fail
  refine (HO.o _).mono ?_;rintro e u1 ⟨rfl,b1⟩;have HB3:Hid (BW w u1):=next HB2.o b1;have HR3:Hid _:=Iw HR.o b1;clear b1 f0 f1 f2 f3 f4 f5;go_wp2;go_ret2;rw [HQ.o,HL.o];exact ⟨_,_,rfl,HR3.o,HB3.o⟩
 by_cases h100:az.length<100
 ·have h100':(az.length:Int)<100:=by omega
  have HV2:Hid (addOk az A = !az.any (Gl r)):=by rw [Hid,HV.o,decide_eq_true h100,Bool.and_true,Bool.true_and]
  clear HV;go_wp2_with fail
  refine (HO.o _).mono ?_;rintro e u1 ⟨rfl,b1⟩;have HB3:Hid (BW w u1):=next HB2.o b1;have HR3:Hid (u1.ownsRow w.heap.size 107 6 (.slice (some ⟨g,0,none⟩) az.length cc) az.length (Ah az)):=Iw HR.o b1;have HBX3:Hid (Jo w.heap.size ⟨r,i,c,m,d,u⟩ u1):=HBX2.o.below b1;have HZ3:Hid (Ar u1 ao az):=HZ.o.below HB3.o;clear b1 f0 f1 f2 f3 f4 f5 HR HBX2 HB2 HO HZ HBB;go_wp2
  go_loopw [7] (fun i wr=>∃ k:Nat,k≤az.length∧i=.int .i64 k∧az.any (Gl r)=(az.drop k).any (Gl r)∧BW u1 wr) (fun i _=>az.length - (intOf i).toNat)
  case atStart=>exact ⟨0,Nat.zero_le _,rfl,rfl,bR⟩
  case round =>
   obtain ⟨k,hk,rfl,hany,hbr⟩:=hrel;obtain ⟨f0,f1,f2,f3,f4,f5⟩:=HBX3.o.below hbr
   simp only at f0 f1 f2 f3 f4 f5
   by_cases hlt:k<az.length
   ·have hki:(k:Int)<(az.length:Int):=by omega
    have HST:Hid _:=hany.trans (Wr (Gl r) az k hlt)
    rcases HZ3.o with h0 | ⟨b,off,rfl,hb,hcell⟩
    ·rw [h0] at hlt;simp at hlt
    have x0:wr.cell? ⟨b,off+k*6,none⟩=some (.string ⟨(Ak az k).ref.toArray⟩):=(hbr.cell (p:=⟨b,off+k*6,none⟩) hb).trans (hcell k hlt).1;have HPQ:Hid (Gl r (Ak az k)=((Ak az k).ref == r)):=rfl;obtain ⟨l,hlx⟩:∃ l,(Ak az k).ref=l:=⟨_,rfl⟩;rw [hlx] at x0 HPQ;have HB4:Hid (BW u1 wr):=hbr;have HWR:Hid (BW w wr):=next HB3.o hbr;have HR4:Hid _:=Iw HR3.o hbr;clear hlx hany hcell hbr
    cases hq:(l == r)
    ·have HE:Hid (az.any (Gl r)=(az.drop (k+1)).any (Gl r)):=by rw [Hid,HST.o,HPQ.o,hq];rfl
     clear HST HPQ;go_wp2
     go_quiet (fail)
     go_wp2
     go_roundw
     case rel=>exact ⟨k+1,by omega,by go_num,HE.o,below_drewN HB4.o _⟩
     case measure=>simp [intOf];omega
    ·have HE:Hid (az.any (Gl r)=true):=by rw [Hid,HST.o,HPQ.o,hq];rfl
     have HQ:Hid (addOk az A=false):=by rw [Hid,HV2.o,HE.o];rfl
     have HL:Hid (Hp az A=az):=HN.o HQ.o;clear HST HPQ;go_wp2
     go_quiet (fail)
     go_wp2;go_ret2;rw [HQ.o,HL.o];exact ⟨_,_,rfl,Iw HR4.o (below_drewN bR _),below_drewN HWR.o _⟩
   ·have HE:Hid (az.any (Gl r)=false):=by rw [Hid,hany,List.drop_of_length_le (by omega)];rfl
    have HQ:Hid (addOk az A=true):=by rw [Hid,HV2.o,HE.o];rfl
    have HL:Hid (Hp az A=az++[⟨r,i,c,m,d,u⟩]):=by rw [Hid,HY.o HQ.o,HAA.o]
    have HWR:Hid (BW w wr):=next HB3.o hbr;have HR4:Hid (wr.ownsRow w.heap.size 107 6 (.slice (some ⟨g,0,none⟩) az.length cc) az.length (Ah az)):=Iw HR3.o hbr;have HON:Hid (Ar (wr.alloc (.cells #[.string ⟨r.toArray⟩,.int .i64 i,.int .i64 c,.int .i64 m,.int .i64 d,.bool u] 107)) (some ⟨wr.heap.size,0,none⟩) [⟨r,i,c,m,d,u⟩]):=bP (Jo.new wr ⟨r,i,c,m,d,u⟩ _);have HOA:Hid ((wr.alloc (.cells #[.string ⟨r.toArray⟩,.int .i64 i,.int .i64 c,.int .i64 m,.int .i64 d,.bool u] 107)).ownsRow w.heap.size 107 6 (.slice (some ⟨g,0,none⟩) az.length cc) az.length (Ah az)):=Iw HR4.o (bR.alloc nL _);have hwz:w.heap.size≤wr.heap.size:=HWR.o.size;clear HE hany hbr HN HY HV2
    go_wp2_with (at_builtin;refine Bu _ rfl (.tmp 35) (.tmp 37) rfl w.heap.size (.slice (some ⟨g,0,none⟩) az.length cc) az.length (Ah az) rfl HOA.o (some ⟨wr.heap.size,0,none⟩) 1 [⟨r,i,c,m,d,u⟩] rfl HON.o (by simp;omega) (by simp;omega) ?_;intro v3 w3 o3 g3 n3)
    obtain ⟨a3,c3,rfl⟩:=dI o3
    have HO3:Hid (w3.ownsRow w.heap.size 107 6 (.slice a3 (az++([⟨r,i,c,m,d,u⟩]:List Au)).length c3) (az++([⟨r,i,c,m,d,u⟩]:List Au)).length (Ah (az++[⟨r,i,c,m,d,u⟩]))):=by rw [Hid,List.length_append,F9];exact o3
    have HB5:Hid (BW w w3):=(HWR.o.alloc HWR.o.size _).grown g3 (by simp;omega) (fun j hj=>(HOA.o.lt j hj).1)
    clear o3 g3 n3 HOA HON;go_wp2;go_ret2;rw [HQ.o,HL.o]
    exact ⟨a3,c3,by rw [List.length_append];rfl,HO3.o,HB5.o⟩
 ·have h100':100≤(az.length:Int):=by omega
  have HQ:Hid (addOk az A=false):=by rw [Hid,HV.o,decide_eq_false h100,Bool.and_false];rfl
  have HL:Hid (Hp az A=az):=HN.o HQ.o;clear HV HN HY HAA HAR;go_wp2_with fail
  refine (HO.o _).mono ?_;rintro e u1 ⟨rfl,b1⟩;have HB3:Hid (BW w u1):=next HB2.o b1;have HR3:Hid _:=Iw HR.o b1;clear b1 f0 f1 f2 f3 f4 f5;go_wp2;go_ret2;rw [HQ.o,HL.o];exact ⟨_,_,rfl,HR3.o,HB3.o⟩
def C7 (f:Int) (a:Au):Bool:=!a.used && decide (f≤a.day)
def E5 (az:List Au) (t:Int):List Au:=if Dn t=true then az.filter (C7 (t - 7)) else []
theorem Yp (az:List Au) (t:Int):(E5 az t).length≤az.length:=by unfold E5;split;exact List.length_filter_le _ _;exact Nat.zero_le _
theorem Jy (f:Int) (az:List Au) (k:Nat) (h:k<az.length):(az.take (k+1)).filter (C7 f)=(az.take k).filter (C7 f)++(if C7 f (Ak az k)=true then [Ak az k] else []):=by
 rw [List.take_succ_eq_append_getElem h,List.filter_append,Gw h]
 cases hq:C7 f az[k] <;> simp [hq]
theorem Uo {base n:Nat} {t:TypeId} {g cap:Nat} (vs:List Value):∀ (o:Nat) (w:World) (xs:List Value),w.ownsRow base t 6 (.slice (some ⟨g,0,none⟩) n cap) n xs→o+vs.length≤n*6 →
  ∃ ys,(w.setCells g o vs).ownsRow base t 6 (.slice (some ⟨g,0,none⟩) n cap) n ys∧ys.take o=xs.take o∧w.grownBy (w.setCells g o vs) (some g):=by
 induction vs with
 | nil=>intro o w xs h _;exact ⟨xs,h,rfl,World.grownBy.refl _ _⟩
 | cons v r ih =>
  intro o w xs h hl;have hs:=h.stored o v
  obtain ⟨ys,h1,h2,h3⟩:=ih (o+1) _ _ hs.1 (by simp at hl;omega)
  refine ⟨ys,h1,?_,hs.2.trans h3⟩
  have e:ys.take o=(ys.take (o+1)).take o:=by rw [List.take_take,Nat.min_eq_left (Nat.le_succ o)]
  rw [e,h2,List.take_take,Nat.min_eq_left (Nat.le_succ o),List.take_set_of_le (Nat.le_refl o)]
theorem dD {w:World} {base n s:Nat} {t:TypeId} {g cap:Nat} {xs:List Value} (h:w.ownsRow base t 6 (.slice (some ⟨g,0,none⟩) n cap) n xs) (hs:s≤n):w.ownsRow base t 6 (.slice (some ⟨g,0,none⟩) s cap) s (xs.take (s*6)):=by
 obtain ⟨h1,h2⟩:=h
 rcases h2 with ⟨hv,_⟩ | ⟨g',cap',cQ,hv,hg,hh,a1,a2,a3,a4⟩
 ·cases hv
 ·obtain ⟨rfl,rfl⟩:g=g'∧cap=cap':=by simpa using hv
  refine ⟨by rw [List.length_take,h1];omega,.inr ⟨g,cap,cQ,rfl,hg,hh,by omega,a2,a3,?_⟩⟩
  rw [← a4,List.take_take,Nat.min_eq_left (by omega)]
theorem fP (n:Nat):∀ v ∈ (Builtin.zeroCells (Value.agg #[.string ⟨#[]⟩,.int .i64 0,.int .i64 0,.int .i64 0,.int .i64 0,.bool false]).cells n).toList,v.oneCell'=true:=by
 intro v hv
 simp only [Builtin.zeroCells,Array.toList_map,List.mem_map] at hv
 obtain ⟨j,_,rfl⟩:=hv
 have:j % 6=0∨j % 6=1∨j % 6=2∨j % 6=3∨j % 6=4∨j % 6=5:=by omega
 simp only [Value.cells]
 show Value.oneCell' ((#[Value.string ⟨#[]⟩,.int .i64 0,.int .i64 0,.int .i64 0,.int .i64 0,.bool false]:Array Value)[j % 6]!)=true
 rcases this with e | e | e | e | e | e <;> rw [e] <;> rfl
theorem Z1 {W:World} {base n s g:Nat} {xs:List Value} (ho:W.ownsRow base 107 6 (.slice (some ⟨g,0,none⟩) n n) n xs) (hs:s<n) :
  ∃ V ys,(∀ ty,(Builtin.clear_ #[132] ty #[.slice (some ⟨g,s*6,none⟩) (n - s) (n - s)]).run prog W=.ok (.tuple #[]) V)∧V.ownsRow base 107 6 (.slice (some ⟨g,0,none⟩) n n) n ys∧ys.take (s*6)=xs.take (s*6)∧W.grownBy V (some g):=by
 have hlen:(Builtin.zeroCells (Value.agg #[.string ⟨#[]⟩,.int .i64 0,.int .i64 0,.int .i64 0,.int .i64 0,.bool false]).cells (n - s)).toList.length=(n - s) * 6:=by simp [Builtin.zeroCells,Value.cells]
 obtain ⟨vs,hvs⟩:∃ vs,(Builtin.zeroCells (Value.agg #[.string ⟨#[]⟩,.int .i64 0,.int .i64 0,.int .i64 0,.int .i64 0,.bool false]).cells (n - s)).toList=vs:=⟨_,rfl⟩
 have hone:∀ v ∈ vs,v.oneCell'=true:=by rw [← hvs];exact fP _
 rw [hvs] at hlen;have hxl:=ho.1
 obtain ⟨ys,h1,h2,h3⟩:=Uo vs (s*6) W xs ho (by rw [hlen];omega)
 refine ⟨_,ys,fun ty=>?_,h1,h2,h3⟩
 have hst:=run_storeCells_cells (P:=prog) g (s*6) vs 0 W (fun j hj=>by rw [ho.cellAt _ (by omega)];simp;omega) (fun j hj=>ho.frozenAt _) hone
 simp only [Nat.add_zero] at hst
 obtain ⟨q,hq⟩:∃ q,n - s=q+1:=⟨n - s - 1,by omega⟩
 rw [hq] at hvs ⊢
 simp [Builtin.clear_,run_underlying underlying132,zeroValue107,hvs,hst]
theorem qG {w:World} {g:Nat} {a:Au} (h:Jo g a w):Ar w (some ⟨g,0,none⟩) [a] :=
 .inr ⟨g,0,rfl,h.lt,fun i hi=>by
  obtain rfl:i=0:=by simpa using hi
  exact ⟨h.c0,h.c1,h.c2,h.c3,h.c4,h.c5⟩⟩
theorem U5:prog.elem 132=107:=by simp [Program.elem,underlying132]
theorem Vd:prog.underlying 132=some (.slice (prog.elem 132)):=by rw [U5];exact underlying132
theorem bG (w:World):(sizeOf 107).run prog w=.ok 6 w:=by
 obtain ⟨i0,hi,hz0,hz1,hz2⟩:=info_parts cF
 simp [sizeOf,typeInfo,hi,hz1]
theorem X4 {g n s:Nat} (hs:s≤n) (W:World):(Instr.slice 132 (.slice (some ⟨g,0,none⟩) n n) (some (.int .i64 s)) none none).run prog W=.ok (.slice (some (if n=s then ⟨g,0,none⟩ else ⟨g,s*6,none⟩)) (n - s) (n - s)) W:=by
 rw [run_slice_l W _ _ _ _ Vd .i64 _ (by omega) (by omega),U5,bG]
 by_cases h:n=s
 ·simp [Result.andThen,sliced,h]
 ·simp [Result.andThen,sliced,h,Addr.add]
  intro h0;exact h0.symm
theorem aB {g n s:Nat} (hs:s≤n) (W:World):(Instr.slice 132 (.slice (some ⟨g,0,none⟩) n n) none (some (.int .i64 s)) none).run prog W=.ok (.slice (some ⟨g,0,none⟩) s n) W:=by
 rw [run_slice_h W _ _ _ _ Vd .i64 _ (by omega) (by omega),U5,bG]
 simp [Result.andThen,sliced,Addr.add]
structure Xs (f:Int) (az bs:List Au) (s k:Nat):Prop where
 len:bs.length=az.length
 le:s≤k
 front:bs.take s=(az.take k).filter (C7 f)
 rest:∀ j,k≤j→j<az.length→Ak bs j=Ak az j
theorem Xs.start (f:Int) (az:List Au):Xs f az az 0 0:=⟨rfl,nL,rfl,fun _ _ _=>rfl⟩
theorem Xs.skip {f:Int} {az bs:List Au} {s k:Nat} (h:Xs f az bs s k) (hk:k<az.length) (hq:C7 f (Ak az k)=false):Xs f az bs s (k+1) :=
 ⟨h.len,Nat.le_succ_of_le h.le,by rw [Jy f az k hk,hq,h.front];simp,fun j h1 h2=>h.rest j (by omega) h2⟩
theorem Xs.keep {f:Int} {az bs:List Au} {s k:Nat} (h:Xs f az bs s k) (hk:k<az.length) (hq:C7 f (Ak az k)=true):Xs f az (bs.set s (Ak az k)) (s+1) (k+1):=by
 have hl:=h.len;have hle:=h.le
 refine ⟨by rw [List.length_set];exact hl,by omega,?_,fun j h1 h2=>?_⟩
 ·rw [Jy f az k hk,hq,if_pos rfl,← h.front,List.take_succ_eq_append_getElem (by rw [List.length_set];omega),List.take_set_of_le (Nat.le_refl s),List.getElem_set_self]
 ·rw [Gw (by rw [List.length_set];omega),List.getElem_set_ne (by omega),← Gw (by omega)]
  exact h.rest j (by omega) h2
theorem aJ (g base:Nat) (az:List Au) (f:Int) (w:World) (ho:w.ownsRow base 107 6 (.slice (some ⟨g,0,none⟩) az.length az.length) az.length (Ah az)) (hn:az.length≤4194304) :
  Calls prog 247 #[.slice (some ⟨g,0,none⟩) az.length az.length,.int .i64 f] w fun e w'=>e=.returned (.slice (some ⟨g,0,none⟩) (az.filter (C7 f)).length az.length) ∧
   w'.ownsRow base 107 6 (.slice (some ⟨g,0,none⟩) (az.filter (C7 f)).length az.length) (az.filter (C7 f)).length (Ah (az.filter (C7 f)))∧w.grownBy w' (some g):=by
 have HO0:Hid _:=ho;clear ho
 go_enter func247,ntmps247
 go_wp2
 go_loopw [5,7,10] (fun s _ i wr=>∃ (k y:Nat) (bs:List Au),k≤az.length∧i=.int .i64 k∧s=.int .i64 y∧Xs f az bs y k∧wr.ownsRow base 107 6 (.slice (some ⟨g,0,none⟩) az.length az.length) az.length (Ah bs)∧w.grownBy wr (some g)) (fun _ _ i _=>az.length - (intOf i).toNat)
 case atStart=>exact ⟨0,0,az,Nat.zero_le _,rfl,rfl,Xs.start f az,HO0.o,World.grownBy.refl _ _⟩
 case round =>
  obtain ⟨k,y,bs,hk,rfl,rfl,hp,hor,hgr⟩:=hrel;have hyk:=hp.le;have HP:Hid (Xs f az bs y k):=hp;have HBL:Hid (bs.length=az.length):=hp.len;clear hp HO0
  by_cases hlt:k<az.length
  ·have hki:(k:Int)<(az.length:Int):=by omega
   have hat:=De bs k (by have:=HBL.o;omega)
   rw [HP.o.rest k nL hlt] at hat
   have x0:wr.cell? ⟨g,k*6,none⟩=some (.string ⟨(Ak az k).ref.toArray⟩):=by rw [hor.cellAt (k*6) (by omega)];exact hat.1
   have x1:wr.cell? ⟨g,k*6+1,none⟩=some (.int .i64 (Ak az k).iss):=by rw [hor.cellAt (k*6+1) (by omega)];exact hat.2.1
   have x2:wr.cell? ⟨g,k*6+2,none⟩=some (.int .i64 (Ak az k).cur):=by rw [hor.cellAt (k*6+2) (by omega)];exact hat.2.2.1
   have x3:wr.cell? ⟨g,k*6+3,none⟩=some (.int .i64 (Ak az k).am):=by rw [hor.cellAt (k*6+3) (by omega)];exact hat.2.2.2.1
   have x4:wr.cell? ⟨g,k*6+4,none⟩=some (.int .i64 (Ak az k).day):=by rw [hor.cellAt (k*6+4) (by omega)];exact hat.2.2.2.2.1
   have x5:wr.cell? ⟨g,k*6+5,none⟩=some (.bool (Ak az k).used):=by rw [hor.cellAt (k*6+5) (by omega)];exact hat.2.2.2.2.2
   have HK:Hid (C7 f (Ak az k)=(!(Ak az k).used && decide (f≤(Ak az k).day))):=rfl
   have HTK:Hid (C7 f (Ak az k)=true→Xs f az (bs.set y (Ak az k)) (y+1) (k+1)):=fun h=>HP.o.keep hlt h
   have HTS:Hid (C7 f (Ak az k)=false→Xs f az bs y (k+1)):=fun h=>HP.o.skip hlt h
   have HST:Hid _:=Hu bs (Ak az k) y (by have:=HBL.o;omega)
   obtain ⟨⟨r,i,c,m,d,u⟩,hf⟩:∃ a,Ak az k=a:=⟨_,rfl⟩;rw [hf] at x0 x1 x2 x3 x4 x5 HK HTK HTS HST
   simp only at x0 x1 x2 x3 x4 x5 HK HST
   have HO:Hid (wr.ownsRow base 107 6 (.slice (some ⟨g,0,none⟩) az.length az.length) az.length (Ah bs)):=hor;have HG:Hid (w.grownBy wr (some g)):=hgr;have hgl:g<wr.heap.size:=(hor.lt g rfl).2;clear hf hor hgr hat;go_upto_region 5 with fail
   clear x0 x1 x2 x3 x4 x5;obtain ⟨W,hW⟩:∃ W,wr.alloc (.cells #[.string ⟨r.toArray⟩,.int .i64 i,.int .i64 c,.int .i64 m,.int .i64 d,.bool u] 107)=W:=⟨_,rfl⟩;have bW:BW wr W:=hW ▸ bR.alloc nL _;have BX:Jo wr.heap.size ⟨r,i,c,m,d,u⟩ W:=hW ▸ Jo.new wr ⟨r,i,c,m,d,u⟩ _;rw [hW];clear hW;have oW:=Iw HO.o bW
   have gW:w.grownBy W (some g):=HG.o.trans ⟨bW.os,bW.tape,bW.output,bW.size,fun j hj _=>bW.block j hj⟩
   have HOW:Hid (W.ownsRow base 107 6 (.slice (some ⟨g,0,none⟩) az.length az.length) az.length (Ah bs)):=oW;have HGW:Hid (w.grownBy W (some g)):=gW;obtain ⟨q0,q1,q2,q3,q4,q5⟩:=BX
   simp only at q0 q1 q2 q3 q4 q5
   cases u
   ·by_cases hfd:f≤d
    ·have HY:Hid (Xs f az (bs.set y ⟨r,i,c,m,d,false⟩) (y+1) (k+1)):=HTK.o (by rw [HK.o,decide_eq_true hfd];rfl)
     have hat2:=De bs y (by have:=HBL.o;omega)
     have y0:W.cell? ⟨g,y*6,none⟩=some (.string ⟨(Ak bs y).ref.toArray⟩):=by rw [oW.cellAt (y*6) (by omega)];exact hat2.1
     have z0:W.frozen? ⟨g,y*6,none⟩=false:=oW.frozenAt _
     have y1:W.cell? ⟨g,y*6+1,none⟩=some (.int .i64 (Ak bs y).iss):=by rw [oW.cellAt (y*6+1) (by omega)];exact hat2.2.1
     have z1:W.frozen? ⟨g,y*6+1,none⟩=false:=oW.frozenAt _
     have y2:W.cell? ⟨g,y*6+2,none⟩=some (.int .i64 (Ak bs y).cur):=by rw [oW.cellAt (y*6+2) (by omega)];exact hat2.2.2.1
     have z2:W.frozen? ⟨g,y*6+2,none⟩=false:=oW.frozenAt _
     have y3:W.cell? ⟨g,y*6+3,none⟩=some (.int .i64 (Ak bs y).am):=by rw [oW.cellAt (y*6+3) (by omega)];exact hat2.2.2.2.1
     have z3:W.frozen? ⟨g,y*6+3,none⟩=false:=oW.frozenAt _
     have y4:W.cell? ⟨g,y*6+4,none⟩=some (.int .i64 (Ak bs y).day):=by rw [oW.cellAt (y*6+4) (by omega)];exact hat2.2.2.2.2.1
     have z4:W.frozen? ⟨g,y*6+4,none⟩=false:=oW.frozenAt _
     have y5:W.cell? ⟨g,y*6+5,none⟩=some (.bool (Ak bs y).used):=by rw [oW.cellAt (y*6+5) (by omega)];exact hat2.2.2.2.2.2
     have z5:W.frozen? ⟨g,y*6+5,none⟩=false:=oW.frozenAt _;obtain ⟨⟨r',i',c',m',d',u'⟩,hf'⟩:∃ a,Ak bs y=a:=⟨_,rfl⟩;rw [hf'] at y0 y1 y2 y3 y4 y5
     simp only at y0 y1 y2 y3 y4 y5
     have HR:Hid ((((((((W.setCell ⟨g,y*6,none⟩ (.string ⟨r.toArray⟩)).setCell ⟨g,y*6+1,none⟩ (.int .i64 i)).setCell ⟨g,y*6+2,none⟩ (.int .i64 c)).setCell ⟨g,y*6+3,none⟩ (.int .i64 m)).setCell ⟨g,y*6+4,none⟩ (.int .i64 d)).setCell ⟨g,y*6+5,none⟩ (.bool false))).ownsRow base 107 6 (.slice (some ⟨g,0,none⟩) az.length az.length) az.length (Ah (bs.set y ⟨r,i,c,m,d,false⟩))):=by
      have R:=(((((((oW.stored (y*6) (.string ⟨r.toArray⟩)).1.stored (y*6+1) (.int .i64 i)).1.stored (y*6+2) (.int .i64 c)).1.stored (y*6+3) (.int .i64 m)).1.stored (y*6+4) (.int .i64 d)).1.stored (y*6+5) (.bool false))).1;rw [HST.o] at R;exact R
     have HGR:Hid (w.grownBy (((((((W.setCell ⟨g,y*6,none⟩ (.string ⟨r.toArray⟩)).setCell ⟨g,y*6+1,none⟩ (.int .i64 i)).setCell ⟨g,y*6+2,none⟩ (.int .i64 c)).setCell ⟨g,y*6+3,none⟩ (.int .i64 m)).setCell ⟨g,y*6+4,none⟩ (.int .i64 d)).setCell ⟨g,y*6+5,none⟩ (.bool false))) (some g)):=gW.trans (((((((oW.stored (y*6) (.string ⟨r.toArray⟩)).2).trans ((oW.stored (y*6) (.string ⟨r.toArray⟩)).1.stored (y*6+1) (.int .i64 i)).2).trans (((oW.stored (y*6) (.string ⟨r.toArray⟩)).1.stored (y*6+1) (.int .i64 i)).1.stored (y*6+2) (.int .i64 c)).2).trans ((((oW.stored (y*6) (.string ⟨r.toArray⟩)).1.stored (y*6+1) (.int .i64 i)).1.stored (y*6+2) (.int .i64 c)).1.stored (y*6+3) (.int .i64 m)).2).trans (((((oW.stored (y*6) (.string ⟨r.toArray⟩)).1.stored (y*6+1) (.int .i64 i)).1.stored (y*6+2) (.int .i64 c)).1.stored (y*6+3) (.int .i64 m)).1.stored (y*6+4) (.int .i64 d)).2).trans ((((((oW.stored (y*6) (.string ⟨r.toArray⟩)).1.stored (y*6+1) (.int .i64 i)).1.stored (y*6+2) (.int .i64 c)).1.stored (y*6+3) (.int .i64 m)).1.stored (y*6+4) (.int .i64 d)).1.stored (y*6+5) (.bool false)).2)
     have hyl:(y:Int)<(az.length:Int):=by omega
     clear hf' hat2 oW gW bW HO HG HOW HGW HP HK HTK HTS HST HBL;go_wp2
     go_roundw
     case rel=>exact ⟨k+1,y+1,_,by omega,by go_num,by go_num,HY.o,HR.o,HGR.o⟩
     case measure=>simp [intOf];omega
    ·have HY:Hid (Xs f az bs y (k+1)):=HTS.o (by rw [HK.o,decide_eq_false hfd];rfl)
     clear oW gW bW HO HG HP HK HTK HTS HST HBL;go_wp2
     go_roundw
     case rel=>exact ⟨k+1,y,bs,by omega,by go_num,rfl,HY.o,HOW.o,HGW.o⟩
     case measure=>simp [intOf];omega
   ·have HY:Hid (Xs f az bs y (k+1)):=HTS.o (by rw [HK.o];rfl)
    clear oW gW bW HO HG HP HK HTK HTS HST HBL;go_wp2
    go_roundw
    case rel=>exact ⟨k+1,y,bs,by omega,by go_num,rfl,HY.o,HOW.o,HGW.o⟩
    case measure=>simp [intOf];omega
  ·have hke:k=az.length:=by omega
   subst hke
   have hfr:bs.take y=az.filter (C7 f):=by have:=HP.o.front;rwa [List.take_length] at this
   have hfl:(az.filter (C7 f)).length=y:=by rw [← hfr,List.length_take,HBL.o];omega
   have htk:(Ah bs).take (y*6)=Ah (az.filter (C7 f)):=by
    have e:Ah bs=Ah (bs.take y)++Ah (bs.drop y):=by rw [← F9,List.take_append_drop]
    rw [e,List.take_append_of_le_length (by rw [E2,List.length_take,HBL.o];omega),List.take_of_length_le (by rw [E2,List.length_take,HBL.o];omega),hfr]
   have HFL:Hid _:=hfl;have HTK:Hid _:=htk;have HO:Hid (wr.ownsRow base 107 6 (.slice (some ⟨g,0,none⟩) az.length az.length) az.length (Ah bs)):=hor;have HG:Hid (w.grownBy wr (some g)):=hgr;have hs1:=X4 (g:=g) (n:=az.length) (s:=y) hyk;have hs2:=aB (g:=g) (n:=az.length) (s:=y) hyk
   by_cases hye:az.length=y
   ·have HR:Hid (wr.ownsRow base 107 6 (.slice (some ⟨g,0,none⟩) y az.length) y (Ah (az.filter (C7 f)))):=by
      have:=dD HO.o hyk
      rwa [HTK.o] at this
    rw [hye,Nat.sub_self,if_pos rfl] at hs1;rw [hye] at hs2;have HYE:Hid _:=hye
    have hcl:∀ ty,(Builtin.clear_ #[132] ty #[.slice (some ⟨g,0,none⟩) 0 0]).run prog wr=.ok (.tuple #[]) wr:=fun ty=>by
     simp [Builtin.clear_,run_underlying underlying132]
    rw [hye] at HR hn ⊢;clear hor hgr hfr hfl htk HP HBL hye hyk hk hlt HO HTK;go_wp2;go_ret;rw [HFL.o,HYE.o];exact ⟨rfl,HR.o,HG.o⟩
   ·obtain ⟨V,ys,hcl,oV,htv,gV⟩:=Z1 HO.o (show y<az.length by omega)
    have HR:Hid (V.ownsRow base 107 6 (.slice (some ⟨g,0,none⟩) y az.length) y (Ah (az.filter (C7 f)))):=by
     have:=dD oV hyk
     rwa [htv,HTK.o] at this
    have HGV:Hid (w.grownBy V (some g)):=HG.o.trans gV;rw [if_neg hye] at hs1;clear hor hgr hfr hfl htk HP HBL HO HTK oV htv gV;go_wp2;go_ret;rw [HFL.o];exact ⟨rfl,HR.o,HGV.o⟩
theorem Z4 (ao:Option Addr) (cap:Nat) (az:List Au) (t:Int) (w:World) (hz:Ar w ao az) (hn:az.length≤4194304) (hd:∀ a ∈ az,a.ref.length≤1099511627776) :
  Calls prog 207 #[.slice ao az.length cap,.int .i64 t] w (pA w (E5 az t)):=by
 cases hq:Dn t
 ·have HL:Hid (E5 az t=[]):=by rw [Hid,E5,if_neg (by rw [hq];decide)]
  go_enter func207,ntmps207
  go_wp2_with fail
  refine (Bm t _).mono ?_;rintro e w1 ⟨rfl,hw⟩;subst hw;rw [hq];go_wp2;go_ret;rw [HL.o];exact ⟨none,0,rfl,World.ownsRow_nil _ _ _ _,bR⟩
 ·have htb:=Ei hq
  have HL:Hid (E5 az t=az.filter (C7 (t - 7))):=by rw [Hid,E5,if_pos hq]
  go_enter func207,ntmps207
  go_wp2_with fail
  refine (Bm t _).mono ?_;rintro e w1 ⟨rfl,hw⟩;subst hw;rw [hq];go_wp2_with fail
  refine (Dj _ _ _ _ hz hn hd).mono ?_;rintro e w2 ⟨rfl,o2,b2⟩;have HO:Hid _:=o2;have HB:Hid _:=b2;clear o2 b2 hz;go_wp2_with fail
  refine (aJ _ _ _ _ _ HO.o hn).mono ?_;rintro e w3 ⟨rfl,o3,g3⟩;have HO3:Hid _:=o3
  have HG3:Hid _:=HB.o.grown g3 HB.o.size (fun k hk=>by cases hk;exact nL)
  clear o3 g3 HO HB;go_wp2;go_ret;rw [HL.o];exact ⟨_,_,rfl,HO3.o,HG3.o⟩
theorem Zi (ao:Option Addr) (cap:Nat) (az:List Au) (t:Int) (w:World) (hz:Ar w ao az) (hn:az.length≤4194304) :
  Calls prog 178 #[.slice ao az.length cap,.int .i64 t] w (pA w (E5 az t)):=by
 have bA:Below w.heap.size w (w.alloc (.cells #[] 107)):=bR.alloc nL _;have oA:=kV w
 have HDY:Hid (∀ u,Calls prog 102 #[.int .i64 t] u fun e w'=>e=.returned (.bool (Dn t))∧w'=u):=fun u=>A9 t u
 cases hq:Dn t
 ·have HL:Hid (E5 az t=[]):=by rw [Hid,E5,if_neg (by rw [hq];decide)]
  rw [hq] at HDY;have HO:Hid _:=And.intro oA bA;clear oA bA
  by_cases h0:0<az.length
  ·have h0':(0:Int)<(az.length:Int):=by omega
   go_enter func178,ntmps178
   go_wp2;refine wp_loop_rounds 1 ?_;rw [rounds_succ];go_wp2_with fail
   refine (HDY.o _).mono ?_;rintro e w1 ⟨rfl,hw⟩;subst hw;go_wp2;go_ret;rw [HL.o];exact ⟨_,_,rfl,HO.o.1,HO.o.2⟩
  ·have h0':¬ (0:Int)<(az.length:Int):=by omega
   go_enter func178,ntmps178
   go_wp2;refine wp_loop_rounds 1 ?_;rw [rounds_succ];go_wp2;go_ret;rw [HL.o];exact ⟨_,_,rfl,HO.o.1,HO.o.2⟩
 ·have htb:=Ei hq
  have HL:Hid (E5 az t=az.filter (C7 (t - 7))):=by rw [Hid,E5,if_pos hq]
  rw [hq] at HDY
  rcases hz with rfl | ⟨b,off,rfl,hb,hcell⟩
  ·have HO:Hid _:=And.intro oA bA
   clear oA bA
   go_enter func178,ntmps178
   go_wp2;refine wp_loop_rounds 1 ?_;rw [rounds_succ];go_wp2;go_ret;rw [HL.o];exact ⟨_,_,rfl,HO.o.1,HO.o.2⟩
  have HC:Hid (∀ i,i<az.length→w.cell? ⟨b,off+i*6,none⟩=some (.string ⟨(Ak az i).ref.toArray⟩)∧w.cell? ⟨b,off+i*6+1,none⟩=some (.int .i64 (Ak az i).iss)∧w.cell? ⟨b,off+i*6+2,none⟩=some (.int .i64 (Ak az i).cur)∧w.cell? ⟨b,off+i*6+3,none⟩=some (.int .i64 (Ak az i).am)∧w.cell? ⟨b,off+i*6+4,none⟩=some (.int .i64 (Ak az i).day)∧w.cell? ⟨b,off+i*6+5,none⟩=some (.bool (Ak az i).used)):=hcell;clear hcell
  go_enter func178,ntmps178
  go_wp2
  go_loopw [5,6] (fun v i wr=>∃ (k:Nat) (ao:Option Addr) (c:Nat),k≤az.length∧i=.int .i64 k∧v=.slice ao ((az.take k).filter (C7 (t - 7))).length c∧wr.ownsRow w.heap.size 107 6 (.slice ao ((az.take k).filter (C7 (t - 7))).length c) ((az.take k).filter (C7 (t - 7))).length (Ah ((az.take k).filter (C7 (t - 7))))∧BW w wr) (fun _ i _=>az.length - (intOf i).toNat)
  case atStart=>exact ⟨0,_,_,Nat.zero_le _,rfl,rfl,oA,bA⟩
  case round =>
   obtain ⟨k,ao,cc,hk,rfl,rfl,hor,hbr⟩:=hrel;clear oA bA
   by_cases hlt:k<az.length
   ·have x0:wr.cell? ⟨b,off+k*6,none⟩=some (.string ⟨(Ak az k).ref.toArray⟩):=(hbr.cell (p:=⟨b,off+k*6,none⟩) hb).trans (HC.o k hlt).1
    have x1:wr.cell? ⟨b,off+k*6+1,none⟩=some (.int .i64 (Ak az k).iss):=(hbr.cell (p:=⟨b,off+k*6+1,none⟩) hb).trans (HC.o k hlt).2.1;have x2:wr.cell? ⟨b,off+k*6+2,none⟩=some (.int .i64 (Ak az k).cur):=(hbr.cell (p:=⟨b,off+k*6+2,none⟩) hb).trans (HC.o k hlt).2.2.1;have x3:wr.cell? ⟨b,off+k*6+3,none⟩=some (.int .i64 (Ak az k).am):=(hbr.cell (p:=⟨b,off+k*6+3,none⟩) hb).trans (HC.o k hlt).2.2.2.1;have x4:wr.cell? ⟨b,off+k*6+4,none⟩=some (.int .i64 (Ak az k).day):=(hbr.cell (p:=⟨b,off+k*6+4,none⟩) hb).trans (HC.o k hlt).2.2.2.2.1;have x5:wr.cell? ⟨b,off+k*6+5,none⟩=some (.bool (Ak az k).used):=(hbr.cell (p:=⟨b,off+k*6+5,none⟩) hb).trans (HC.o k hlt).2.2.2.2.2
    have hki:(k:Int)<(az.length:Int):=by omega
    have HTF:Hid _:=Jy (t - 7) az k hlt;have HK:Hid (C7 (t - 7) (Ak az k)=(!(Ak az k).used && decide (t - 7≤(Ak az k).day))):=rfl
    have hll:((az.take k).filter (C7 (t - 7))).length≤k:=Nat.le_trans (List.length_filter_le _ _) (by simp;omega)
    obtain ⟨B,hB⟩:∃ B,(az.take k).filter (C7 (t - 7))=B:=⟨_,rfl⟩;obtain ⟨⟨r,i,c,m,d,u⟩,hf⟩:∃ a,Ak az k=a:=⟨_,rfl⟩;rw [hf] at x0 x1 x2 x3 x4 x5 HK HTF;rw [hB] at hor hll HTF ⊢
    simp only at x0 x1 x2 x3 x4 x5 HK
    have HO:Hid (wr.ownsRow w.heap.size 107 6 (.slice ao B.length cc) B.length (Ah B)):=hor;have HB:Hid (BW w wr):=hbr;clear hB hf hor hbr;go_wp2_with fail
    refine (HDY.o _).mono ?_;rintro e w1 ⟨rfl,hw⟩;subst hw
    cases u
    ·by_cases hfd:t - 7≤d
     ·have HE:Hid ((az.take (k+1)).filter (C7 (t - 7))=B++[⟨r,i,c,m,d,false⟩]):=by rw [Hid,HTF.o,HK.o,decide_eq_true hfd];rfl
      have HON:Hid (Ar (w1.alloc (.cells #[.string ⟨r.toArray⟩,.int .i64 i,.int .i64 c,.int .i64 m,.int .i64 d,.bool false] 107)) (some ⟨w1.heap.size,0,none⟩) [⟨r,i,c,m,d,false⟩]):=qG (Jo.new w1 ⟨r,i,c,m,d,false⟩ _);have HOA:Hid ((w1.alloc (.cells #[.string ⟨r.toArray⟩,.int .i64 i,.int .i64 c,.int .i64 m,.int .i64 d,.bool false] 107)).ownsRow w.heap.size 107 6 (.slice ao B.length cc) B.length (Ah B)):=Iw HO.o (bR.alloc nL _);have hwz:w.heap.size≤w1.heap.size:=HB.o.size
      go_wp2_with (at_builtin;refine Bu _ rfl (.tmp 34) (.tmp 39) rfl w.heap.size (.slice ao B.length cc) B.length (Ah B) rfl HOA.o (some ⟨w1.heap.size,0,none⟩) 1 [⟨r,i,c,m,d,false⟩] rfl HON.o (by simp;omega) (by simp;omega) ?_;intro v2 w2 o2 g2 n2)
      obtain ⟨a2,c2,rfl⟩:=dI o2
      have HO2:Hid (w2.ownsRow w.heap.size 107 6 (.slice a2 (B++([⟨r,i,c,m,d,false⟩]:List Au)).length c2) (B++([⟨r,i,c,m,d,false⟩]:List Au)).length (Ah (B++[⟨r,i,c,m,d,false⟩]))):=by rw [Hid,List.length_append,F9];exact o2
      have HB2:Hid (BW w w2):=(HB.o.alloc HB.o.size _).grown g2 (by simp;omega) (fun j hj=>(HOA.o.lt j hj).1)
      clear o2 g2 n2 HOA HON HTF HK;go_wp2
      go_roundw
      case rel=>exact ⟨k+1,a2,c2,by omega,by go_num,by rw [HE.o,List.length_append],by rw [HE.o];exact HO2.o,HB2.o⟩
      case measure=>simp [intOf];omega
     ·have HE:Hid ((az.take (k+1)).filter (C7 (t - 7))=B):=by rw [Hid,HTF.o,HK.o,decide_eq_false hfd];simp
      clear HTF HK;go_wp2
      go_roundw
      case rel=>exact ⟨k+1,ao,cc,by omega,by go_num,by rw [HE.o],by rw [HE.o];exact HO.o,HB.o⟩
      case measure=>simp [intOf];omega
    ·have HE:Hid ((az.take (k+1)).filter (C7 (t - 7))=B):=by rw [Hid,HTF.o,HK.o];simp
     clear HTF HK;go_wp2
     go_roundw
     case rel=>exact ⟨k+1,ao,cc,by omega,by go_num,by rw [HE.o],by rw [HE.o];exact HO.o,HB.o⟩
     case measure=>simp [intOf];omega
   ·have hke:k=az.length:=by omega
    subst hke;rw [List.take_length] at hor ⊢;have HO:Hid _:=And.intro hor hbr;clear hor hbr;go_wp2;go_ret;rw [HL.o];exact ⟨_,_,rfl,HO.o.1,HO.o.2⟩
def useOk (az:List Au) (i:Int):Bool:=decide (0≤i∧i<az.length) && !(Ak az i.toNat).used
def Lz (a:Au):Au:=⟨a.ref,a.iss,a.cur,a.am,a.day,true⟩
def M7 (az:List Au) (i:Int):List Au:=if useOk az i=true then az.set i.toNat (Lz (Ak az i.toNat)) else az
theorem jC (az:List Au) (i:Int):(M7 az i).length=az.length:=by unfold M7;split <;> simp
theorem Np {az:List Au} {i:Int} (h:useOk az i=false):M7 az i=az:=by rw [M7,if_neg (by rw [h];decide)]
theorem jU (ao:Option Addr) (cap:Nat) (az:List Au) (i:Int) (w:World) (hz:Ar w ao az) (hn:az.length≤4194304) (hd:∀ a ∈ az,a.ref.length≤1099511627776) :
  Calls prog 212 #[.slice ao az.length cap,.int .i64 i] w (Pi w (M7 az i) (useOk az i)):=by
 by_cases h0:i<0
 ·have HQ:Hid (useOk az i=false):=by rw [Hid,useOk,decide_eq_false (by omega)];rfl
  go_enter func212,ntmps212
  go_wp2_with fail
  refine (Dj _ _ _ _ hz hn hd).mono ?_;rintro e w1 ⟨rfl,o1,b1⟩;have HO:Hid _:=And.intro o1 b1;clear o1 b1 hz;go_wp2;go_ret2;rw [HQ.o,Np HQ.o];exact ⟨_,_,rfl,HO.o.1,HO.o.2⟩
 by_cases h1:(az.length:Int)≤i
 ·have HQ:Hid (useOk az i=false):=by rw [Hid,useOk,decide_eq_false (by omega)];rfl
  go_enter func212,ntmps212
  go_wp2_with fail
  refine (Dj _ _ _ _ hz hn hd).mono ?_;rintro e w1 ⟨rfl,o1,b1⟩;have HO:Hid _:=And.intro o1 b1;clear o1 b1 hz;go_wp2;go_ret2;rw [HQ.o,Np HQ.o];exact ⟨_,_,rfl,HO.o.1,HO.o.2⟩
 obtain ⟨k,rfl⟩:=Int.eq_ofNat_of_zero_le (show 0≤i by omega)
 have hk:k<az.length:=by omega
 have hlt:(k:Int)<(az.length:Int):=by omega
 have HAT:Hid ((Ah az)[k*6+5]?=some (.bool (Ak az k).used)):=(De az k hk).2.2.2.2.2;have HST:Hid ((Ah az).set (k*6+5) (.bool true)=Ah (az.set k (Lz (Ak az k)))):=On az true k hk
 have HU:Hid (useOk az (k:Int) = !(Ak az k).used):=by rw [Hid,useOk,decide_eq_true (show 0≤(k:Int)∧(k:Int)<az.length by omega),Bool.true_and,Int.toNat_natCast]
 have HUL:Hid (useOk az (k:Int)=true→M7 az (k:Int)=az.set k (Lz (Ak az k))):=fun h=>by rw [M7,if_pos h,Int.toNat_natCast]
 obtain ⟨us,hus⟩:∃ us,(Ak az k).used=us:=⟨_,rfl⟩;rw [hus] at HAT HU;clear hus
 go_enter func212,ntmps212
 go_wp2_with fail
 refine (Dj _ _ _ _ hz hn hd).mono ?_;rintro e w1 ⟨rfl,o1,b1⟩
 have y5:w1.cell? ⟨w.heap.size,k*6+5,none⟩=some (.bool us):=by rw [o1.cellAt (k*6+5) (by omega)];exact HAT.o
 have z5:w1.frozen? ⟨w.heap.size,k*6+5,none⟩=false:=o1.frozenAt _;have HO:Hid _:=And.intro o1 b1;clear o1 b1 hz
 cases us
 ·have HQ:Hid (useOk az (k:Int)=true):=HU.o
  have HR:Hid ((w1.setCell ⟨w.heap.size,k*6+5,none⟩ (.bool true)).ownsRow w.heap.size 107 6 (.slice (some ⟨w.heap.size,0,none⟩) az.length az.length) az.length (Ah (az.set k (Lz (Ak az k))))):=by
   have R:=(HO.o.1.stored (k*6+5) (.bool true)).1;rw [HST.o] at R;exact R
  go_wp2;go_ret2;rw [HQ.o,HUL.o HQ.o]
  exact ⟨some ⟨w.heap.size,0,none⟩,az.length,by rw [List.length_set];rfl,by rw [List.length_set];exact HR.o,HO.o.2.setCell nL _⟩
 ·have HQ:Hid (useOk az (k:Int)=false):=HU.o
  go_wp2;go_ret2;rw [HQ.o,Np HQ.o];exact ⟨_,_,rfl,HO.o.1,HO.o.2⟩
theorem kZ (ao:Option Addr) (cap:Nat) (az:List Au) (i:Int) (w:World) (hz:Ar w ao az) (hn:az.length≤4194304) :
  Calls prog 183 #[.slice ao az.length cap,.int .i64 i] w (Pi w (M7 az i) (useOk az i)):=by
 have bA:Below w.heap.size w (w.alloc (.cells #[] 107)):=bR.alloc nL _;have HZ1:Hid (Ar (w.alloc (.cells #[] 107)) ao az):=hz.below bA;have HO1:=kV w
 have HIN:Hid (∀ u,Calls prog 134 #[.int .i64 i,.int .i64 0,.int .i64 ((az.length:Int) - 1)] u fun e w'=>e=.returned (.bool (decide (0≤i∧i<az.length)))∧w'=u):=fun u=>by
  have:=Dl i 0 ((az.length:Int) - 1) u
  rwa [show Gk i 0 ((az.length:Int) - 1)=decide (0≤i∧i<az.length) by unfold Gk;exact decide_eq_decide.2 (by omega)] at this
 by_cases hin:0≤i∧i<az.length
 ·obtain ⟨k,rfl⟩:=Int.eq_ofNat_of_zero_le hin.1
  have hk:k<az.length:=by omega
  have hlt:(k:Int)<(az.length:Int):=by omega
  rw [decide_eq_true hin] at HIN;have HAT:Hid ((Ah az)[k*6+5]?=some (.bool (Ak az k).used)):=(De az k hk).2.2.2.2.2;have HST:Hid ((Ah az).set (k*6+5) (.bool true)=Ah (az.set k (Lz (Ak az k)))):=On az true k hk
  have HU:Hid (useOk az (k:Int) = !(Ak az k).used):=by rw [Hid,useOk,decide_eq_true (show 0≤(k:Int)∧(k:Int)<az.length by omega),Bool.true_and,Int.toNat_natCast]
  have HUL:Hid (useOk az (k:Int)=true→M7 az (k:Int)=az.set k (Lz (Ak az k))):=fun h=>by rw [M7,if_pos h,Int.toNat_natCast]
  rcases hz with rfl | ⟨b,off,rfl,hb,hcell⟩
  ·simp at hk
  have HC5:Hid (w.cell? ⟨b,off+k*6+5,none⟩=some (.bool (Ak az k).used)):=(hcell k hk).2.2.2.2.2;obtain ⟨us,hus⟩:∃ us,(Ak az k).used=us:=⟨_,rfl⟩;rw [hus] at HAT HU HC5;clear hus hcell hin
  go_enter func183,ntmps183
  go_wp2_with (at_builtin;refine Bu _ rfl (.tmp 7) (.tmp 8) rfl w.heap.size (.slice (some ⟨w.heap.size,0,none⟩) 0 0) 0 [] rfl HO1 _ cap az rfl HZ1.o (by omega) (by simp) ?_;intro v2 w2 o2 g2 n2)
  obtain ⟨g,cc,rfl⟩:=Oe o2 (n2 (by simp))
  simp only [Nat.zero_add,List.nil_append] at o2 ⊢
  have b2:BW w w2:=bA.grown g2 (by simp) (fun j hj=>by cases hj;exact nL)
  have y5:w2.cell? ⟨g,k*6+5,none⟩=some (.bool us):=by rw [o2.cellAt (k*6+5) (by omega)];exact HAT.o
  have z5:w2.frozen? ⟨g,k*6+5,none⟩=false:=o2.frozenAt _;have x5:w2.cell? ⟨b,off+k*6+5,none⟩=some (.bool us):=(b2.cell (p:=⟨b,off+k*6+5,none⟩) hb).trans HC5.o;have HB:Hid (BW w w2):=b2;have HO:Hid (w2.ownsRow w.heap.size 107 6 (.slice (some ⟨g,0,none⟩) az.length cc) az.length (Ah az)):=o2;have hgw:=(o2.lt g rfl).1;clear o2 b2 g2 n2 HO1 bA;go_wp2_with fail
  refine (HIN.o _).mono ?_;rintro e w3 ⟨rfl,hw3⟩;subst hw3
  cases us
  ·have HQ:Hid (useOk az (k:Int)=true):=HU.o
   have HR:Hid ((w3.setCell ⟨g,k*6+5,none⟩ (.bool true)).ownsRow w.heap.size 107 6 (.slice (some ⟨g,0,none⟩) az.length cc) az.length (Ah (az.set k (Lz (Ak az k))))):=by
    have R:=(HO.o.stored (k*6+5) (.bool true)).1;rw [HST.o] at R;exact R
   go_wp2;go_ret2;rw [HQ.o,HUL.o HQ.o]
   exact ⟨some ⟨g,0,none⟩,cc,by rw [List.length_set];rfl,by rw [List.length_set];exact HR.o,HB.o.setCell hgw _⟩
  ·have HQ:Hid (useOk az (k:Int)=false):=HU.o
   go_wp2;go_ret2;rw [HQ.o,Np HQ.o];exact ⟨_,_,rfl,HO.o,HB.o⟩
 ·have HQ:Hid (useOk az i=false):=by rw [Hid,useOk,decide_eq_false hin];rfl
  rw [decide_eq_false hin] at HIN;clear hin
  go_enter func183,ntmps183
  go_wp2_with (at_builtin;refine Bu _ rfl (.tmp 7) (.tmp 8) rfl w.heap.size (.slice (some ⟨w.heap.size,0,none⟩) 0 0) 0 [] rfl HO1 ao cap az rfl HZ1.o (by omega) (by simp) ?_;intro v2 w2 o2 g2 n2)
  obtain ⟨g,cc,rfl⟩:=Oe o2 (n2 (by simp))
  simp only [Nat.zero_add,List.nil_append] at o2 ⊢
  have b2:BW w w2:=bA.grown g2 (by simp) (fun j hj=>by cases hj;exact nL)
  have HB:Hid (BW w w2):=b2;have HO:Hid (w2.ownsRow w.heap.size 107 6 (.slice (some ⟨g,0,none⟩) az.length cc) az.length (Ah az)):=o2;clear o2 b2 g2 n2 HO1 bA hz;go_wp2_with fail
  refine (HIN.o _).mono ?_;rintro e w3 ⟨rfl,hw3⟩;subst hw3;go_wp2;go_ret2;rw [HQ.o,Np HQ.o];exact ⟨_,_,rfl,HO.o,HB.o⟩
def Jl (w:World) (ls:List Ln) (ok:Bool) (e:Ending) (w':World):Prop :=
 ∃ ao cap,e=.returned (.tuple #[.agg #[.slice ao ls.length cap],.bool ok])∧w'.ownsRow w.heap.size 113 3 (.slice ao ls.length cap) ls.length (Ag ls)∧BW w w'
structure PB (s:Nat) (ao:Option Addr) (cap n:Nat) (a b c m:Int) (u:World):Prop where
 l0:u.cell? ⟨s,0,none⟩=some (.slice ao n cap)
 e0:u.cell? ⟨s+1,0,none⟩=some (.int .i64 a)
 e1:u.cell? ⟨s+1,1,none⟩=some (.int .i64 b)
 e2:u.cell? ⟨s+1,2,none⟩=some (.int .i64 c)
 e3:u.cell? ⟨s+1,3,none⟩=some (.int .i64 m)
 r0:u.cell? ⟨s+1+1,0,none⟩=some (.slice none 0 0)
 rf:u.frozen? ⟨s+1+1,0,none⟩=false
 sz:s+1+1<u.heap.size
theorem PB.below {s:Nat} {ao:Option Addr} {cap n:Nat} {a b c m:Int} {u u':World} (h:PB s ao cap n a b c m u) (hb:BW u u'):PB s ao cap n a b c m u':=by
 have h1:=h.sz
 exact ⟨(hb.cell (p:=⟨s,0,none⟩) (by show s<u.heap.size;omega)).trans h.l0,(hb.cell (p:=⟨s+1,0,none⟩) (by show s+1<u.heap.size;omega)).trans h.e0,(hb.cell (p:=⟨s+1,1,none⟩) (by show s+1<u.heap.size;omega)).trans h.e1,
  (hb.cell (p:=⟨s+1,2,none⟩) (by show s+1<u.heap.size;omega)).trans h.e2,(hb.cell (p:=⟨s+1,3,none⟩) (by show s+1<u.heap.size;omega)).trans h.e3,(hb.cell (p:=⟨s+1+1,0,none⟩) h1).trans h.r0,(hb.frozen (p:=⟨s+1+1,0,none⟩) h1).trans h.rf,Nat.lt_of_lt_of_le h1 hb.size⟩
theorem Gd {w u:World} {ls gs:List Ln} {ok:Bool} {ao:Option Addr} {cap base:Nat} (hg:gs=ls) (ho:u.ownsRow base 113 3 (.slice ao ls.length cap) ls.length (Ag ls)) (hb:w.heap.size+1+1<base) (bel:BW w u) :
  Jl w gs ok (.returned (.tuple #[.agg #[.slice ao ls.length cap],.bool ok])) (u.setCell ⟨w.heap.size+1+1,0,none⟩ (.slice ao ls.length cap)):=by
 subst hg
 exact ⟨ao,cap,rfl,Bi (A5 ho _ _ (fun g hg=>by have:=(ho.lt g hg).1;simp only;omega)) (by omega),bel.setCell (by show w.heap.size≤w.heap.size+1+1;omega) _⟩
theorem Hs {ls:List Ln} {e:En} (h:Cj ls e=false):Gg ls e=ls:=if_neg (by rw [h];decide)
theorem N9 {ls:List Ln} {e:En} (h:Cj ls e=true):Gg ls e=G5 ls e:=if_pos h
theorem P0 {ls:List Ln} {a c m:Int} : ∀ x ∈ Cr ls a c m,x ∈ ls∨x.2.2=m∨∃ y ∈ ls,x.2.2=y.2.2+m:=by
 induction ls with
 | nil=>intro x hx;simp [Cr] at hx;subst hx;exact .inr (.inl rfl)
 | cons y r ih =>
  intro x hx
  simp only [Cr] at hx
  split at hx
  ·split at hx
   ·split at hx
    ·rcases List.mem_cons.1 hx with rfl | h
     ·exact .inr (.inr ⟨y,List.mem_cons_self ..,rfl⟩)
     ·exact .inl (List.mem_cons_of_mem _ h)
    ·exact .inl (List.mem_cons_of_mem _ hx)
   ·rcases List.mem_cons.1 hx with rfl | h
    ·exact .inr (.inl rfl)
    ·exact .inl h
  ·rcases List.mem_cons.1 hx with rfl | h
   ·exact .inl (List.mem_cons_self ..)
   ·rcases ih x h with h | h | ⟨z,hz,h⟩
    ·exact .inl (List.mem_cons_of_mem _ h)
    ·exact .inr (.inl h)
    ·exact .inr (.inr ⟨z,List.mem_cons_of_mem _ hz,h⟩)
theorem Dq {ls:List Ln} (h:At ls=true):Az none ls=true∧ls.length≤400∧Wo ls=true:=by
 simp only [At,Bool.and_eq_true,decide_eq_true_eq] at h
 exact ⟨h.1,h.2.1,h.2.2⟩
theorem Lq {e:En} (h:Bt e=true):Cb e.1=true∧Cb e.2.1=true∧e.1≠e.2.1∧0≤Dc e.2.2.1∧1≤e.2.2.2∧e.2.2.2≤1000000000000:=by
 simp only [Bt,Bool.and_eq_true,decide_eq_true_eq] at h
 exact ⟨h.1,h.2.1,h.2.2.1,h.2.2.2.1,h.2.2.2.2⟩
theorem eE (ao:Option Addr) (cap:Nat) (ls:List Ln) (a b c m:Int) (w:World) (hz:Ai w ao ls) (hn:ls.length≤1048576) :
  Calls prog 220 #[.agg #[.slice ao ls.length cap],.agg #[.int .i64 a,.int .i64 b,.int .i64 c,.int .i64 m]] w (Jl w (Gg ls (a,b,c,m)) (Cj ls (a,b,c,m))):=by
 obtain ⟨W,hW⟩:∃ W,W=((w.alloc (.cells #[.slice ao ls.length cap] 29)).alloc (.cells #[.int .i64 a,.int .i64 b,.int .i64 c,.int .i64 m] 269)).alloc (.cells #[.slice none 0 0] 29):=⟨_,rfl⟩
 have bW:BW w W:=by rw [hW];go_grown
 have PW:PB w.heap.size ao cap ls.length a b c m W:=by
  rw [hW];exact ⟨by simp [go_sem],by simp [go_sem],by simp [go_sem],by simp [go_sem],by simp [go_sem],by simp [go_sem],by simp [go_sem],by simp⟩
 have HZ:Hid (Ai W ao ls):=hz.below bW;have HW:Hid _:=hW;have l0:=PW.l0;have HPW:Hid _:=PW;clear hz hW PW
 cases hL:At ls
 ·have hno:Cj ls (a,b,c,m)=false:=by simp [Cj,hL]
  have HNL:Hid _:=Hs hno;rw [hno];have HL:Hid _:=hL
  have HC:Hid (Calls prog 260 #[.agg #[.slice ao ls.length cap]] W fun e w'=>e=.returned (.bool false)∧BW W w'):=by
   have h:=Ik ao cap ls W HZ.o (by omega)
   rw [hL] at h;exact h
  clear hno hL
  go_enter func220,ntmps220
  go_upto_region 1 with fail
  rw [← HW.o];go_wp2_with fail
  refine HC.o.mono ?_;rintro e w1 ⟨rfl,b1⟩;have P1:=HPW.o.below b1;have q1:=next bW b1;have HZ1:Hid (Ai w1 ao ls):=HZ.o.below b1;have j0:=P1.l0;have HP1:Hid _:=P1;clear HC b1 P1 l0;go_wp2_with fail
  refine (Hh ao cap ls w1 HZ1.o (by omega)).mono ?_
  rintro e w2 ⟨g2,c2,rfl,o2,b2⟩;have P2:=HP1.o.below b2;have r0:=P2.r0;have rf:=P2.rf;have HE:Hid _:=Gd (w:=w) (ok:=false) HNL.o o2 HP1.o.sz (next q1 b2);clear o2 b2 P2 j0;go_wp2
  refine bodyPost_ret (by simp [results,results220,go_sem,r0];try rfl) rfl ?_
  exact HE.o
 have HCL:Hid (Calls prog 260 #[.agg #[.slice ao ls.length cap]] W fun e w'=>e=.returned (.bool true)∧BW W w'):=by
  have h:=Ik ao cap ls W HZ.o (by omega)
  rw [hL] at h;exact h
 cases hE:Bt (a,b,c,m)
 ·have hno:Cj ls (a,b,c,m)=false:=by simp [Cj,hE]
  have HNL:Hid _:=Hs hno;rw [hno];have HEO:Hid _:=hE;clear hno hL hE
  go_enter func220,ntmps220
  go_upto_region 1 with fail
  rw [← HW.o];go_wp2_with fail
  refine HCL.o.mono ?_;rintro e w1 ⟨rfl,b1⟩;have P1:=HPW.o.below b1;have q1:=next bW b1;have HZ1:Hid (Ai w1 ao ls):=HZ.o.below b1;have k0:=P1.e0;have k1:=P1.e1;have k2:=P1.e2;have k3:=P1.e3
  have HCE:Hid (Calls prog 261 #[.agg #[.int .i64 a,.int .i64 b,.int .i64 c,.int .i64 m]] w1 fun e w'=>e=.returned (.bool false)∧BW w1 w'):=by
   have h:=Nf a b c m w1;rw [HEO.o] at h;exact h
  have HP1:Hid _:=P1;clear HCL b1 P1 l0;go_wp2_with fail
  refine HCE.o.mono ?_;rintro e w2 ⟨rfl,b2⟩;have P2:=HP1.o.below b2;have q2:=next q1 b2;have HZ2:Hid (Ai w2 ao ls):=HZ1.o.below b2;have j0:=P2.l0;have HP2:Hid _:=P2;clear HCE b2 P2 k0 k1 k2 k3;go_wp2_with fail
  refine (Hh ao cap ls w2 HZ2.o (by omega)).mono ?_
  rintro e w3 ⟨g3,c3,rfl,o3,b3⟩;have P3:=HP2.o.below b3;have r0:=P3.r0;have rf:=P3.rf;have HE:Hid _:=Gd (w:=w) (ok:=false) HNL.o o3 HP2.o.sz (next q2 b3);clear o3 b3 P3 j0;go_wp2
  refine bodyPost_ret (by simp [results,results220,go_sem,r0];try rfl) rfl ?_
  exact HE.o
 ·obtain ⟨hl1,hl2,_⟩:=Dq hL
  obtain ⟨_,_,_,_,hm1,hm2⟩:=Lq hE
  simp only at hm1 hm2
  have hbd:∀ x ∈ ls,-1000000000000≤x.2.2∧x.2.2≤1000000000000:=fun x hx=>(Ig (Dv hl1 x hx)).2.2.1
  have HB1:Hid (∀ x ∈ ls,-4000000000000≤x.2.2∧x.2.2≤4000000000000):=fun x hx=>by have:=hbd x hx;omega
  have HB2:Hid (∀ x ∈ Cr ls a c (-m),-4000000000000≤x.2.2∧x.2.2≤4000000000000):=fun x hx=>by
   rcases P0 x hx with h | h | ⟨y,hy,h⟩
   ·have:=hbd x h;omega
   ·omega
   ·have:=hbd y hy;omega
  have hla:=Mp ls a c (-m);have hlb:=Mp (Cr ls a c (-m)) b c m;have HPT:Hid (G5 ls (a,b,c,m)=Cr (Cr ls a c (-m)) b c m):=rfl
  have HPO:Hid (Cj ls (a,b,c,m)=At (Cr (Cr ls a c (-m)) b c m)):=by rw [Hid,Cj,hL,hE];rfl
  obtain ⟨A1,hA1⟩:∃ A1,Cr ls a c (-m)=A1:=⟨_,rfl⟩;rw [hA1] at HB2 hla hlb HPT HPO;obtain ⟨A,hA⟩:∃ A,Cr A1 b c m=A:=⟨_,rfl⟩;rw [hA] at hlb HPT HPO;have HA1:Hid _:=hA1;have HA:Hid _:=hA;have HEO:Hid _:=hE
  have hAb:A.length≤402:=by omega
  have hA1b:A1.length≤401:=by omega
  clear hL hE hl1 hbd hla hlb hA1 hA
  have hwn:IntKind.i64.wrap (-m) = -m:=by simp [IntKind.wrap,IntKind.bits,IntKind.signed];omega
  go_enter func220,ntmps220
  go_upto_region 1 with fail
  rw [← HW.o];go_wp2_with fail
  refine HCL.o.mono ?_;rintro e w1 ⟨rfl,b1⟩;have P1:=HPW.o.below b1;have q1:=next bW b1;have HZ1:Hid (Ai w1 ao ls):=HZ.o.below b1;have k0:=P1.e0;have k1:=P1.e1;have k2:=P1.e2;have k3:=P1.e3
  have HCE:Hid (Calls prog 261 #[.agg #[.int .i64 a,.int .i64 b,.int .i64 c,.int .i64 m]] w1 fun e w'=>e=.returned (.bool true)∧BW w1 w'):=by
   have h:=Nf a b c m w1;rw [HEO.o] at h;exact h
  have HP1:Hid _:=P1;clear HCL b1 P1 l0;go_wp2_with fail
  refine HCE.o.mono ?_;rintro e w2 ⟨rfl,b2⟩;have P2:=HP1.o.below b2;have q2:=next q1 b2;have HZ2:Hid (Ai w2 ao ls):=HZ1.o.below b2;have j0:=P2.l0;have i0:=P2.e0;have i1:=P2.e1;have i2:=P2.e2;have i3:=P2.e3;have HP2:Hid _:=P2
  have H1:Hid (Calls prog 262 #[.slice ao ls.length cap,.int .i64 a,.int .i64 c,.int .i64 (-m)] w2.drew fun e w'=>∃ g cap',e=.returned (.slice g A1.length cap')∧w'.ownsRow w2.heap.size 113 3 (.slice g A1.length cap') A1.length (Ag A1)∧BW w2 w'):=by
   have h:=Tf ao cap ls a c (-m) w2.drew (HZ2.o.below (bR.drew)) hn (by omega) HB1.o
   rw [HA1.o] at h;refine h.mono ?_;rintro e w' ⟨g,k,rfl,o,bb⟩;exact ⟨g,k,rfl,o,(bR.drew).trans bb⟩
  have HK2:Hid (∀ (w3:World) (g3:Option Addr) (c3:Nat),w3.ownsRow w2.heap.size 113 3 (.slice g3 A1.length c3) A1.length (Ag A1)→BW w2 w3→Calls prog 262 #[.slice g3 A1.length c3,.int .i64 b,.int .i64 c,.int .i64 m] w3 fun e w'=>∃ g cap',e=.returned (.slice g A.length cap')∧w'.ownsRow w2.heap.size 113 3 (.slice g A.length cap') A.length (Ag A)∧BW w2 w'):=fun w3 g3 c3 o3 b3=>by
   have h:=Tf g3 c3 A1 b c m w3 (Df o3) (by omega) ⟨by omega,by omega⟩ HB2.o
   rw [HA.o] at h;refine h.mono ?_;rintro e w' ⟨g,k,rfl,o,bb⟩;exact ⟨g,k,rfl,Bi o b3.size,b3.trans (bb.mono b3.size)⟩
  clear HCE b2 P2 k0 k1 k2 k3 HB1 HB2;go_upto_region 3 with fail
  go_region_held3 (fun u=>u.cell? ⟨w.heap.size,0,none⟩=some (.slice ao ls.length cap)∧u.cell? ⟨w.heap.size+1,0,none⟩=some (.int .i64 a)∧u.cell? ⟨w.heap.size+1,1,none⟩=some (.int .i64 b)∧u.cell? ⟨w.heap.size+1,2,none⟩=some (.int .i64 c)∧u.cell? ⟨w.heap.size+1,3,none⟩=some (.int .i64 m)) (first | exact ⟨j0,i0,i1,i2,i3⟩ | exact ⟨(HP2.o.below b4).l0,(HP2.o.below b4).e0,(HP2.o.below b4).e1,(HP2.o.below b4).e2,(HP2.o.below b4).e3⟩ | exact ⟨(HP2.o.below b3).l0,(HP2.o.below b3).e0,(HP2.o.below b3).e1,(HP2.o.below b3).e2,(HP2.o.below b3).e3⟩) ((first
   | (go_at_call_of 262 (Value.int .i64 (-m));refine H1.o.mono ?_;rintro e w3 ⟨g3,c3,rfl,o3,b3⟩;have H2:Hid (Calls prog 262 #[.slice g3 A1.length c3,.int .i64 b,.int .i64 c,.int .i64 m] w3 fun e w'=>∃ g cap',e=.returned (.slice g A.length cap')∧w'.ownsRow w2.heap.size 113 3 (.slice g A.length cap') A.length (Ag A)∧BW w2 w'):=HK2.o w3 g3 c3 o3 b3;clear o3)
   | (go_at_call 262;refine H2.o.mono ?_;rintro e w4 ⟨g4,c4,rfl,o4,b4⟩;have HO4:Hid (w4.ownsRow w2.heap.size 113 3 (.slice g4 A.length c4) A.length (Ag A)):=o4;clear o4)))
  all_goals
   obtain ⟨u,hu⟩:∃ x,x=w4:=⟨_,rfl⟩;subst hu;have g:=g4;obtain ⟨g,hg⟩:∃ g,g=g4:=⟨_,rfl⟩;obtain ⟨k,hk⟩:∃ k,k=c4:=⟨_,rfl⟩;subst hg hk;have o5:=HO4.o;have b5:=b4;clear b4 HO4 H1 H2 HK2 b3;have P5:=HP2.o.below b5;have q5:=next q2 b5;have HO5:Hid (u.ownsRow w2.heap.size 113 3 (.slice g A.length k) A.length (Ag A)):=o5;obtain ⟨V,hV⟩:∃ V,V=u.alloc (.cells #[.slice g A.length k] 29):=⟨_,rfl⟩
   have bV:BW u V:=by rw [hV];go_grown
   have v0:V.cell? ⟨u.heap.size,0,none⟩=some (.slice g A.length k):=by rw [hV];simp
   have PV:=P5.below bV;have qV:=next q5 bV;have HOV:Hid (V.ownsRow w2.heap.size 113 3 (.slice g A.length k) A.length (Ag A)):=Av o5 bV;have HZV:Hid (Ai V ao ls):=(HZ2.o.below b5).below bV;have HPV:Hid _:=PV
   have HCL2:Hid (Calls prog 260 #[.agg #[.slice g A.length k]] V fun e w'=>e=.returned (.bool (At A))∧BW V w'):=Ik g k A V (Df HOV.o) (by omega)
   have hs2:w.heap.size+1+1<w2.heap.size:=HP2.o.sz;clear o5 b5 bV P5 PV q5 j0 i0 i1 i2 i3;go_upto_region 5 with fail
   rw [← hV];clear hV
   cases hLA:At A
   ·have hno:Cj ls (a,b,c,m)=false:=HPO.o.trans hLA
    have HNL:Hid _:=Hs hno;have HNO:Hid _:=hno;rw [hLA] at HCL2;clear hno hLA;go_wp2_with fail
    refine HCL2.o.mono ?_;rintro e w6 ⟨rfl,b6⟩;have P6:=HPV.o.below b6;have q6:=next qV b6;have HZ6:Hid (Ai w6 ao ls):=HZV.o.below b6;have j0:=P6.l0;have HP6:Hid _:=P6;clear HCL2 b6 P6 v0;go_wp2_with fail
    refine (Hh ao cap ls w6 HZ6.o (by omega)).mono ?_
    rintro e w7 ⟨g7,c7,rfl,o7,b7⟩;have P7:=HP6.o.below b7;have r0:=P7.r0;have rf:=P7.rf;have HE:Hid _:=Gd (w:=w) (ok:=false) HNL.o o7 HP6.o.sz (next q6 b7);clear o7 b7 P7 j0;go_wp2
    refine bodyPost_ret (by simp [results,results220,go_sem,r0];try rfl) rfl ?_
    rw [HNO.o];exact HE.o
   ·have hyes:Cj ls (a,b,c,m)=true:=HPO.o.trans hLA
    have HNL:Hid (Gg ls (a,b,c,m)=A):=(N9 hyes).trans HPT.o;have HNO:Hid _:=hyes;rw [hLA] at HCL2;clear hyes hLA;go_wp2_with fail
    refine HCL2.o.mono ?_;rintro e w6 ⟨rfl,b6⟩;have P6:=HPV.o.below b6;have q6:=next qV b6;have v6:=(b6.cell (p:=⟨u.heap.size,0,none⟩) (World.block_lt_of_cell? V _ v0)).trans v0;have r0:=P6.r0;have rf:=P6.rf;have HE:Hid _:=Gd (w:=w) (ok:=true) HNL.o (Av HOV.o b6) hs2 q6;clear HCL2 b6 P6 v0;go_wp2
    refine bodyPost_ret (by simp [results,results220,go_sem,r0];try rfl) rfl ?_
    rw [HNO.o];exact HE.o
def Hv (ls:List Ln) (es:List En):List Ln:=(Ch ls es).getD ls
def allOk (ls:List Ln) (es:List En):Bool:=(Ch ls es).isSome
theorem Rb (cQ:List Ln) (es:List En) (k:Nat) (h:k<es.length):Ch cQ (es.drop k)=if Cj cQ (I4 es k)=true then Ch (G5 cQ (I4 es k)) (es.drop (k+1)) else none:=by
 rw [List.drop_eq_getElem_cons h,← bI h];rfl
theorem Te (cQ:List Ln) (es:List En):Ch cQ (es.drop es.length)=some cQ:=by
 rw [List.drop_of_length_le nL];rfl
theorem Cq {x:Int} (h:-1000000000000≤x∧x≤1000000000000):Bf x:=WalkArith.wf_i64 (by omega)
theorem Vm {ls:List Ln} (h:At ls=true):∀ x ∈ ls,Hw x:=by
 intro x hx;obtain ⟨h1,h2,h3,_⟩:=Ig (Dv (Dq h).1 x hx)
 refine ⟨Cq (by omega),Cq ?_,Cq h3⟩
 have:=U2 h2
 simp [Gi] at this
 omega
theorem N1 {ls:List Ln} {e:En} (h:Cj ls e=true):Gg ls e=G5 ls e∧At (G5 ls e)=true:=by
 refine ⟨N9 h,?_⟩
 simp only [Cj,Bool.and_eq_true] at h
 exact h.2
structure PA (s B:Nat) (ao:Option Addr) (cap n:Nat) (cQ:List Ln) (a2:Option Addr) (k2:Nat) (u:World):Prop where
 l0:u.cell? ⟨s,0,none⟩=some (.slice ao n cap)
 r0:u.cell? ⟨s+1,0,none⟩=some (.slice none 0 0)
 rf:u.frozen? ⟨s+1,0,none⟩=false
 c6:u.cell? ⟨B,0,none⟩=some (.slice a2 cQ.length k2)
 f6:u.frozen? ⟨B,0,none⟩=false
 own:u.ownsRow (s+2) 113 3 (.slice a2 cQ.length k2) cQ.length (Ag cQ)
 ne:∀ g,(Value.slice a2 cQ.length k2).ownBlock=some g→g≠B
 hB:s+2≤B
theorem PA.below {s B:Nat} {ao:Option Addr} {cap n:Nat} {cQ:List Ln} {a2:Option Addr} {k2:Nat} {u u':World} (h:PA s B ao cap n cQ a2 k2 u) (b:BW u u'):PA s B ao cap n cQ a2 k2 u':=by
 have h0:s<u.heap.size:=World.block_lt_of_cell? u _ h.l0;have h1:s+1<u.heap.size:=World.block_lt_of_cell? u _ h.r0;have h2:B<u.heap.size:=World.block_lt_of_cell? u _ h.c6;exact ⟨(b.cell (p:=⟨s,0,none⟩) h0).trans h.l0,(b.cell (p:=⟨s+1,0,none⟩) h1).trans h.r0,(b.frozen (p:=⟨s+1,0,none⟩) h1).trans h.rf,(b.cell (p:=⟨B,0,none⟩) h2).trans h.c6,(b.frozen (p:=⟨B,0,none⟩) h2).trans h.f6,Av h.own b,h.ne,h.hB⟩
theorem PA.put {s B base:Nat} {ao:Option Addr} {cap n:Nat} {cQ nxt:List Ln} {a2 a3:Option Addr} {k2 k3:Nat} {u:World} (h:PA s B ao cap n cQ a2 k2 u) (o:u.ownsRow base 113 3 (.slice a3 nxt.length k3) nxt.length (Ag nxt)) (hb:B<base) :
  PA s B ao cap n nxt a3 k3 (u.setCell ⟨B,0,none⟩ (.slice a3 nxt.length k3)):=by
 have hs:=h.hB
 have hne:∀ g,(Value.slice a3 nxt.length k3).ownBlock=some g→g≠B:=fun g hg=>by have:=(o.lt g hg).1;omega
 refine ⟨?_,?_,?_,by simp [go_sem,h.c6],?_,Bi (A5 o _ _ hne) (by omega),hne,hs⟩
 ·rw [World.cell?_setCell_far _ _ _ _ (by simp;omega)];exact h.l0
 ·rw [World.cell?_setCell_far _ _ _ _ (by simp;omega)];exact h.r0
 ·simp [go_sem,h.rf]
 ·simp [go_sem,h.f6]
theorem Vv {w w1:World} {ao a1:Option Addr} {cap k1 n:Nat} {ls:List Ln} {t:TypeId} (l0:w1.cell? ⟨w.heap.size,0,none⟩=some (.slice ao n cap)) (r0:w1.cell? ⟨w.heap.size+1,0,none⟩=some (.slice none 0 0)) (rf:w1.frozen? ⟨w.heap.size+1,0,none⟩=false)
  (o:w1.ownsRow (w.heap.size+2) 113 3 (.slice a1 ls.length k1) ls.length (Ag ls)):PA w.heap.size w1.heap.size ao cap n ls a1 k1 (w1.alloc (.cells #[.slice a1 ls.length k1] t)):=by
 have b:Below w1.heap.size w1 (w1.alloc (.cells #[.slice a1 ls.length k1] t)):=by go_grown
 have h0:w.heap.size<w1.heap.size:=World.block_lt_of_cell? w1 _ l0;have h1:w.heap.size+1<w1.heap.size:=World.block_lt_of_cell? w1 _ r0
 exact ⟨(b.cell (p:=⟨w.heap.size,0,none⟩) h0).trans l0,(b.cell (p:=⟨w.heap.size+1,0,none⟩) h1).trans r0,(b.frozen (p:=⟨w.heap.size+1,0,none⟩) h1).trans rf,by simp,by simp [go_sem],Av o b,fun g hg=>by have:=(o.lt g hg).2;omega,by omega⟩
theorem Pq {w u:World} {gs cQ:List Ln} {ok:Bool} {ao:Option Addr} {cap base:Nat} (hg:gs=cQ) (ho:u.ownsRow base 113 3 (.slice ao cQ.length cap) cQ.length (Ag cQ)) (hb:w.heap.size+1<base) (bel:BW w u) :
  Jl w gs ok (.returned (.tuple #[.agg #[.slice ao cQ.length cap],.bool ok])) (u.setCell ⟨w.heap.size+1,0,none⟩ (.slice ao cQ.length cap)):=by
 subst hg
 exact ⟨ao,cap,rfl,Bi (A5 ho _ _ (fun g hg=>by have:=(ho.lt g hg).1;simp only;omega)) (by omega),bel.setCell (by show w.heap.size≤w.heap.size+1;omega) _⟩
structure ZB (W u:World) (ob:Option Nat) (K:World→Prop):Prop where
 bel:BW W u
 box:∀ B,ob=some B→W.heap.size≤B∧B<u.heap.size∧u.cell? ⟨B,0,none⟩=some (.slice none 0 0)∧u.frozen? ⟨B,0,none⟩=false
 kept:∀ v,BW u v→K v
theorem ZB.start {W:World} {K:World→Prop} (h:∀ v,BW W v→K v):ZB W W none K:=⟨bR,(fun B h=>by cases h),h⟩
theorem ZB.call {W u u':World} {ob:Option Nat} {K:World→Prop} (z:ZB W u ob K) (b:BW u u'):ZB W u' ob K :=
 ⟨next z.bel b,fun B h=>by
  obtain ⟨h1,h2,h3,h4⟩:=z.box B h
  exact ⟨h1,Nat.lt_of_lt_of_le h2 b.size,(b.cell (p:=⟨B,0,none⟩) h2).trans h3,(b.frozen (p:=⟨B,0,none⟩) h2).trans h4⟩,fun v hv=>z.kept v (b.trans (hv.mono b.size))⟩
theorem ZB.drew {W u:World} {ob:Option Nat} {K:World→Prop} (z:ZB W u ob K):ZB W u.drew ob K:=z.call (bR.drew)
theorem ZB.al {W u:World} {K:World→Prop} (z:ZB W u none K) (t:TypeId):ZB W (u.alloc (.cells #[.slice none 0 0] t)) (some u.heap.size) K:=by
 have b:Below u.heap.size u (u.alloc (.cells #[.slice none 0 0] t)):=by go_grown
 refine ⟨next z.bel b,fun B h=>?_,fun v hv=>z.kept v (b.trans (hv.mono b.size))⟩
 injection h with h
 subst h
 exact ⟨z.bel.size,by simp,by simp,by simp [go_sem]⟩
structure LB (W:World) (L:List Ln) (B:Nat) (ao:Option Addr) (cap:Nat) (u:World):Prop where
 c0:u.cell? ⟨B,0,none⟩=some (.slice ao L.length cap)
 own:u.ownsRow W.heap.size 113 3 (.slice ao L.length cap) L.length (Ag L)
 ge:W.heap.size≤B
 ne:∀ g,(Value.slice ao L.length cap).ownBlock=some g→g≠B
 bel:BW W u
theorem LB.new {W u u0:World} {L:List Ln} {ao:Option Addr} {cap:Nat} {ob:Option Nat} {K:World→Prop} {t:TypeId} (o:u.ownsRow u0.heap.size 113 3 (.slice ao L.length cap) L.length (Ag L)) (z0:ZB W u0 ob K) (z:ZB W u none K) :
  LB W L u.heap.size ao cap (u.alloc (.cells #[.slice ao L.length cap] t)):=by
 have b:Below u.heap.size u (u.alloc (.cells #[.slice ao L.length cap] t)):=by go_grown
 exact ⟨by simp,Bi (Av o b) z0.bel.size,z.bel.size,fun g hg=>by have:=(o.lt g hg).2;omega,next z.bel b⟩
theorem LB.set {W u u0:World} {L:List Ln} {B:Nat} {ao:Option Addr} {cap:Nat} {K:World→Prop} (o:u.ownsRow u0.heap.size 113 3 (.slice ao L.length cap) L.length (Ag L)) (z0:ZB W u0 (some B) K) (z:ZB W u (some B) K) :
  LB W L B ao cap (u.setCell ⟨B,0,none⟩ (.slice ao L.length cap)):=by
 obtain ⟨h1,h2,_,_⟩:=z0.box B rfl;obtain ⟨_,_,h3,_⟩:=z.box B rfl
 have hne:∀ g,(Value.slice ao L.length cap).ownBlock=some g→g≠B:=fun g hg=>by have:=(o.lt g hg).1;omega
 exact ⟨by simp [go_sem,h3],Bi (A5 o _ _ hne) z0.bel.size,h1,hne,z.bel.setCell h1 _⟩
def sY (W u:World) (ob:Option Nat) (K:World→Prop) (L:List Ln) (ok:Bool) (e:Ending) (u':World):Prop :=
 ∃ ao cap,e=.returned (.tuple #[.agg #[.slice ao L.length cap],.bool ok])∧u'.ownsRow u.heap.size 113 3 (.slice ao L.length cap) L.length (Ag L)∧ZB W u ob K∧ZB W u' ob K
theorem Xh {W u:World} {ob:Option Nat} {K:World→Prop} {f:FuncId} {args:Array Value} {L:List Ln} {ok:Bool} (z:ZB W u ob K) (h:Calls prog f args u (Jl u L ok)):Calls prog f args u (sY W u ob K L ok) :=
 h.mono fun _ _ ⟨ao,cap,he,ho,hb⟩=>⟨ao,cap,he,ho,z,z.call hb⟩
theorem ZB.now {W u:World} {ob:Option Nat} {K:World→Prop} (z:ZB W u ob K):K u:=z.kept u bR
theorem U3 (ao:Option Addr) (cap:Nat) (ls:List Ln) (eo:Option Addr) (ec:Nat) (es:List En) (w:World) (hz:Ai w ao ls) (hn:ls.length≤1048576) (hy:C8 w eo es) (hm:es.length≤1048576) :
  Calls prog 182 #[.agg #[.slice ao ls.length cap],.slice eo es.length ec] w (Jl w (Hv ls es) (allOk ls es)):=by
 obtain ⟨W,hW⟩:∃ W,W=(w.alloc (.cells #[.slice ao ls.length cap] 29)).alloc (.cells #[.slice none 0 0] 29):=⟨_,rfl⟩
 have bW:BW w W:=by rw [hW];go_grown
 have hWs:W.heap.size=w.heap.size+2:=by rw [hW];simp
 have l0:W.cell? ⟨w.heap.size,0,none⟩=some (.slice ao ls.length cap):=by rw [hW];simp [go_sem]
 have r0:W.cell? ⟨w.heap.size+1,0,none⟩=some (.slice none 0 0):=by rw [hW];simp [go_sem]
 have rf:W.frozen? ⟨w.heap.size+1,0,none⟩=false:=by rw [hW];simp [go_sem]
 have HL0:Hid _:=l0;have HR0:Hid _:=r0;have HRF:Hid _:=rf;have HZ:Hid (Ai w ao ls):=hz;have HY:Hid (C8 w eo es):=hy;have HBW:Hid (BW w W):=bW;have HWS:Hid _:=hWs;clear hz hy r0 rf bW hWs
 go_enter func182,ntmps182
 go_upto_region 1 with fail
 rw [← hW];clear hW;go_wp2_with fail
 refine (Hh ao cap ls W (HZ.o.below HBW.o) (by omega)).mono ?_
 rintro e w1 ⟨a1,k1,rfl,o1,b1⟩;have hws:=HWS.o
 have P1:PA w.heap.size w1.heap.size ao cap ls.length ls a1 k1 (w1.alloc (.cells #[.slice a1 ls.length k1] 29)):=Vv ((b1.cell (p:=⟨w.heap.size,0,none⟩) (by show w.heap.size<W.heap.size;omega)).trans HL0.o) ((b1.cell (p:=⟨w.heap.size+1,0,none⟩) (by show w.heap.size+1<W.heap.size;omega)).trans HR0.o) ((b1.frozen (p:=⟨w.heap.size+1,0,none⟩) (by show w.heap.size+1<W.heap.size;omega)).trans HRF.o) (Bi o1 (by omega))
 have q1:=next HBW.o b1;obtain ⟨V,hV⟩:∃ V,V=w1.alloc (.cells #[.slice a1 ls.length k1] 29):=⟨_,rfl⟩
 have qV:BW w V:=by rw [hV];exact q1.alloc q1.size _
 have HPV:Hid (PA w.heap.size w1.heap.size ao cap ls.length ls a1 k1 V):=by rw [Hid,hV];exact P1
 obtain ⟨B,hBe⟩:∃ B,B=w1.heap.size:=⟨_,rfl⟩;clear P1 q1 o1 b1 l0 hws;go_upto_region 2 with fail
 rw [← hV,← hBe];rw [← hBe] at HPV;clear hV hBe;go_wp2
 go_loopw [7] (fun i wr=>∃ (k:Nat) (cQ:List Ln) (a2:Option Addr) (k2:Nat),k≤es.length∧i=.int .i64 k∧Ch ls es=Ch cQ (es.drop k)∧PA w.heap.size B ao cap ls.length cQ a2 k2 wr∧cQ.length≤1048576∧BW w wr) (fun i _=>es.length - (intOf i).toNat)
 case atStart=>exact ⟨0,ls,a1,k1,Nat.zero_le _,rfl,rfl,HPV.o,hn,qV⟩
 case round =>
  obtain ⟨k,cQ,a2,k2,hk,rfl,hps,hpa,hcl,hbr⟩:=hrel;have HPA:Hid (PA w.heap.size B ao cap ls.length cQ a2 k2 wr):=hpa;have HPS:Hid (Ch ls es=Ch cQ (es.drop k)):=hps;clear hpa hps HPV qV
  by_cases hlt:k<es.length
  ·have hki:(k:Int)<(es.length:Int):=by omega
   obtain ⟨b,off,rfl,hb2,y1,y2,y3,y4⟩:=(HY.o.below hbr).at hlt;have hst:=Rb cQ es k hlt;obtain ⟨⟨a,a',c,m⟩,hx⟩:∃ x,I4 es k=x:=⟨_,rfl⟩;rw [hx] at y1 y2 y3 y4 hst
   simp only at y1 y2 y3 y4
   have HST:Hid _:=HPS.o.trans hst;have c6:=HPA.o.c6
   have HKP:Hid (∀ u,BW wr u→u.cell? ⟨B,0,none⟩=some (.slice a2 cQ.length k2)∧u.cell? ⟨b,off+k*4,none⟩=some (.int .i64 a)∧u.cell? ⟨b,off+k*4+1,none⟩=some (.int .i64 a')∧u.cell? ⟨b,off+k*4+2,none⟩=some (.int .i64 c)∧u.cell? ⟨b,off+k*4+3,none⟩=some (.int .i64 m)):=fun u hu =>
    ⟨(HPA.o.below hu).c6,(hu.cell (p:=⟨b,off+k*4,none⟩) hb2).trans y1,(hu.cell (p:=⟨b,off+k*4+1,none⟩) hb2).trans y2,(hu.cell (p:=⟨b,off+k*4+2,none⟩) hb2).trans y3,(hu.cell (p:=⟨b,off+k*4+3,none⟩) hb2).trans y4⟩
   have HSP:Hid (∀ u,Ai u a2 cQ→Calls prog 220 #[.agg #[.slice a2 cQ.length k2],.agg #[.int .i64 a,.int .i64 a',.int .i64 c,.int .i64 m]] u (Jl u (Gg cQ (a,a',c,m)) (Cj cQ (a,a',c,m)))):=fun u h=>eE a2 k2 cQ a a' c m u h hcl
   clear hst hx;go_upto_region 5 with fail
   have z:ZB wr wr none (fun v=>Ai v a2 cQ):=ZB.start (fun v hv=>(Df HPA.o.own).below hv)
   obtain ⟨nx,hnx⟩:∃ nx,Gg cQ (a,a',c,m)=nx:=⟨_,rfl⟩;obtain ⟨ok,hok⟩:∃ ok,Cj cQ (a,a',c,m)=ok:=⟨_,rfl⟩;rw [hnx,hok] at HSP;have HNX:Hid _:=hnx;have HOK:Hid _:=hok;clear hnx hok
   go_cut [8,9] (fun v8 v9 wc=>∃ B8 a8 k8,v8=.pointer (some ⟨B8,0,none⟩)∧v9=.bool ok∧LB wr nx B8 a8 k8 wc)
   case first =>
    go_region_held3 (fun u=>u.cell? ⟨B,0,none⟩=some (.slice a2 cQ.length k2)∧u.cell? ⟨b,off+k*4,none⟩=some (.int .i64 a)∧u.cell? ⟨b,off+k*4+1,none⟩=some (.int .i64 a')∧u.cell? ⟨b,off+k*4+2,none⟩=some (.int .i64 c)∧u.cell? ⟨b,off+k*4+3,none⟩=some (.int .i64 m)) (first | exact ⟨c6,y1,y2,y3,y4⟩ | exact HKP.o _ z.bel | exact HKP.o _ z.drew.bel | exact HKP.o _ (z.al _).bel | exact HKP.o _ (z.al _).drew.bel | exact HKP.o _ (z.drew.al _).bel | exact HKP.o _ (HF.o _).bel | exact HKP.o _ HF.o.bel) ((
     (go_at_call 220;(first | with_reducible refine (Xh z (HSP.o _ z.now)).mono ?_ | with_reducible refine (Xh z.drew (HSP.o _ z.drew.now)).mono ?_ | with_reducible refine (Xh (z.al _) (HSP.o _ (z.al _).now)).mono ?_ | with_reducible refine (Xh (z.al _).drew (HSP.o _ (z.al _).drew.now)).mono ?_ | with_reducible refine (Xh (z.drew.al _) (HSP.o _ (z.drew.al _).now)).mono ?_);rintro e v3 ⟨a3,k3,rfl,o3,z0,z⟩;(first | (have HF:Hid (∀ t,LB wr nx v3.heap.size a3 k3 (v3.alloc (.cells #[.slice a3 nx.length k3] t))):=(fun t=>LB.new o3 z0 z)) | (have HF:Hid _:=LB.set o3 z0 z;obtain ⟨_,_,n0,n1⟩:=z.box _ rfl));clear o3 z0)))
    all_goals
     go_wp2_with fail
     go_meet
     first
      | exact ⟨_,_,_,rfl,rfl,HF.o _⟩
      | exact ⟨_,_,_,rfl,rfl,HF.o⟩
   obtain ⟨B8,a3,k3,rfl,rfl,P8⟩:=hcut;obtain ⟨w2,hu⟩:∃ x,x=wc:=⟨_,rfl⟩;subst hu;have P3:=HPA.o.below P8.bel;have d6:=P3.c6;have f6:=P3.f6;have c8:=P8.c0;have q3:=next hbr P8.bel;have hBw:B<wr.heap.size:=World.block_lt_of_cell? wr _ HPA.o.c6;have HP4:Hid (PA w.heap.size B ao cap ls.length nx a3 k3 (w2.setCell ⟨B,0,none⟩ (.slice a3 nx.length k3))):=P3.put P8.own hBw;have hBs:=HPA.o.hB
   have q4:Below w.heap.size w (w2.setCell ⟨B,0,none⟩ (.slice a3 nx.length k3)):=q3.setCell (by show w.heap.size≤B;omega) _
   have HP3:Hid (PA w.heap.size B ao cap ls.length cQ a2 k2 w2):=P3;clear P3 P8 hBw hBs z c6 y1 y2 y3 y4 HKP HSP hbr;have hok:=HOK.o
   cases ok
   ·rw [hok] at HST
    have HNO:Hid (Ch ls es=none):=HST.o;clear HST hok;have l4:=HP3.o.l0;have HZX:Hid (Ai w2 ao ls):=HZ.o.below q3;clear d6 f6 q4 HP4 c8;go_wp2_with fail
    refine (Hh ao cap ls w2 HZX.o (by omega)).mono ?_
    rintro e w5 ⟨a5,k5,rfl,o5,b5⟩;have P5:=HP3.o.below b5;have r5:=P5.r0;have rf5:=P5.rf
    have HE:Hid (Jl w (Hv ls es) (allOk ls es) (.returned (.tuple #[.agg #[.slice a5 ls.length k5],.bool false])) (w5.setCell ⟨w.heap.size+1,0,none⟩ (.slice a5 ls.length k5))):=by
     have h1:allOk ls es=false:=by unfold allOk;rw [HNO.o];rfl
     have h2:Hv ls es=ls:=by unfold Hv;rw [HNO.o];rfl
     rw [Hid,h1];exact Pq (w:=w) h2 o5 (World.block_lt_of_cell? w2 _ HP3.o.r0) (next q3 b5)
    clear o5 b5 P5 l4;go_wp2
    refine bodyPost_ret (by simp [results,results182,go_sem,r5];try rfl) rfl ?_
    exact HE.o
   ·have hpo:=N1 hok
    rw [hok] at HST;rw [HNX.o] at hpo
    have HN:Hid (Ch ls es=Ch nx (es.drop (k+1))):=by rw [Hid,HST.o,hpo.1];rfl
    have HB2:Hid (nx.length≤1048576):=by
     rw [hpo.1,Hid]
     have:=(Dq hpo.2).2.1;omega
    clear HST hok hpo HNX HOK HP3 q3;go_wp2
    go_roundw
    case rel=>exact ⟨k+1,nx,a3,k3,by omega,by go_num,HN.o,HP4.o,HB2.o,q4⟩
    case measure=>simp [intOf];omega
  ·have hke:k=es.length:=by omega
   subst hke
   have hki:¬ (es.length:Int)<(es.length:Int):=by omega
   have hsome:Ch ls es=some cQ:=by rw [HPS.o,Te]
   have c6:=HPA.o.c6;have r0:=HPA.o.r0;have rf:=HPA.o.rf
   have HE:Hid (Jl w (Hv ls es) (allOk ls es) (.returned (.tuple #[.agg #[.slice a2 cQ.length k2],.bool true])) (wr.setCell ⟨w.heap.size+1,0,none⟩ (.slice a2 cQ.length k2))):=by
    have h1:allOk ls es=true:=by unfold allOk;rw [hsome];rfl
    have h2:Hv ls es=cQ:=by unfold Hv;rw [hsome];rfl
    rw [Hid,h1]
    exact Pq (w:=w) h2 HPA.o.own (by omega) hbr
   clear hsome HPS;go_wp2
   refine bodyPost_ret (by simp [results,results182,go_sem,r0];try rfl) rfl ?_
   exact HE.o
theorem Ua (w:World) (base:Nat) (ty:TypeId) (v:Value) (n:Nat) (xs:List Value) (hown:w.ownsRow base 294 2 v n xs) (gs c:Nat) (x:Cd) (h0:w.cell? ⟨gs,0,none⟩=some (.int .i64 x.1)) (h1:w.cell? ⟨gs,1,none⟩=some (.int .i64 x.2))
  (hn:n+1≤5000000) (hbase:base≤w.heap.size) :
  ∃ v' w',(Builtin.append_ #[291,291] ty #[v,.slice (some ⟨gs,0,none⟩) 1 c]).run prog w=.ok v' w'∧w'.ownsRow base 294 2 v' (n+1) (xs++Nj x)∧w.grownBy w' v.ownBlock:=by
 obtain ⟨i0,hi,hz0,hz1,hz2⟩:=info_parts iP
 have hnews:∀ j u,(Nj x)[j]?=some u→w.cell? ((⟨gs,0,none⟩:Addr).add j)=some u:=by
  intro j u hj
  have hlt:j<2:=by have:=(List.getElem?_eq_some_iff.1 hj).1;simpa [Nj] using this
  rcases (show j=0∨j=1 by omega) with rfl | rfl
  ·simp [Nj] at hj;subst hj;simpa [Addr.add] using h0
  ·simp [Nj] at hj;subst hj;simpa [Addr.add] using h1
 obtain ⟨v',w',h1,h2,h3,_⟩:=run_append_own_at (P:=prog) w base 291 ty 294 i0 _ 2 16 underlying291 hi hz0 hz1 hz2 rfl (by decide) v n xs hown ⟨gs,0,none⟩ 1 c (Nj x) rfl hnews (Yu [x]) (by unfold maxLen;omega) (by omega) hbase
 exact ⟨v',w',h1,h2,h3⟩
theorem Rs {ops:Array Oper} {o:Oper} {a:Act} {w:World} {K:Act→World→Prop} {Q:Exit→Act→World→Prop} {E:Prop} (hgd:o.guard=none) (s x:Operand)
  (ho:o.op=.call { callee:=.builtin .append,args:=#[s,x],argTypes:=#[291,291] }) (base:Nat) (v:Value) (n:Nat) (xs:List Value) (hs:a.eval s=v) (hown:w.ownsRow base 294 2 v n xs)
  (gs c:Nat) (y:Cd) (hx:a.eval x=.slice (some ⟨gs,0,none⟩) 1 c) (h0:w.cell? ⟨gs,0,none⟩=some (.int .i64 y.1)) (h1:w.cell? ⟨gs,1,none⟩=some (.int .i64 y.2)) (hn:n+1≤5000000) (hbase:base≤w.heap.size)
  (h:∀ v' w',w'.ownsRow base 294 2 v' (n+1) (xs++Nj y)→w.grownBy w' v.ownBlock→K (a.put o.dst v') w') :
  if Region.wanted o (yielded ops a.tmps)=true then Oper.wp prog o a w K Q else E:=by
 have hw:Region.wanted o (yielded ops a.tmps)=true:=by simp [Region.wanted,hgd]
 rw [if_pos hw];obtain ⟨v',w',hr,h1,h2⟩:=Ua w base o.type v n xs hown gs c y h0 h1 hn hbase;unfold Oper.wp execOp
 simp only [ho,resolve,invoke,builtin,Sem.run_bind,Sem.run_pure,Result.andThen_ok,List.map_toArray,List.map_cons,List.map_nil,hs,hx,hr]
 exact h v' w' h1 h2
theorem qJ {w:World} {base n:Nat} {v:Value} {xs:List Value} (h:w.ownsRow base 294 2 v (n+1) xs):∃ g cap,v=.slice (some ⟨g,0,none⟩) (n+1) cap:=by
 rcases h.2 with ⟨_,h0⟩ | ⟨g,c,cQ,rfl,_⟩
 ·omega
 ·exact ⟨g,c,rfl⟩
theorem iH {w:World} {base n size:Nat} {t:TypeId} {v:Value} {xs:List Value} (h:w.ownsRow base t size v n xs) (p:Addr) (u:Value) (hp:∀ g,v.ownBlock=some g→g≠p.block):(w.setCell p u).ownsRow base t size v n xs:=by
 obtain ⟨h1,h2⟩:=h;refine ⟨h1,?_⟩
 rcases h2 with h | ⟨g,cap,cQ,hv,hg,hh,a1,a2,a3,a4⟩
 ·exact .inl h
 ·exact .inr ⟨g,cap,cQ,hv,hg,(Below.heap_setCell w p u g (hp g (by rw [hv];rfl))).trans hh,a1,a2,a3,a4⟩
theorem taC (s p:Int) (W:World):(Instr.typeAssert (.iface 294 (.agg #[.int .i64 s,.int .i64 p])) 20 294 false).run prog W=.ok (.agg #[.int .i64 s,.int .i64 p]) W:=by kernel_rfl
theorem tH (s p:Int) (W:World):(Instr.typeAssert (.iface 294 (.agg #[.int .i64 s,.int .i64 p])) 20 294 true).run prog W=.ok (.tuple #[.agg #[.int .i64 s,.int .i64 p],.bool true]) W:=by kernel_rfl
theorem eV {w u:World} {H:List Cd} {ao:Option Addr} {cap:Nat} (h:HP none w H ao cap u) (s p:Int) (hn:H.length≤1000) :
  Calls prog 403 #[.pointer (some ⟨w.heap.size,0,none⟩),.iface 294 (.agg #[.int .i64 s,.int .i64 p])] u fun e u'=>e=.returned (.tuple #[])∧∃ g c,HP none w (H++[(s,p)]) (some ⟨g,0,none⟩) c u':=by
 have HH:Hid (HP none w H ao cap u):=h;have k0:=h.box;have f0:=h.fz;have hlt:=h.lt;have ta:=taC s p;clear h
 go_enter func403,ntmps403
 have k1:∀ o,(u.alloc o).cell? ⟨w.heap.size,0,none⟩=some (.slice ao H.length cap):=fun o=>by rw [World.cell?_alloc_lt _ _ _ hlt];exact k0
 go_region_law ((refine Rs rfl (.tmp 7) (.tmp 10) rfl (w.heap.size+1) (.slice ao H.length cap) H.length (Fj H) (by rfl) (pT HH.o.own (by go_grown)) u.heap.size 1 (s,p) (by rfl) (by simp [go_sem]) (by simp [go_sem]) (by omega) (by simp;omega) ?_;intro v5 w5 o5 g5;obtain ⟨h5,k5,rfl⟩:=qJ o5;have c5:w5.cell? ⟨w.heap.size,0,none⟩=some (.slice ao H.length cap):=(g5.cell_far ⟨w.heap.size,0,none⟩ (by simp;omega) HH.o.apart).trans (by simp [go_sem,World.cell?_alloc_some,k0]);have z5:w5.frozen? ⟨w.heap.size,0,none⟩=false:=(g5.frozen_far ⟨w.heap.size,0,none⟩ (by simp;omega) HH.o.apart).trans (by have:=((Below.refl u.heap.size u).alloc nL (.cells #[.int .i64 s,.int .i64 p] 294)).frozen (p:=⟨w.heap.size,0,none⟩) hlt;simpa [f0] using this)))
 all_goals
  have HO:Hid (w5.ownsRow (w.heap.size+1) 294 2 (.slice (some ⟨h5,0,none⟩) (H++[(s,p)]).length k5) (H++[(s,p)]).length (Fj (H++[(s,p)]))):=by rw [Hid,List.length_append,Sa];exact o5
  have HB:Hid (BW w w5):=Below.grown (HP.below HH.o (by go_grown)).bel g5 (by simp;omega) (fun j hj=>by have:=(HH.o.own.lt j hj).1;omega)
  have hh5:=(o5.lt h5 rfl).1;clear o5 g5;go_wp2;go_end0
  refine ⟨rfl,h5,k5,HB.o.setCell nL _,?_,by simp [z5],?_,fun _ _ e=>by cases e⟩
  ·rw [List.length_append];exact World.cell?_setCell_same w5 ⟨w.heap.size,0,none⟩ _ c5
  ·exact iH HO.o ⟨w.heap.size,0,none⟩ _ (fun x hx=>by have e:h5=x:=Option.some.inj hx;show x≠w.heap.size;omega)
theorem qX:prog.underlying 291=some (.slice (prog.elem 291)):=by
 have e:prog.elem 291=294:=by simp [Program.elem,underlying291]
 rw [e];exact underlying291
theorem sJ:prog.elem 291=294:=by simp [Program.elem,underlying291]
theorem rX (w:World):(sizeOf 294).run prog w=.ok 2 w:=by
 obtain ⟨i0,hi,hz0,hz1,hz2⟩:=info_parts iP
 simp [sizeOf,typeInfo,hi,hz1]
theorem qE {g n c s:Nat} (hs:s≤c) (W:World):(Instr.slice 291 (.slice (some ⟨g,0,none⟩) n c) none (some (.int .i64 s)) none).run prog W=.ok (.slice (some ⟨g,0,none⟩) s c) W:=by
 rw [run_slice_h W _ _ _ _ qX .i64 _ (by omega) (by omega),sJ,rX]
 simp [Result.andThen,sliced,Addr.add]
theorem HP.cap {q:Option (Nat×Obj)} {w u:World} {H:List Cd} {g cap:Nat} (h:HP q w H (some ⟨g,0,none⟩) cap u):H.length≤cap:=by
 rcases h.own.2 with ⟨hv,_⟩ | ⟨g',c,cQ,hv,_,_,hc,_⟩
 ·cases hv
 ·obtain ⟨rfl,rfl⟩:g=g'∧cap=c:=by simpa using hv
  exact hc
theorem kA {q:Option (Nat×Obj)} {w u:World} {H:List Cd} {g cap:Nat} (h:HP q w H (some ⟨g,0,none⟩) cap u) (m:Nat) (hm:H.length=m+1) (hn:H.length≤1000) :
  Calls prog 402 #[.pointer (some ⟨w.heap.size,0,none⟩)] u fun e u'=>e=.returned (.iface 294 (.agg #[.int .i64 (Bc H m).1,.int .i64 (Bc H m).2]))∧BW w u'∧∀ x o,q=some (x,o)→u'.heap[x]?=some o:=by
 have HK:Hid (∀ x o,q=some (x,o)→u.heap[x]?=some o∧w.heap.size<x):=fun x o e=>⟨(h.kp x o e).1,(h.kp x o e).2.1⟩
 have HB:Hid (BW w u):=h.bel;have k0:=h.box;have f0:=h.fz;have hlt:=h.lt
 obtain ⟨k1,k2⟩:=h.at (k:=m) (by omega)
 have hcap:=h.cap
 have hgu:=h.row (by omega)
 obtain ⟨g',e,hg1,hg2⟩:=hgu
 obtain rfl:g=g':=by simpa using e
 obtain ⟨⟨a,b⟩,hab⟩:∃ x,Bc H m=x:=⟨_,rfl⟩;rw [hab] at k1 k2 ⊢
 simp only at k1 k2 ⊢
 rw [hm] at k0 hcap hn
 have hsl:=qE (g:=g) (n:=m+1) (c:=cap) (s:=m) (by omega)
 clear hab h e
 go_enter func402,ntmps402
 go_upto_region 3 with fail
 obtain ⟨W,hW⟩:∃ W,u.alloc (.cells #[.int .i64 a,.int .i64 b] 294)=W:=⟨_,rfl⟩
 have j0:W.cell? ⟨u.heap.size,0,none⟩=some (.int .i64 a):=by rw [← hW];simp
 have j1:W.cell? ⟨u.heap.size,1,none⟩=some (.int .i64 b):=by rw [← hW];simp
 have j2:W.cell? ⟨w.heap.size,0,none⟩=some (.slice (some ⟨g,0,none⟩) (m+1) cap):=by rw [← hW,World.cell?_alloc_lt _ _ _ hlt];exact k0
 have j3:W.frozen? ⟨w.heap.size,0,none⟩=false:=by rw [← hW];have:=((Below.refl u.heap.size u).alloc nL (.cells #[.int .i64 a,.int .i64 b] 294)).frozen (p:=⟨w.heap.size,0,none⟩) hlt;rw [this];exact f0
 have HKW:Hid (∀ x o,q=some (x,o)→W.heap[x]?=some o∧w.heap.size<x):=fun x o e=>by
  obtain ⟨h1,h2⟩:=HK.o x o e;refine ⟨?_,h2⟩;rw [← hW];exact (((Below.refl u.heap.size u).alloc nL _).block x (Array.getElem?_eq_some_iff.1 h1).1).trans h1
 have HBW:Hid (BW w W):=by rw [Hid,← hW];exact HB.o.alloc HB.o.size _
 rw [hW]
 have hne:¬ w.heap.size=u.heap.size:=by omega
 have hne2:¬ u.heap.size=w.heap.size:=by omega
 clear hW k0 f0 k1 k2;go_wp2;go_ret
 refine ⟨rfl,HBW.o.setCell nL _,fun x o e=>?_⟩
 obtain ⟨h1,h2⟩:=HKW.o x o e
 rw [Below.heap_setCell _ _ _ _ (fun e=>by have e:x=w.heap.size:=e;omega)]
 exact h1
def iC (w:World):Value:=.iface 322 (.pointer (some ⟨w.heap.size,0,none⟩))
theorem Mv (ao:Option Addr) (n cap:Nat) (u:World):Calls prog 282 #[.slice ao n cap] u fun e u'=>e=.returned (.int .i64 n)∧u'=u:=by
 go_enter func282,ntmps282
 go_wp2;go_ret;exact ⟨rfl,rfl⟩
theorem fU {H:List Cd} {j:Nat} (h:Qr H j) (h0:0<j) (hj:j<H.length) (hl:Li (Bc H j) (Bc H (Lp j))=true):Qr (Cu H (Lp j) j) (Lp j):=by
 unfold Qr;have hp:=J0 h0
 rw [gP (show Lp j<H.length by omega) hj,Hc]
 exact dR h h0 hj hl
theorem qI {w u:World} {H:List Cd} {g cap:Nat} (h:HP none w H (some ⟨g,0,none⟩) cap u) (j:Nat) (hj:j<H.length) (hn:H.length≤1000) (hnear:Qr H j) :
  Calls prog 310 #[iC w,.int .i64 j] u fun e u'=>e=.returned (.tuple #[])∧∃ G,HP none w G (some ⟨g,0,none⟩) cap u'∧F1 G∧Fv H G:=by
 have HH:Hid (HP none w H (some ⟨g,0,none⟩) cap u):=h;have HN:Hid (Qr H j):=hnear;clear h hnear;unfold iC
 go_enter func310,ntmps310
 go_wp2
 go_loopw [1,4] (fun v _ wr=>∃ (k:Nat) (G:List Cd),k≤j∧v=.int .i64 k∧HP none w G (some ⟨g,0,none⟩) cap wr∧Qr G k∧Fv H G) (fun v _ _=>(intOf v).toNat)
 case atStart=>exact ⟨j,H,nL,rfl,HH.o,HN.o,Fv.refl H⟩
 case round =>
  obtain ⟨k,G,hk,rfl,hp,hne,hs⟩:=hrel;have HGL:Hid (G.length=H.length):=hs.1
  have hkG:k<G.length:=by have:=HGL.o;omega
  have HP0:Hid (HP none w G (some ⟨g,0,none⟩) cap wr):=hp;have HNE:Hid (Qr G k):=hne;have HS:Hid (Fv H G):=hs;have hbox:=hp.box;have hml:=Fk hbox;have hms:=Iv hbox;clear HH HN hp hne hs
  by_cases hk0:k=0
  ·subst hk0
   have hq:(-1:Int).tdiv 2=0:=by decide
   go_wp2;go_end0;exact ⟨rfl,G,HP0.o,Tt HNE.o (.inl rfl),HS.o⟩
  ·have hq:((k:Int) - 1).tdiv 2=((Lp k:Nat):Int):=by
     unfold Lp
     rw [Int.tdiv_eq_ediv_of_nonneg (by omega)]
     omega
   have hpk:=J0 (show 0<k by omega)
   obtain ⟨p,hpe⟩:∃ p,Lp k=p:=⟨_,rfl⟩
   have HSW:Hid (Li (Bc G k) (Bc G (Lp k))=true→Qr (Cu G (Lp k) k) (Lp k)):=fun hl=>fU HNE.o (by omega) hkG hl
   have HDN:Hid (Li (Bc G k) (Bc G (Lp k))=false→F1 G):=fun hl=>Tt HNE.o (.inr hl)
   rw [hpe] at hq hpk HSW HDN
   have hneq:((p:Int) == (k:Int))=false:=by simp;omega
   have hkk:(0:Int)<(k:Int):=by omega
   clear hpe
   cases hl:Li (Bc G k) (Bc G p)
   ·have HL:Hid (∀ v,HP none w G (some ⟨g,0,none⟩) cap v→Calls prog 400 #[.slice (some ⟨g,0,none⟩) G.length cap,.int .i64 k,.int .i64 p] v fun e u'=>e=.returned (.bool false)∧BW v u'):=fun v hv=>by rw [← hl];exact Dk hv k p hkG (by omega)
    have HIS:Hid (F1 G):=HDN.o hl;go_wp2_with fail
    refine (HL.o _ HP0.o).mono ?_;rintro e u2 ⟨rfl,b2⟩;have HP2:Hid (HP none w G (some ⟨g,0,none⟩) cap u2):=HP0.o.below b2;clear b2;go_wp2;go_end0;exact ⟨rfl,G,HP2.o,HIS.o,HS.o⟩
   ·have HL:Hid (∀ v,HP none w G (some ⟨g,0,none⟩) cap v→Calls prog 400 #[.slice (some ⟨g,0,none⟩) G.length cap,.int .i64 k,.int .i64 p] v fun e u'=>e=.returned (.bool true)∧BW v u'):=fun v hv=>by rw [← hl];exact Dk hv k p hkG (by omega)
    have HSG:Hid (Qr (Cu G p k) p):=HSW.o hl
    have HSS:Hid (Fv H (Cu G p k)):=HS.o.trans (gQ (by omega) hkG)
    go_wp2_with fail
    refine (HL.o _ HP0.o).mono ?_;rintro e u2 ⟨rfl,b2⟩;have hp2:=HP0.o.below b2;have HP2:Hid (HP none w G (some ⟨g,0,none⟩) cap u2):=hp2;have hms2:=Iv hp2.box;clear b2 hms hml hp2;go_wp2_with fail
    refine (Ke HP2.o p k hpk hkG).mono ?_;rintro e u3 ⟨rfl,hp3⟩;have HP3:Hid (HP none w (Cu G p k) (some ⟨g,0,none⟩) cap u3):=hp3;clear hp3;go_wp2
    go_roundw
    case rel=>exact ⟨p,Cu G p k,by omega,rfl,HP3.o,HSG.o,HSS.o⟩
    case measure=>simp [intOf];omega
theorem eL (g:Nat) (ao:Option Addr) (cap:Nat) (ls:List Ln) (w:World) (hc:w.cell? ⟨g,0,none⟩=some (.slice ao ls.length cap)) (hz:Ai w ao ls) (hn:ls.length≤1048577) :
  Calls prog 155 #[.slice (some ⟨g,0,none⟩) 1 1] w fun e w'=>∃ a2 k2,e=.returned (.slice a2 ls.length k2) ∧
   w'.ownsRow w.heap.size 113 3 (.slice a2 ls.length k2) ls.length (Ag ls)∧BW w w':=by
 have HZ:Hid (Ai w ao ls):=hz;clear hz
 go_enter func155,ntmps155
 go_wp2;refine wp_loop_rounds 2 ?_;rw [rounds_succ]
 go_wp2_with (at_builtin;refine Gp _ rfl (.tmp 12) (.tmp 13) rfl w.heap.size _ 0 [] rfl (World.ownsRow_nil _ _ _ _) ao cap ls rfl HZ.o (by omega) nL ?_;intro v2 w2 o2 g2)
 have q2:BW w w2:=bR.grown g2 nL (fun k hk=>by cases hk)
 rw [Nat.zero_add,List.nil_append] at o2;obtain ⟨a2,k2,hv2,-,-⟩:=Ef o2;subst hv2;have HO2:Hid (w2.ownsRow w.heap.size 113 3 (.slice a2 ls.length k2) ls.length (Ag ls)):=o2;clear o2 g2 HZ hc;go_wp2;rw [rounds_succ];go_wp2;go_ret;exact ⟨a2,k2,rfl,HO2.o,q2⟩
theorem Hg (ao:Option Addr) (cap:Nat) (ls:List Ln) (w:World) (hz:Ai w ao ls) (hn:ls.length≤1048577) :
  Calls prog 109 #[.agg #[.slice ao ls.length cap]] w (rG w ls):=by
 obtain ⟨W,hW⟩:∃ W,W=((w.alloc (.cells #[.slice ao ls.length cap] 29)).alloc (.cells #[.slice none 0 0] 29)).alloc (.cells #[.slice ao ls.length cap] 27):=⟨_,rfl⟩
 have hWs:W.heap.size=w.heap.size+3:=by rw [hW];simp
 have bW:BW w W:=by rw [hW];go_grown
 have HZ:Hid (Ai W ao ls):=hz.below bW
 have c1:W.cell? ⟨w.heap.size+1,0,none⟩=some (.slice none 0 0):=by rw [hW];simp [go_sem]
 have c2:W.cell? ⟨w.heap.size+1+1,0,none⟩=some (.slice ao ls.length cap):=by rw [hW];simp [go_sem]
 have z1:W.frozen? ⟨w.heap.size+1,0,none⟩=false:=by rw [hW];simp [go_sem]
 have HC1:Hid _:=c1;have HZ1:Hid _:=z1;have HBW:Hid _:=bW;have HWS:Hid _:=hWs;have HW:Hid _:=hW;clear hz c1 z1 bW hWs hW
 go_enter func109,ntmps109
 go_wp2_with fail
 rw [← HW.o];refine (eL (w.heap.size+1+1) ao cap ls W c2 HZ.o hn).mono ?_;rintro e w2 ⟨a2,k2,rfl,o2,b2⟩
 have d1:=(b2.cell (p:=⟨w.heap.size+1,0,none⟩) (by have:=HWS.o;show w.heap.size+1<W.heap.size;omega)).trans HC1.o
 have e1:=(b2.frozen (p:=⟨w.heap.size+1,0,none⟩) (by have:=HWS.o;show w.heap.size+1<W.heap.size;omega)).trans HZ1.o
 have HO2:Hid (w2.ownsRow W.heap.size 113 3 (.slice a2 ls.length k2) ls.length (Ag ls)):=o2;have HB2:Hid (BW w w2):=next HBW.o b2;clear o2 b2 c2;go_wp2
 refine bodyPost_ret (by simp [results,results109,go_sem,d1];try rfl) rfl ?_
 refine ⟨a2,k2,rfl,?_,HB2.o.setCell (by show w.heap.size≤w.heap.size+1;omega) _⟩
 have hs:=HWS.o
 exact Bi (A5 HO2.o _ _ (fun g hg=>by have:=(HO2.o.lt g hg).1;simp only;omega)) (by omega)
theorem Nr (a b c x y z:Int) (w:World) :
  Calls prog 94 #[.agg #[.int .i64 a,.int .i64 b,.int .i64 c],.agg #[.int .i64 x,.int .i64 y,.int .i64 z]] w fun e w'=>e=.returned (.int .i64 (Qh (a,b,c) (x,y,z)))∧∃ q os,w'=Go.Sort.grow (w.drewN q) os:=by
 obtain ⟨p,hp⟩:∃ p,Qm a x=p:=⟨_,rfl⟩;obtain ⟨r,hr⟩:∃ r,Qm b y=r:=⟨_,rfl⟩
 have HE:Hid (Qh (a,b,c) (x,y,z)=oL p r):=by rw [Hid,← hp,← hr];rfl
 have HP:Hid (∀ w,Calls prog 151 #[.int .i64 a,.int .i64 x] w fun e w'=>e=.returned (.int .i64 p)∧w'=w):=fun w=>by rw [← hp];exact O8 _ _ _
 have HR:Hid (∀ w,Calls prog 151 #[.int .i64 b,.int .i64 y] w fun e w'=>e=.returned (.int .i64 r)∧w'=w):=fun w=>by rw [← hr];exact O8 _ _ _
 clear hp hr;obtain ⟨W,hW⟩:∃ W,W=(w.alloc (.cells #[.int .i64 a,.int .i64 b,.int .i64 c] 113)).alloc (.cells #[.int .i64 x,.int .i64 y,.int .i64 z] 113):=⟨_,rfl⟩
 have k0:W.cell? ⟨w.heap.size,0,none⟩=some (.int .i64 a):=by rw [hW];simp [go_sem]
 have k1:W.cell? ⟨w.heap.size,1,none⟩=some (.int .i64 b):=by rw [hW];simp [go_sem]
 have k2:W.cell? ⟨w.heap.size+1,0,none⟩=some (.int .i64 x):=by rw [hW];simp [go_sem]
 have k3:W.cell? ⟨w.heap.size+1,1,none⟩=some (.int .i64 y):=by rw [hW];simp [go_sem]
 have HWE:Hid _:=hW
 go_enter func94,ntmps94
 go_wp2;rw [← hW];clear hW
 go_region_held3 (fun w'=>w'.cell? ⟨w.heap.size,0,none⟩=some (.int .i64 a)∧w'.cell? ⟨w.heap.size,1,none⟩=some (.int .i64 b)∧w'.cell? ⟨w.heap.size+1,0,none⟩=some (.int .i64 x)∧w'.cell? ⟨w.heap.size+1,1,none⟩=some (.int .i64 y)) (first | exact ⟨k0,k1,k2,k3⟩ | (simp [go_sem,World.cell?_alloc_some,k0,k1,k2,k3];done)) ((first
  | (go_at_call_of 151 (Value.int .i64 x);refine (HP.o _).mono ?_;rintro e w' ⟨rfl,rfl⟩)
  | (go_at_call_of 151 (Value.int .i64 y);refine (HR.o _).mono ?_;rintro e w' ⟨rfl,rfl⟩)
  | (go_at_call 150;refine (rE _ p r _ ?_ ?_).mono ?_;simp [go_sem];simp [go_sem];rintro e w' ⟨rfl,rfl⟩)))
 all_goals
  go_wp2;go_ret;refine ⟨Af HE.o.symm,1,#[.cells #[.int .i64 a,.int .i64 b,.int .i64 c] 113,.cells #[.int .i64 x,.int .i64 y,.int .i64 z] 113,.cells #[.int .i64 p,.int .i64 r] 3],?_⟩;rw [HWE.o]
  rfl
end Go.Proofs.YtomiclakhjncbaaGreatDoor
namespace Go.Proofs.YtomiclakhjncbaaGreatDoor
open Go.RowKit Go.Sort Go.Shelf Go.Lib Go.Proofs.Tryz
theorem Ot (ls:List Ln):flatK Lm 3 ls.toArray=(Ag ls).toArray:=by
 apply ext_get!
 ·simp [Cn]
 ·intro t ht
  simp only [size_flatK,List.size_toArray] at ht
  rw [get_flatK _ _ _ _ (by simpa using ht)]
  have hq:t / 3<ls.length:=by omega
  have hx:ls.toArray[t / 3]! = Cg ls (t / 3):=by simp [Cg,List.getD_eq_getElem?_getD,hq]
  have h:=Hj ls (t / 3) hq;rw [hx]
  have hg:(Ag ls).toArray[t]! = ((Ag ls)[t]?).getD default:=by simp
  rw [hg]
  rcases (show t % 3=0∨t % 3=1∨t % 3=2 by omega) with e | e | e
  ·rw [e,show t=t / 3*3 by omega,h.1,show (t / 3*3) / 3=t / 3 by omega];rfl
  ·rw [e,show t=t / 3*3+1 by omega,h.2.1,show (t / 3*3+1) / 3=t / 3 by omega];rfl
  ·rw [e,show t=t / 3*3+2 by omega,h.2.2,show (t / 3*3+2) / 3=t / 3 by omega];rfl
theorem gT {w:World} {base n cap g:Nat} {t:TypeId} {ls:List Ln} (h:w.ownsRow base t 3 (.slice (some ⟨g,0,none⟩) n cap) n (Ag ls)):HoldsK Lm 3 w g 0 ls.toArray:=by
 have hn:n=ls.length:=by have:=h.1;rw [Cn] at this;omega
 intro j hj;rw [Ot] at hj ⊢
 simp only [List.size_toArray,Cn] at hj
 refine ⟨?_,h.frozenAt _⟩
 rw [Nat.zero_add,h.cellAt j (by omega)]
 have:j<(Ag ls).length:=by rw [Cn];omega
 simp [getElem!_pos,this]
theorem Zf {w:World} {base n cap g m:Nat} {t:TypeId} {ls ds:List Ln} {os:Array Obj} (h:w.ownsRow base t 3 (.slice (some ⟨g,0,none⟩) n cap) n (Ag ls)) (hl:ds.length=ls.length) :
  (sortWorldK Lm 3 w g 0 m ds.toArray os).ownsRow base t 3 (.slice (some ⟨g,0,none⟩) n cap) n (Ag ds):=by
 have hn:n=ls.length:=by have:=h.1;rw [Cn] at this;omega
 have hlt:g<w.heap.size:=(h.lt g rfl).2
 rcases h.2 with ⟨e0,_⟩ | ⟨g',cap',cQ,e0,hb,hg,hnc,hm,hs,ht⟩
 ·cases e0
 ·injection e0 with e1 _ e3
  injection e1 with e1
  injection e1 with e1
  subst e1;subst e3
  refine ⟨by rw [Cn];omega,.inr ⟨g,cap,putCells id 0 (Ag ds).toArray cQ,rfl,hb,?_,hnc,hm,by simpa [putCells] using hs,?_⟩⟩
  ·unfold sortWorldK putRowK
   rw [Ot]
   have e1:((w.heap.modify g (onCells (putCells id 0 (Ag ds).toArray)))++os)[g]?=some (.cells (putCells id 0 (Ag ds).toArray cQ) t):=by
    rw [Array.getElem?_append_left (by simpa using hlt),Array.getElem?_modify,if_pos rfl,hg];rfl
   exact e1
  ·apply List.ext_getElem?
   intro j;rw [List.getElem?_take,Array.getElem?_toList]
   by_cases hj:j<n*3
   ·have hjc:j<cQ.size:=by rw [hs];exact Nat.lt_of_lt_of_le hj (Nat.mul_le_mul_right 3 hnc)
    have hd:j<(Ag ds).length:=by rw [Cn];omega
    simp only [if_pos hj,putCells,Array.getElem?_mapIdx,Array.getElem?_eq_getElem hjc,Option.map_some]
    rw [if_pos ⟨Nat.zero_le _,by simpa using hd⟩,List.getElem?_eq_getElem hd]
    simp [getElem!_pos,hd]
   ·rw [if_neg hj,List.getElem?_eq_none (by rw [Cn];omega)]
theorem Tz {B:Nat} {w0 w:World} {g m:Nat} {d:Array Ln} {os:Array Obj} (h:RowKit.Below B w0 w) (hB:B≤w0.heap.size) (hg:B≤g):RowKit.Below B w0 (sortWorldK Lm 3 w g 0 m d os):=by
 refine ⟨h.os,h.tape,h.output,?_,fun k hk=>?_⟩
 ·have:=h.size
  simp [sortWorldK,putRowK,grow,putRow,mapBlock,Sort.ahead];omega
 ·rw [← h.block k hk]
  have hs:=h.size
  have e1:((w.heap.modify g (onCells (putCells id 0 (flatK Lm 3 d))))++os)[k]?=w.heap[k]?:=by
   rw [Array.getElem?_append_left (by simp;omega),Array.getElem?_modify,if_neg (by omega)]
  exact e1
theorem Nl (x y:Ln):ltOf Qh x y=E3 x y:=by
 unfold ltOf
 rw [Bool.eq_iff_iff,decide_eq_true_eq];exact cY x y
theorem tN:SWO (ltOf Qh) where
 irrefl x:=by rw [Nl];simp [E3]
 trans x y z h1 h2:=by rw [Nl] at *;exact Jj h1 h2
 ntrans x y z h1 h2:=by rw [Nl] at *;simp [E3] at *;omega
theorem nO (blk off size:Nat) (w:World):CmpLays prog 94 #[] Lm 3 Qh blk off size w :=
 fun _ _ _ _ x y=>Nr x.1 x.2.1 x.2.2 y.1 y.2.1 y.2.2 _
theorem oJ {ls:List Ln} {d:Array Ln} (h:PermIn 0 ls.toArray.size ls.toArray d):d.toList.Perm ls∧d.size=ls.length:=by
 obtain ⟨h1,_,h3⟩:=h
 have hs:d.size=ls.length:=by simpa using h1
 refine ⟨?_,hs⟩
 have e1:d.extract 0 ls.toArray.size=d:=by simp [← hs]
 have e2:ls.toArray.extract 0 ls.toArray.size=ls.toArray:=by simp
 rw [e1,e2] at h3
 simpa using h3
theorem fY {n:Nat} {d:Array Ln} (h:SortedIn (ltOf Qh) 0 n d) (hn:d.size=n):d.toList.Pairwise (fun x y=>E3 y x=false):=by
 rw [List.pairwise_iff_getElem];intro i j hi hj hij
 simp only [Array.length_toList] at hi hj
 have:=h i j (Nat.zero_le _) hij (by omega)
 rw [Nl,getElem!_pos d j hj,getElem!_pos d i hi] at this
 simpa using this
theorem iN (ao:Option Addr) (n cap base:Nat) (ls:List Ln) (w:World) (ho:w.ownsRow base 113 3 (.slice ao n cap) n (Ag ls)) (hn:ls.length≤1000) (hb:base≤w.heap.size) :
  Calls prog 329 #[.slice ao n cap,.func (.func 94) #[] #[]] w fun e w'=>e=.returned (.tuple #[])∧∃ ds:List Ln,ds.Perm ls∧ds.Pairwise (fun x y=>E3 y x=false)∧w'.ownsRow base 113 3 (.slice ao n cap) n (Ag ds)∧RowKit.Below base w w':=by
 have hnl:n=ls.length:=by have:=ho.1;rw [Cn] at this;omega
 rcases ho.2 with ⟨e0,h0⟩ | ⟨g,cap',cQ,e0,hbg,_⟩
 ·have hls:ls=[]:=List.eq_nil_of_length_eq_zero (by omega)
  subst h0;have h:=AnyF.slices_SortFunc_none Tryz.sortLn ao cap (.func (.func 94) #[] #[]) w
  change Calls prog 329 _ _ _ at h
  refine h.mono ?_;rintro e w' ⟨rfl,rfl⟩
  refine ⟨rfl,[],by rw [hls],List.Pairwise.nil,?_,bR⟩
  rw [hls] at ho;exact ho
 ·injection e0 with e1 _ e3
  subst e1;have hlt:=(ho.lt g rfl).2
  have eg:∀ args w,(callFunc 94 args).run prog w=.ok (.enter 94 args) w:=enters_of func94 (by kernel_rfl) rfl
  have h:=AnyQ.slices_SortFunc Tryz.sortLn 3 isAgg113 sizeOf113 Lm (fun _=>rfl) (fun x v hv=>by simp [Lm] at hv;rcases hv with rfl | rfl | rfl <;> rfl) Qh tN 94 #[] g 0 cap ls.toArray w eg (nO g 0 ls.toArray.size w) (gT ho) hlt (by simp;omega)
  change Calls prog 329 _ _ _ at h
  have hz:ls.toArray.size=n:=by simp [hnl]
  rw [hz] at h;refine h.mono ?_;rintro e w' ⟨rfl,d',m,os,hp,hs,rfl⟩;rw [← hz] at hp;obtain ⟨p1,p2⟩:=oJ hp
  have hd:d'=d'.toList.toArray:=by simp
  refine ⟨rfl,d'.toList,p1,fY hs (by rw [p2,hnl]),?_,Tz bR hb hbg⟩
  rw [hd]
  exact Zf ho (by simp [p2])
end Go.Proofs.YtomiclakhjncbaaGreatDoor
