import Derived.Test.YtomiclakhjncbaaGreatDoorKEAuLaw
import Derived.Test.YtomiclakhjncbaaGreatDoorKESLed2
import Derived.Test.YtomiclakhjncbaaGreatDoorKEICaseOk
import Derived.Test.YtomiclakhjncbaaGreatDoorKESCaseOk
set_option maxRecDepth 100000
set_option maxHeartbeats 12800000
namespace Go.Proofs.YtomiclakhjncbaaGreatDoor
open Go.RowKit Go.Proofs.Tryz
structure Bk where
 today:Int
 off:List Int
 az:List Au
 cs:List Cs
 ls:List Ln
 log:Be
structure Bp where
 o:Option Addr
 oc:Nat
 a:Option Addr
 ac:Nat
 c:Option Addr
 cc:Nat
 l:Option Addr
 lc:Nat
 g:Option Addr
 gc:Nat
def C5 (b:Bk) (p:Bp):Value:=.agg #[.int .i64 b.today,.slice p.o b.off.length p.oc,.slice p.a b.az.length p.ac,.slice p.c b.cs.length p.cc,.slice p.l b.ls.length p.lc,.slice p.g b.log.length p.gc]
structure Aq (u:World) (b:Bk) (p:Bp):Prop where
 off:Aw u p.o b.off
 az:Ar u p.a b.az
 cs:A0 u p.c b.cs
 ls:Ai u p.l b.ls
 log:Bh u p.g b.log
theorem Aq.below {u u':World} {b:Bk} {p:Bp} (h:Aq u b p) (hb:BW u u'):Aq u' b p:=⟨h.off.below hb,h.az.below hb,h.cs.below hb,h.ls.below hb,h.log.below hb⟩
def D0 (b:Bk):Prop:=b.off.length≤1048576∧b.az.length≤1048576∧b.cs.length≤1048576∧b.ls.length≤1048576∧b.log.length≤1048576
structure S6 (B:Nat) (b:Bk) (p:Bp) (u:World):Prop where
 c0:u.cell? ⟨B,0,none⟩=some (.int .i64 b.today)
 c1:u.cell? ⟨B,1,none⟩=some (.slice p.o b.off.length p.oc)
 c2:u.cell? ⟨B,2,none⟩=some (.slice p.a b.az.length p.ac)
 c3:u.cell? ⟨B,3,none⟩=some (.slice p.c b.cs.length p.cc)
 c4:u.cell? ⟨B,4,none⟩=some (.slice p.l b.ls.length p.lc)
 c5:u.cell? ⟨B,5,none⟩=some (.slice p.g b.log.length p.gc)
theorem S6.lt {B:Nat} {b:Bk} {p:Bp} {u:World} (h:S6 B b p u):B<u.heap.size:=World.block_lt_of_cell? u _ h.c0
theorem S6.below {B:Nat} {b:Bk} {p:Bp} {u u':World} (h:S6 B b p u) (hb:BW u u'):S6 B b p u':=by
 have l:=h.lt;exact ⟨(hb.cell (p:=⟨B,0,none⟩) l).trans h.c0,(hb.cell (p:=⟨B,1,none⟩) l).trans h.c1,(hb.cell (p:=⟨B,2,none⟩) l).trans h.c2,(hb.cell (p:=⟨B,3,none⟩) l).trans h.c3,(hb.cell (p:=⟨B,4,none⟩) l).trans h.c4,(hb.cell (p:=⟨B,5,none⟩) l).trans h.c5⟩
theorem S6.new (w:World) (b:Bk) (p:Bp) (ty:TypeId):S6 w.heap.size b p (w.alloc (.cells #[.int .i64 b.today,.slice p.o b.off.length p.oc,.slice p.a b.az.length p.ac,.slice p.c b.cs.length p.cc,.slice p.l b.ls.length p.lc,.slice p.g b.log.length p.gc] ty)):=⟨by simp,by simp,by simp,by simp,by simp,by simp⟩
abbrev qcB(b:Bk)(p:Bp):Array Value:=#[.int .i64 b.today,.slice p.o b.off.length p.oc,.slice p.a b.az.length p.ac,.slice p.c b.cs.length p.cc,.slice p.l b.ls.length p.lc,.slice p.g b.log.length p.gc]
abbrev qzB:Array Value:=#[.int .i64 0,.slice none 0 0,.slice none 0 0,.slice none 0 0,.slice none 0 0,.slice none 0 0]
structure Z6 (B:Nat) (v0 v1 v2 v3 v4 v5:Value) (u:World):Prop where
 c0:u.cell? ⟨B,0,none⟩=some v0
 c1:u.cell? ⟨B,1,none⟩=some v1
 c2:u.cell? ⟨B,2,none⟩=some v2
 c3:u.cell? ⟨B,3,none⟩=some v3
 c4:u.cell? ⟨B,4,none⟩=some v4
 c5:u.cell? ⟨B,5,none⟩=some v5
 z0:u.frozen? ⟨B,0,none⟩=false
 z1:u.frozen? ⟨B,1,none⟩=false
 z2:u.frozen? ⟨B,2,none⟩=false
 z3:u.frozen? ⟨B,3,none⟩=false
 z4:u.frozen? ⟨B,4,none⟩=false
 z5:u.frozen? ⟨B,5,none⟩=false
theorem Z6.lt {B:Nat} {v0 v1 v2 v3 v4 v5:Value} {u:World} (h:Z6 B v0 v1 v2 v3 v4 v5 u):B<u.heap.size:=World.block_lt_of_cell? u _ h.c0
theorem Z6.below {B:Nat} {v0 v1 v2 v3 v4 v5:Value} {u u':World} (h:Z6 B v0 v1 v2 v3 v4 v5 u) (b:BW u u'):Z6 B v0 v1 v2 v3 v4 v5 u':=by
 have l:=h.lt;exact ⟨(b.cell (p:=⟨B,0,none⟩) l).trans h.c0,(b.cell (p:=⟨B,1,none⟩) l).trans h.c1,(b.cell (p:=⟨B,2,none⟩) l).trans h.c2,(b.cell (p:=⟨B,3,none⟩) l).trans h.c3,(b.cell (p:=⟨B,4,none⟩) l).trans h.c4,(b.cell (p:=⟨B,5,none⟩) l).trans h.c5,(b.frozen (p:=⟨B,0,none⟩) l).trans h.z0,(b.frozen (p:=⟨B,1,none⟩) l).trans h.z1,(b.frozen (p:=⟨B,2,none⟩) l).trans h.z2,(b.frozen (p:=⟨B,3,none⟩) l).trans h.z3,(b.frozen (p:=⟨B,4,none⟩) l).trans h.z4,(b.frozen (p:=⟨B,5,none⟩) l).trans h.z5⟩
theorem Z6.far {B B' i:Nat} {v0 v1 v2 v3 v4 v5:Value} {u:World} {x:Value} (h:Z6 B v0 v1 v2 v3 v4 v5 u) (hne:B'≠B):Z6 B v0 v1 v2 v3 v4 v5 (u.setCell ⟨B',i,none⟩ x):=by
 have l:=h.lt
 have gr:u.grownBy (u.setCell ⟨B',i,none⟩ x) (some B'):=⟨rfl,rfl,rfl,by simp,fun j _ hj=>Below.heap_setCell _ _ _ _ (fun e=>hj (by rw [e]))⟩
 have hs:some B≠some B':=fun e=>hne (by injection e with e;exact e.symm)
 exact ⟨(gr.cell_far ⟨B,0,none⟩ l hs).trans h.c0,(gr.cell_far ⟨B,1,none⟩ l hs).trans h.c1,(gr.cell_far ⟨B,2,none⟩ l hs).trans h.c2,(gr.cell_far ⟨B,3,none⟩ l hs).trans h.c3,(gr.cell_far ⟨B,4,none⟩ l hs).trans h.c4,(gr.cell_far ⟨B,5,none⟩ l hs).trans h.c5,by simp [h.z0],by simp [h.z1],by simp [h.z2],by simp [h.z3],by simp [h.z4],by simp [h.z5]⟩
theorem Z6.set0 {B:Nat} {v0 v1 v2 v3 v4 v5:Value} {u:World} (h:Z6 B v0 v1 v2 v3 v4 v5 u) (x:Value):Z6 B x v1 v2 v3 v4 v5 (u.setCell ⟨B,0,none⟩ x):=by
 obtain ⟨c0,c1,c2,c3,c4,c5,z0,z1,z2,z3,z4,z5⟩:=h
 constructor<;>simp [go_sem, *]
theorem Z6.set1 {B:Nat} {v0 v1 v2 v3 v4 v5:Value} {u:World} (h:Z6 B v0 v1 v2 v3 v4 v5 u) (x:Value):Z6 B v0 x v2 v3 v4 v5 (u.setCell ⟨B,1,none⟩ x):=by
 obtain ⟨c0,c1,c2,c3,c4,c5,z0,z1,z2,z3,z4,z5⟩:=h
 constructor<;>simp [go_sem, *]
theorem Z6.set2 {B:Nat} {v0 v1 v2 v3 v4 v5:Value} {u:World} (h:Z6 B v0 v1 v2 v3 v4 v5 u) (x:Value):Z6 B v0 v1 x v3 v4 v5 (u.setCell ⟨B,2,none⟩ x):=by
 obtain ⟨c0,c1,c2,c3,c4,c5,z0,z1,z2,z3,z4,z5⟩:=h
 constructor<;>simp [go_sem, *]
theorem Z6.set3 {B:Nat} {v0 v1 v2 v3 v4 v5:Value} {u:World} (h:Z6 B v0 v1 v2 v3 v4 v5 u) (x:Value):Z6 B v0 v1 v2 x v4 v5 (u.setCell ⟨B,3,none⟩ x):=by
 obtain ⟨c0,c1,c2,c3,c4,c5,z0,z1,z2,z3,z4,z5⟩:=h
 constructor<;>simp [go_sem, *]
theorem Z6.set4 {B:Nat} {v0 v1 v2 v3 v4 v5:Value} {u:World} (h:Z6 B v0 v1 v2 v3 v4 v5 u) (x:Value):Z6 B v0 v1 v2 v3 x v5 (u.setCell ⟨B,4,none⟩ x):=by
 obtain ⟨c0,c1,c2,c3,c4,c5,z0,z1,z2,z3,z4,z5⟩:=h
 constructor<;>simp [go_sem, *]
theorem Z6.set5 {B:Nat} {v0 v1 v2 v3 v4 v5:Value} {u:World} (h:Z6 B v0 v1 v2 v3 v4 v5 u) (x:Value):Z6 B v0 v1 v2 v3 v4 x (u.setCell ⟨B,5,none⟩ x):=by
 obtain ⟨c0,c1,c2,c3,c4,c5,z0,z1,z2,z3,z4,z5⟩:=h
 constructor<;>simp [go_sem, *]
theorem Z6.new (w:World) (v0 v1 v2 v3 v4 v5:Value) (ty:TypeId):Z6 w.heap.size v0 v1 v2 v3 v4 v5 (w.alloc (.cells #[v0,v1,v2,v3,v4,v5] ty)) :=
 ⟨by simp,by simp,by simp,by simp,by simp,by simp,by simp [go_sem],by simp [go_sem],by simp [go_sem],by simp [go_sem],by simp [go_sem],by simp [go_sem]⟩
abbrev Z0(R:Nat)(u:World):Prop:=Z6 R (.int .i64 0) (.slice none 0 0) (.slice none 0 0) (.slice none 0 0) (.slice none 0 0) (.slice none 0 0) u
abbrev ZQ(X:Nat)(b:Bk)(q:Bp)(u:World):Prop:=Z6 X (.int .i64 b.today) (.slice q.o b.off.length q.oc) (.slice q.a b.az.length q.ac) (.slice q.c b.cs.length q.cc) (.slice q.l b.ls.length q.lc) (.slice q.g b.log.length q.gc) u
theorem S6.under {s B:Nat} {b:Bk} {p:Bp} {u u':World} (h:S6 s b p u) (hb:Below B u u') (l:s<B):S6 s b p u' :=
 ⟨(hb.cell (p:=⟨s,0,none⟩) l).trans h.c0,(hb.cell (p:=⟨s,1,none⟩) l).trans h.c1,(hb.cell (p:=⟨s,2,none⟩) l).trans h.c2,(hb.cell (p:=⟨s,3,none⟩) l).trans h.c3,(hb.cell (p:=⟨s,4,none⟩) l).trans h.c4,(hb.cell (p:=⟨s,5,none⟩) l).trans h.c5⟩
theorem Z6.under {s B:Nat} {v0 v1 v2 v3 v4 v5:Value} {u u':World} (h:Z6 s v0 v1 v2 v3 v4 v5 u) (hb:Below B u u') (l:s<B):Z6 s v0 v1 v2 v3 v4 v5 u' :=
 ⟨(hb.cell (p:=⟨s,0,none⟩) l).trans h.c0,(hb.cell (p:=⟨s,1,none⟩) l).trans h.c1,(hb.cell (p:=⟨s,2,none⟩) l).trans h.c2,(hb.cell (p:=⟨s,3,none⟩) l).trans h.c3,(hb.cell (p:=⟨s,4,none⟩) l).trans h.c4,(hb.cell (p:=⟨s,5,none⟩) l).trans h.c5,(hb.frozen (p:=⟨s,0,none⟩) l).trans h.z0,(hb.frozen (p:=⟨s,1,none⟩) l).trans h.z1,(hb.frozen (p:=⟨s,2,none⟩) l).trans h.z2,(hb.frozen (p:=⟨s,3,none⟩) l).trans h.z3,(hb.frozen (p:=⟨s,4,none⟩) l).trans h.z4,(hb.frozen (p:=⟨s,5,none⟩) l).trans h.z5⟩
theorem Ad {u:World} {base n size B i:Nat} {t:TypeId} {v x:Value} {xs:List Value} (o:u.ownsRow base t size v n xs) (hB:B<base):(u.setCell ⟨B,i,none⟩ x).ownsRow base t size v n xs :=
 o.kept (row:=some B) ⟨rfl,rfl,rfl,by simp,fun j _ hj=>Below.heap_setCell _ _ _ _ (fun e=>hj (by rw [e]))⟩ (.inr fun h=>by have:=(o.lt _ h).1;omega)
def Mu (done:Bool) (ls:List Ln) (a c m:Int):List Ln:=if done=true then ls else Cr ls a c m
theorem Kz (ls:List Ln) (a c m:Int):Mu true ls a c m=ls:=rfl
theorem Js (ls:List Ln) (a c m:Int):Mu false ls a c m=Cr ls a c m:=rfl
theorem jI {x:Ln} {r:List Ln} {a c m:Int} (h:My x a c=false):Cr (x::r) a c m=x::Cr r a c m:=by simp only [Cr];rw [if_neg (by rw [h];decide)]
theorem eJ {x:Ln} {r:List Ln} {a c m:Int} (h:My x a c=true) (he:x.1=a∧x.2.1=c):Cr (x::r) a c m=if x.2.2+m≠0 then (a,c,x.2.2+m)::r else r:=by simp only [Cr];rw [if_pos h,if_pos he]
theorem lD {x:Ln} {r:List Ln} {a c m:Int} (h:My x a c=true) (he:¬ (x.1=a∧x.2.1=c)):Cr (x::r) a c m=(a,c,m)::x::r:=by simp only [Cr];rw [if_pos h,if_neg he]
theorem Ve (x y z:Int):∀ u ∈ [Value.int .i64 x,.int .i64 y,.int .i64 z],u.oneCell'=true:=by
 intro u hu
 simp at hu
 rcases hu with rfl | rfl | rfl <;> rfl
theorem aD {w:World} {base n:Nat} {t:TypeId} {v:Value} {out:List Ln} {x y z:Int} (h:w.ownsRow base t 3 v n (Ag out++[.int .i64 x,.int .i64 y,.int .i64 z])):w.ownsRow base t 3 v n (Ag (out++[(x,y,z)])):=by
 rw [Ip];exact h
theorem Tf (ao:Option Addr) (cap:Nat) (ls:List Ln) (a c m:Int) (w:World) (hz:Ai w ao ls) (hn:ls.length≤1048576) (hm:-1000000000000≤m∧m≤1000000000000) (hb:∀ x ∈ ls,-4000000000000≤x.2.2∧x.2.2≤4000000000000) :
  Calls prog 262 #[.slice ao ls.length cap,.int .i64 a,.int .i64 c,.int .i64 m] w fun e w'=>∃ g cap',e=.returned (.slice g (Cr ls a c m).length cap') ∧
   w'.ownsRow w.heap.size 113 3 (.slice g (Cr ls a c m).length cap') (Cr ls a c m).length (Ag (Cr ls a c m))∧BW w w':=by
 obtain ⟨i0,hi,hz0,hz1,hz2⟩:=info_parts bY;have HZ:Hid (Ai w ao ls):=hz;have HB:Hid (∀ x ∈ ls,-4000000000000≤x.2.2∧x.2.2≤4000000000000):=hb
 have ownE:(w.alloc (.cells #[] 113)).ownsRow w.heap.size 113 3 (.slice (some ⟨w.heap.size,0,none⟩) 0 0) 0 (Ag []):=World.ownsRow_lit w #[] 0 nL (by unfold maxLen;omega) rfl
 have HOE:Hid ((w.alloc (.cells #[] 113)).ownsRow w.heap.size 113 3 (.slice (some ⟨w.heap.size,0,none⟩) 0 0) 0 (Ag [])):=ownE;clear hz hb ownE;obtain ⟨A,hA⟩:∃ A,Cr ls a c m=A:=⟨_,rfl⟩;rw [hA];have HA:Hid _:=hA;clear hA
 go_enter func262,ntmps262
 go_wp2
 go_loopw [9,10,11] (fun s d i wr=>∃ (v:Value) (k:Nat) (done:Bool) (out:List Ln),v=s∧d=.bool done∧k≤ls.length∧i=.int .i64 k∧A=out++Mu done (ls.drop k) a c m∧((done=false→out.length≤k)∧out.length≤k+1)∧wr.ownsRow w.heap.size 113 3 v out.length (Ag out)∧BW w wr) (fun _ _ i _=>ls.length - (intOf i).toNat)
 case atStart=>exact ⟨_,0,false,[],rfl,rfl,Nat.zero_le _,rfl,HA.o.symm,⟨fun _=>Nat.zero_le _,Nat.zero_le _⟩,HOE.o,by go_grown⟩
 case round =>
  obtain ⟨v,k,done,out,hvs,rfl,hk,rfl,hAe,⟨hol0,hol⟩,ho,hbr⟩:=hrel;subst hvs;have hbs:=hbr.size;have HO:Hid (wr.ownsRow w.heap.size 113 3 v out.length (Ag out)):=ho
  have HLT:Hid (∀ j,v.ownBlock=some j→w.heap.size≤j):=fun j hj=>(ho.lt j hj).1
  have HAE:Hid _:=hAe;clear ho hAe HOE
  by_cases hlt:k<ls.length
  ·have hki:(k:Int)<(ls.length:Int):=by omega
   obtain ⟨b,off,rfl,hb2,c1,c2,c3⟩:=(HZ.o.below hbr).at hlt;have hbd:=HB.o _ (Ex hlt);have hdr:=Tu ls k hlt;obtain ⟨⟨x,y,z⟩,hx⟩:∃ x,Cg ls k=x:=⟨_,rfl⟩;rw [hx] at c1 c2 c3 hdr hbd
   simp only at c1 c2 c3 hbd
   have HDR:Hid _:=hdr;obtain ⟨W,hW⟩:∃ W,W=wr.alloc (.cells #[.int .i64 x,.int .i64 y,.int .i64 z] 113):=⟨_,rfl⟩
   have bW:BW w W:=by rw [hW];exact hbr.alloc hbs _
   have HOW:Hid (W.ownsRow w.heap.size 113 3 v out.length (Ag out)):=by rw [Hid,hW];exact HO.o.alloc _
   have y0:W.cell? ⟨wr.heap.size,0,none⟩=some (.int .i64 x):=by rw [hW];simp
   have y1:W.cell? ⟨wr.heap.size,1,none⟩=some (.int .i64 y):=by rw [hW];simp
   have y2:W.cell? ⟨wr.heap.size,2,none⟩=some (.int .i64 z):=by rw [hW];simp
   have f2:W.frozen? ⟨wr.heap.size,2,none⟩=false:=by rw [hW];simp [go_sem]
   have hWs:=bW.size;have hwW:wr.heap.size<W.heap.size:=World.block_lt_of_cell? W _ y0;clear hdr hx;go_upto_region 7 with fail
   rw [← hW];clear hW c1 c2 c3
   cases done
   ·have HL0:Hid (out.length≤k):=hol0 rfl
    clear hol0
    cases hr:My (x,y,z) a c
    ·have HN:Hid (A=(out++[(x,y,z)])++Mu false (ls.drop (k+1)) a c m):=by
       rw [Hid,HAE.o,Js,HDR.o,jI hr,Js,List.append_assoc];rfl
     have hr':=hr
     simp only [My,decide_eq_false_iff_not] at hr'
     have v1:¬ a<x:=by omega
     by_cases v2:x=a
     ·have v2':(x == a)=true:=by simpa using v2
      have v3:¬ c≤y:=by omega
      clear hr hr' HAE HDR v2
      go_wp2_with (at_builtin;refine wpList_append_own _ rfl (.tmp 73) (.tmp 75) 27 rfl w.heap.size 113 i0 _ 3 24 underlying27 hi hz0 hz1 hz2 rfl (by decide) _ _ _ rfl (HOW.o.alloc _) ⟨W.heap.size,0,none⟩ 1 1 [.int .i64 x,.int .i64 y,.int .i64 z] rfl rfl (World.news_of_block (heap_alloc_new W _)) (Ve x y z) (by unfold maxLen;omega) (by omega) (by simp;omega) ?_;intro v5 w5 o5 g5 _)
      have HR5:Hid (w5.ownsRow w.heap.size 113 3 v5 (out++[(x,y,z)]).length (Ag (out++[(x,y,z)]))):=by rw [Hid,List.length_append];exact aD o5
      have q5:BW w w5:=(bW.alloc hWs _).grown g5 (by simp;omega) HLT.o
      clear o5 g5 HO HOW;go_wp2
      go_roundw
      case rel=>exact ⟨_,k+1,false,_,rfl,rfl,by omega,by go_num,HN.o,⟨fun _=>by have:=HL0.o;simp;omega,by have:=HL0.o;simp;omega⟩,HR5.o,q5⟩
      case measure=>simp [intOf];omega
     ·have v2':(x == a)=false:=by simpa using v2
      clear hr hr' HAE HDR v2
      go_wp2_with (at_builtin;refine wpList_append_own _ rfl (.tmp 73) (.tmp 75) 27 rfl w.heap.size 113 i0 _ 3 24 underlying27 hi hz0 hz1 hz2 rfl (by decide) _ _ _ rfl (HOW.o.alloc _) ⟨W.heap.size,0,none⟩ 1 1 [.int .i64 x,.int .i64 y,.int .i64 z] rfl rfl (World.news_of_block (heap_alloc_new W _)) (Ve x y z) (by unfold maxLen;omega) (by omega) (by simp;omega) ?_;intro v5 w5 o5 g5 _)
      have HR5:Hid (w5.ownsRow w.heap.size 113 3 v5 (out++[(x,y,z)]).length (Ag (out++[(x,y,z)]))):=by rw [Hid,List.length_append];exact aD o5
      have q5:BW w w5:=(bW.alloc hWs _).grown g5 (by simp;omega) HLT.o
      clear o5 g5 HO HOW;go_wp2
      go_roundw
      case rel=>exact ⟨_,k+1,false,_,rfl,rfl,by omega,by go_num,HN.o,⟨fun _=>by have:=HL0.o;simp;omega,by have:=HL0.o;simp;omega⟩,HR5.o,q5⟩
      case measure=>simp [intOf];omega
    ·have hr':=hr
     simp only [My,decide_eq_true_eq] at hr'
     by_cases he:x=a∧y=c
     ·obtain ⟨v2,v3⟩:=he
      have v2':(x == a)=true:=by simpa using v2
      have v3':(y == c)=true:=by simpa using v3
      have v1:¬ a<x:=by omega
      have v4:c≤y:=by omega
      have hh:=eJ (m:=m) (r:=ls.drop (k+1)) hr ⟨v2,v3⟩
      have hwz:IntKind.i64.wrap (z+m)=z+m:=by simp [IntKind.wrap,IntKind.bits,IntKind.signed];omega
      obtain ⟨V,hV⟩:∃ V,V=W.setCell ⟨wr.heap.size,2,none⟩ (.int .i64 (z+m)):=⟨_,rfl⟩
      have p0:V.cell? ⟨wr.heap.size,0,none⟩=some (.int .i64 x):=by rw [hV];simp [go_sem,y0]
      have p1:V.cell? ⟨wr.heap.size,1,none⟩=some (.int .i64 y):=by rw [hV];simp [go_sem,y1]
      have p2:V.cell? ⟨wr.heap.size,2,none⟩=some (.int .i64 (z+m)):=by rw [hV];simp [go_sem,y2]
      have bV:BW w V:=by rw [hV];exact bW.setCell (by show w.heap.size≤wr.heap.size;omega) _
      have HOV:Hid (V.ownsRow w.heap.size 113 3 v out.length (Ag out)):=by
       rw [Hid,hV]
       exact A5 HOW.o _ _ (fun g hg=>by have:=(HO.o.lt g hg).2;simp only;omega)
      have hVs:=bV.size;have HV:Hid _:=hV
      by_cases hs0:z+m=0
      ·have HN:Hid (A=out++Mu true (ls.drop (k+1)) a c m):=by
         rw [Hid,HAE.o,Js,HDR.o,hh,if_neg (by simpa using hs0)];rfl
       have hs0':(z+m != 0)=false:=by simpa using hs0
       have HS0:Hid _:=hs0;clear hr hr' HAE HDR v2 v3 hh hV p0 p1 p2;go_wp2
       go_roundw
       case rel=>exact ⟨_,k+1,true,out,rfl,rfl,by omega,by go_num,HN.o,⟨(fun h=>by cases h),by omega⟩,by have h:=HOV.o;rw [HV.o,HS0.o] at h;exact h,by have h:=bV;rw [HV.o,HS0.o] at h;exact h⟩
       case measure=>simp [intOf];omega
      ·have HN:Hid (A=(out++[(x,y,z+m)])++Mu true (ls.drop (k+1)) a c m):=by
         rw [Hid,HAE.o,Js,HDR.o,hh,if_pos (by simpa using hs0),Kz,v2,v3,List.append_assoc];rfl
       have hs0':(z+m != 0)=true:=by simpa using hs0
       clear hr hr' HAE HDR v2 v3 hh hs0;go_upto_region 12 with fail
       rw [← hV];clear hV
       go_wp2_with (at_builtin;refine wpList_append_own _ rfl (.tmp 62) (.tmp 64) 27 rfl w.heap.size 113 i0 _ 3 24 underlying27 hi hz0 hz1 hz2 rfl (by decide) _ _ _ rfl (HOV.o.alloc _) ⟨V.heap.size,0,none⟩ 1 1 [.int .i64 x,.int .i64 y,.int .i64 (z+m)] rfl rfl (World.news_of_block (heap_alloc_new V _)) (Ve x y (z+m)) (by unfold maxLen;omega) (by omega) (by simp;omega) ?_;intro v5 w5 o5 g5 _)
       have HR5:Hid (w5.ownsRow w.heap.size 113 3 v5 (out++[(x,y,z+m)]).length (Ag (out++[(x,y,z+m)]))):=by rw [Hid,List.length_append];exact aD o5
       have q5:BW w w5:=(bV.alloc hVs _).grown g5 (by simp;omega) HLT.o
       clear o5 g5 HO HOW HOV;go_wp2
       go_roundw
       case rel=>exact ⟨_,k+1,true,_,rfl,rfl,by omega,by go_num,HN.o,⟨(fun h=>by cases h),by simp;omega⟩,HR5.o,q5⟩
       case measure=>simp [intOf];omega
     ·have HN:Hid (A=(out++[(a,c,m)]++[(x,y,z)])++Mu true (ls.drop (k+1)) a c m):=by
        rw [Hid,HAE.o,Js,HDR.o,lD hr he,Kz,List.append_assoc,List.append_assoc];rfl
      have hya:∀ o,(W.alloc o).cell? ⟨wr.heap.size,0,none⟩=some (.int .i64 x)∧(W.alloc o).cell? ⟨wr.heap.size,1,none⟩=some (.int .i64 y)∧(W.alloc o).cell? ⟨wr.heap.size,2,none⟩=some (.int .i64 z):=fun o=>⟨(World.cell?_alloc_lt _ _ ⟨wr.heap.size,0,none⟩ hwW).trans y0,(World.cell?_alloc_lt _ _ ⟨wr.heap.size,1,none⟩ hwW).trans y1,(World.cell?_alloc_lt _ _ ⟨wr.heap.size,2,none⟩ hwW).trans y2⟩
      have HYA:Hid _:=hya
      have HNE:Hid (some wr.heap.size≠v.ownBlock):=fun e=>by have:=(HO.o.lt _ e.symm).2;omega
      have hguard:(a<x∧(x == a)=false)∨(¬ a<x∧(x == a)=true∧c≤y∧(y == c)=false):=by
       by_cases v1:a<x
       ·exact .inl ⟨v1,by simp;omega⟩
       ·have v2:x=a:=by omega
        exact .inr ⟨v1,by simpa using v2,by omega,by simp;intro h;exact he ⟨v2,h⟩⟩
      clear hr hr' HAE HDR he hya
      rcases hguard with ⟨v1,v2⟩ | ⟨v1,v2,v3,v4⟩
      all_goals
       go_wp2_with (at_builtin;first
        | (refine wpList_append_own _ rfl (.tmp 66) (.tmp 71) 27 rfl w.heap.size 113 i0 _ 3 24 underlying27 hi hz0 hz1 hz2 rfl (by decide) _ _ _ rfl (HOW.o.alloc _) ⟨W.heap.size,0,none⟩ 1 1 [.int .i64 a,.int .i64 c,.int .i64 m] rfl rfl (World.news_of_block (heap_alloc_new W _)) (Ve a c m) (by unfold maxLen;omega) (by omega) (by simp;omega) ?_;intro v5 w5 o5 g5 _;have q5:BW w w5:=(bW.alloc hWs _).grown g5 (by simp;omega) HLT.o;have k0:=(g5.cell_far ⟨wr.heap.size,0,none⟩ (by simp;omega) HNE.o).trans (HYA.o _).1;have k1:=(g5.cell_far ⟨wr.heap.size,1,none⟩ (by simp;omega) HNE.o).trans (HYA.o _).2.1;have k2:=(g5.cell_far ⟨wr.heap.size,2,none⟩ (by simp;omega) HNE.o).trans (HYA.o _).2.2;have HO5:Hid (w5.ownsRow w.heap.size 113 3 v5 (out.length+1) (Ag out++[.int .i64 a,.int .i64 c,.int .i64 m])):=o5;have hs5:=q5.size;clear o5 g5)
        | (refine wpList_append_own _ rfl (.tmp 73) (.tmp 75) 27 rfl w.heap.size 113 i0 _ 3 24 underlying27 hi hz0 hz1 hz2 rfl (by decide) _ _ _ rfl (HO5.o.alloc _) ⟨w5.heap.size,0,none⟩ 1 1 [.int .i64 x,.int .i64 y,.int .i64 z] rfl rfl (World.news_of_block (heap_alloc_new w5 _)) (Ve x y z) (by unfold maxLen;omega) (by omega) (by simp;omega) ?_;intro v6 w6 o6 g6 _))
       have HR6:Hid (w6.ownsRow w.heap.size 113 3 v6 (out++[(a,c,m)]++[(x,y,z)]).length (Ag (out++[(a,c,m)]++[(x,y,z)]))):=by
        rw [Hid,List.length_append,List.length_append,Ip,Ip];exact o6
       have q6:BW w w6:=(q5.alloc hs5 _).grown g6 (by simp;omega) (fun j hj=>(HO5.o.lt j hj).1)
       clear o6 g6 HO HOW HO5;go_wp2
       go_roundw
       case rel=>exact ⟨_,k+1,true,_,rfl,rfl,by omega,by go_num,HN.o,⟨(fun h=>by cases h),by have:=HL0.o;simp;omega⟩,HR6.o,q6⟩
       case measure=>simp [intOf];omega
   ·have HN:Hid (A=(out++[(x,y,z)])++Mu true (ls.drop (k+1)) a c m):=by
      rw [Hid,HAE.o,Kz,HDR.o,Kz,List.append_assoc];rfl
    clear HAE HDR
    go_wp2_with (at_builtin;refine wpList_append_own _ rfl (.tmp 73) (.tmp 75) 27 rfl w.heap.size 113 i0 _ 3 24 underlying27 hi hz0 hz1 hz2 rfl (by decide) _ _ _ rfl (HOW.o.alloc _) ⟨W.heap.size,0,none⟩ 1 1 [.int .i64 x,.int .i64 y,.int .i64 z] rfl rfl (World.news_of_block (heap_alloc_new W _)) (Ve x y z) (by unfold maxLen;omega) (by omega) (by simp;omega) ?_;intro v5 w5 o5 g5 _)
    have HR5:Hid (w5.ownsRow w.heap.size 113 3 v5 (out++[(x,y,z)]).length (Ag (out++[(x,y,z)]))):=by rw [Hid,List.length_append];exact aD o5
    have q5:BW w w5:=(bW.alloc hWs _).grown g5 (by simp;omega) HLT.o
    clear o5 g5 HO HOW;go_wp2
    go_roundw
    case rel=>exact ⟨_,k+1,true,_,rfl,rfl,by omega,by go_num,HN.o,⟨(fun h=>by cases h),by simp;omega⟩,HR5.o,q5⟩
    case measure=>simp [intOf];omega
  ·have hke:k=ls.length:=by omega
   subst hke
   have hki:¬ (ls.length:Int)<(ls.length:Int):=by omega
   have hd:ls.drop ls.length=[]:=List.drop_of_length_le nL
   cases done
   ·have HN:Hid (A=out++[(a,c,m)]):=by rw [Hid,HAE.o,hd];rfl
    clear HAE hd
    go_wp2_with (at_builtin;refine wpList_append_own _ rfl (.tmp 79) (.tmp 84) 27 rfl w.heap.size 113 i0 _ 3 24 underlying27 hi hz0 hz1 hz2 rfl (by decide) _ _ _ rfl (HO.o.alloc _) ⟨wr.heap.size,0,none⟩ 1 1 [.int .i64 a,.int .i64 c,.int .i64 m] rfl rfl (World.news_of_block (heap_alloc_new wr _)) (Ve a c m) (by unfold maxLen;omega) (by omega) (by simp;omega) ?_;intro v5 w5 o5 g5 _;obtain ⟨ao5,cap5,hv5,-,-⟩:=Ef (ls:=out++[(a,c,m)]) (aD o5);subst hv5)
    have HR5:Hid (w5.ownsRow w.heap.size 113 3 (.slice ao5 (out++[(a,c,m)]).length cap5) (out++[(a,c,m)]).length (Ag (out++[(a,c,m)]))):=by
     have h:=aD o5;rw [List.length_append] at h ⊢;exact h
    have q5:BW w w5:=(hbr.alloc hbs _).grown g5 (by simp;omega) HLT.o
    clear o5 g5 HO;go_wp2;go_ret;have hN:=HN.o;subst hN
    exact ⟨ao5,cap5,by rw [List.length_append];rfl,HR5.o,q5⟩
   ·have HN:Hid (A=out):=by rw [Hid,HAE.o,hd];simp [Mu]
    obtain ⟨ao5,cap5,hv5,-,-⟩:=Ef HO.o;subst hv5;clear HAE hd;go_wp2;go_ret;have hN:=HN.o;subst hN;exact ⟨ao5,cap5,rfl,HO.o,hbr⟩
theorem Y5 {w:World} {a:Addr} {ls:List Ln} (h:Ai w (some a) ls):∀ j u,(Ag ls)[j]?=some u→w.cell? (a.add j)=some u:=by
 intro j u hj
 have hlt:j<ls.length*3:=by
  rw [← Cn];exact (List.getElem?_eq_some_iff.1 hj).1
 rcases h with rfl | ⟨b',off',hq,hb,hc⟩
 ·simp at hlt
 ·obtain rfl:a=⟨b',off',none⟩:=by simpa using hq
  have e:((⟨b',off',none⟩:Addr).add j)=⟨b',off'+j,none⟩:=by unfold Addr.add;split <;> simp_all
  have hk:=hc (j / 3) (by omega)
  have hf:=Hj ls (j / 3) (by omega)
  rw [e]
  rcases (show j % 3=0∨j % 3=1∨j % 3=2 by omega) with m | m | m
  ·have hj':j=j / 3*3:=by omega
   rw [hj',hf.1] at hj
   rw [hj',hk.1];exact hj
  ·have hj':j=j / 3*3+1:=by omega
   rw [hj',hf.2.1] at hj
   rw [hj',← Nat.add_assoc,hk.2.1];exact hj
  ·have hj':j=j / 3*3+2:=by omega
   rw [hj',hf.2.2] at hj
   rw [hj',← Nat.add_assoc,hk.2.2];exact hj
theorem Oa (w:World) (base:Nat) (ty:TypeId) (v:Value) (n:Nat) (cs:List Value) (hown:w.ownsRow base 113 3 v n cs) (ao:Option Addr) (c:Nat) (ls:List Ln) (hz:Ai w ao ls)
  (hn:n+ls.length≤4000000) (hbase:base≤w.heap.size) :
  ∃ v' w',(Builtin.append_ #[27,27] ty #[v,.slice ao ls.length c]).run prog w=.ok v' w'∧w'.ownsRow base 113 3 v' (n+ls.length) (cs++Ag ls)∧w.grownBy w' v.ownBlock:=by
 obtain ⟨i0,hi,hz0,hz1,hz2⟩:=info_parts bY
 cases ao with
 | none =>
  have hf:ls=[]:=by
   rcases hz with h | ⟨b,off,h,_⟩
   ·exact h
   ·cases h
  subst hf
  refine ⟨v,w,?_,by simpa [Ag] using hown,⟨rfl,rfl,rfl,nL,fun _ _ _=>rfl⟩⟩
  have hu:=underlying27
  rcases hown.2 with ⟨rfl,rfl⟩ | ⟨g,cap,uV,rfl,hbg,hg,hnc,hcm,hcs,htake⟩
  ·simp [Builtin.append_,run_underlying hu,sizeOf,typeInfo,hi,Builtin.lenOf,Builtin.firstCells]
  ·simp [Builtin.append_,run_underlying hu,sizeOf,typeInfo,hi,Builtin.lenOf,Builtin.firstCells,loadCells,hnc,storeCells]
 | some a =>
  obtain ⟨v',w',h1,h2,h3,_,_⟩:=run_append_own_at (P:=prog) w base 27 ty 113 i0 _ 3 24 underlying27 hi hz0 hz1 hz2 rfl (by decide) v n cs hown a ls.length c (Ag ls) (Cn ls) (Y5 hz) (Z5 ls) (by unfold maxLen;omega) (by omega) hbase
  exact ⟨v',w',h1,h2,h3⟩
theorem Gp {ops:Array Oper} {rest:List Oper} {o:Oper} {a:Act} {Q:Exit→Act→World→Prop} (w:World) (hgd:o.guard=none) (s x:Operand)
  (ho:o.op=.call { callee:=.builtin .append,args:=#[s,x],argTypes:=#[27,27] }) (base:Nat) (v:Value) (n:Nat) (cs:List Value) (hs:a.eval s=v) (hown:w.ownsRow base 113 3 v n cs)
  (ao:Option Addr) (c:Nat) (ls:List Ln) (hx:a.eval x=.slice ao ls.length c) (hz:Ai w ao ls) (hn:n+ls.length≤4000000) (hbase:base≤w.heap.size)
  (h:∀ v' w',w'.ownsRow base 113 3 v' (n+ls.length) (cs++Ag ls)→w.grownBy w' v.ownBlock→wpList prog ops Q rest (a.put o.dst v') w'):wpList prog ops Q (o::rest) a w:=by
 obtain ⟨v',w',hr,h1,h2⟩:=Oa w base o.type v n cs hown ao c ls hz hn hbase;exact Lib.wpList_append_run w hgd s x _ _ ho _ _ hs hx v' w' hr (h v' w' h1 h2)
def rG (w:World) (ls:List Ln) (e:Ending) (w':World):Prop :=
 ∃ ao cap,e=.returned (.agg #[.slice ao ls.length cap])∧w'.ownsRow w.heap.size 113 3 (.slice ao ls.length cap) ls.length (Ag ls)∧BW w w'
theorem Hh (ao:Option Addr) (cap:Nat) (ls:List Ln) (w:World) (hz:Ai w ao ls) (hn:ls.length≤1048577) :
  Calls prog 123 #[.agg #[.slice ao ls.length cap]] w (rG w ls):=by
 obtain ⟨W,hW⟩:∃ W,W=((w.alloc (.cells #[.slice ao ls.length cap] 29)).alloc (.cells #[.slice none 0 0] 29)).alloc (.cells #[] 113):=⟨_,rfl⟩
 have hWs:W.heap.size=w.heap.size+3:=by rw [hW];simp
 have bW:BW w W:=by rw [hW];go_grown
 have HOE:Hid (W.ownsRow (w.heap.size+2) 113 3 (.slice (some ⟨w.heap.size+1+1,0,none⟩) 0 0) 0 (Ag [])):=by
  have h:=World.ownsRow_lit (base:=w.heap.size+2) (e:=113) (size:=3) ((w.alloc (.cells #[.slice ao ls.length cap] 29)).alloc (.cells #[.slice none 0 0] 29)) #[] 0 (by simp) (by unfold maxLen;omega) rfl
  rw [Hid,hW];simpa [Ag] using h
 have HZ:Hid (Ai W ao ls):=hz.below bW
 have c1:W.cell? ⟨w.heap.size+1,0,none⟩=some (.slice none 0 0):=by rw [hW];simp [go_sem]
 have c0:W.cell? ⟨w.heap.size,0,none⟩=some (.slice ao ls.length cap):=by rw [hW];simp [go_sem]
 have z1:W.frozen? ⟨w.heap.size+1,0,none⟩=false:=by rw [hW];simp [go_sem]
 have HWE:Hid _:=hW;have HWZ:Hid _:=hWs;clear hz
 go_enter func123,ntmps123
 have HSTEP:Hid (∀ v2 w2,w2.ownsRow (w.heap.size+2) 113 3 v2 (0+ls.length) (Ag []++Ag ls)→W.grownBy w2 (Value.slice (some ⟨w.heap.size+1+1,0,none⟩) 0 0).ownBlock→∃ a2 k2,v2=.slice a2 ls.length k2∧w2.ownsRow (w.heap.size+2) 113 3 (.slice a2 ls.length k2) ls.length (Ag ls) ∧
   w2.cell? ⟨w.heap.size+1,0,none⟩=some (.slice none 0 0)∧w2.frozen? ⟨w.heap.size+1,0,none⟩=false∧BW w w2):=by
  intro v2 w2 o2 g2
  rw [Nat.zero_add,show Ag []++Ag ls=Ag ls from rfl] at o2
  obtain ⟨a2,k2,hv2,-,-⟩:=Ef o2;subst hv2
  have hne:some (w.heap.size+1)≠(Value.slice (some ⟨w.heap.size+1+1,0,none⟩) 0 0).ownBlock:=by simp [Value.ownBlock]
  exact ⟨a2,k2,rfl,o2,(g2.cell_far ⟨w.heap.size+1,0,none⟩ (by show w.heap.size+1<W.heap.size;omega) hne).trans c1,(g2.frozen_far ⟨w.heap.size+1,0,none⟩ (by show w.heap.size+1<W.heap.size;omega) hne).trans z1,bW.grown g2 bW.size (fun j hj=>by
   have:w.heap.size+1+1=j:=by simpa [Value.ownBlock] using hj
   omega)⟩
 clear c1 z1
 go_wp2_with (at_builtin;rw [← HWE.o];refine Gp _ rfl (.tmp 3) (.tmp 5) rfl (w.heap.size+2) _ 0 _ rfl HOE.o ao cap ls rfl HZ.o (by omega) (by have:=HWZ.o;omega) ?_;intro v2 w2 o2 g2;obtain ⟨a2,k2,hv2,o3,d1,e1,b2⟩:=HSTEP.o v2 w2 o2 g2;subst hv2;have HO3:Hid (w2.ownsRow (w.heap.size+2) 113 3 (.slice a2 ls.length k2) ls.length (Ag ls)):=o3;have HB2:Hid (BW w w2):=b2;clear o2 g2 o3 b2)
 refine bodyPost_ret (by simp [results,results123,go_sem,d1];try rfl) rfl ?_
 refine ⟨a2,k2,rfl,?_,HB2.o.setCell (by show w.heap.size≤w.heap.size+1;omega) _⟩
 exact Bi (A5 HO3.o _ _ (fun g hg=>by have:=(HO3.o.lt g hg).1;simp only;omega)) (by omega)
theorem Hb {w:World} {base n sz:Nat} {t:TypeId} {v:Value} {xs:List Value} (h:w.ownsRow base t sz v n xs):∃ ao cap,v=.slice ao n cap:=by
 rcases h.2 with ⟨rfl,rfl⟩ | ⟨g,c,uV,rfl,_⟩
 ·exact ⟨none,0,rfl⟩
 ·exact ⟨_,c,rfl⟩
theorem Jz {u w2:World} {o:Obj} {g:Nat} (hg:g=u.heap.size) (h:(u.alloc o).grownBy w2 (some g)):BW u w2 :=
 (((Below.refl u.heap.size u).alloc nL o)).grown h (by simp) (fun k hk=>by cases hk;omega)
def Dt (a:Option Addr) (n:Nat):Prop:=∀ x,a=some x→x.block<n
def Cm (a:Option Addr) (n:Nat):Prop:=∀ x,a=some x→n≤x.block
theorem G8 {w:World} {base n cap sz m:Nat} {t:TypeId} {a:Option Addr} {xs:List Value} (h:w.ownsRow base t sz (.slice a n cap) n xs) (hm:w.heap.size≤m):Dt a m:=by
 intro x hx;subst hx
 have:=(h.lt x.block rfl).2
 omega
theorem Cw {w:World} {base n cap sz:Nat} {t:TypeId} {a:Option Addr} {xs:List Value} (h:w.ownsRow base t sz (.slice a n cap) n xs):Cm a base:=by
 intro x hx;subst hx;exact (h.lt x.block rfl).1
structure CpR (w:World) (b:Bk) (e:Ending) (w':World):Prop where
 res:∃ q base,e=.returned (C5 b q)∧Aq w' b q∧w'.ownsRow base 9 1 (.slice q.g b.log.length q.gc) b.log.length (Am b.log)∧w.heap.size≤base∧base≤w'.heap.size∧(Dt q.o base∧Dt q.a base∧Dt q.c base∧Dt q.l base)∧(Cm q.o w.heap.size∧Cm q.a w.heap.size∧Cm q.c w.heap.size∧Cm q.l w.heap.size∧Cm q.g w.heap.size)
 bel:BW w w'
theorem Oq (b:Bk) (p:Bp) (w:World) (hx:Aq w b p) (hn:D0 b) :
  Calls prog 71 #[C5 b p] w (CpR w b):=by
 have HX:Hid (∀ u,BW w u→Aq u b p):=fun u h=>hx.below h
 have HN:Hid (D0 b):=hn;clear hx hn;obtain ⟨td,fo,az,cs,ls,lg⟩:=b;obtain ⟨o,oc,a,ac,c,cc,l,lc,g,gc⟩:=p;unfold C5
 simp only
 obtain ⟨u0,hu0⟩:∃ u,u=(w.alloc (.cells #[.int .i64 td,.slice o fo.length oc,.slice a az.length ac,.slice c cs.length cc,.slice l ls.length lc,.slice g lg.length gc] 31)).alloc (.cells qzB 31):=⟨_,rfl⟩
 have HB0:Hid (BW w u0):=by rw [Hid,hu0];go_grown
 have HS0:Hid (w.heap.size+1+1≤u0.heap.size):=by rw [Hid,hu0];simp
 have HZ0:Hid (Z6 w.heap.size (.int .i64 td) (.slice o fo.length oc) (.slice a az.length ac) (.slice c cs.length cc) (.slice l ls.length lc) (.slice g lg.length gc) u0):=by
  rw [Hid,hu0];exact (Z6.new w (.int .i64 td) (.slice o fo.length oc) (.slice a az.length ac) (.slice c cs.length cc) (.slice l ls.length lc) (.slice g lg.length gc) 31).below (bR.alloc nL _)
 have HR0:Hid (Z6 (w.heap.size+1) (.int .i64 0) (.slice none 0 0) (.slice none 0 0) (.slice none 0 0) (.slice none 0 0) (.slice none 0 0) u0):=by
  have h:=Z6.new (w.alloc (.cells #[.int .i64 td,.slice o fo.length oc,.slice a az.length ac,.slice c cs.length cc,.slice l ls.length lc,.slice g lg.length gc] 31)) (.int .i64 0) (.slice none 0 0) (.slice none 0 0) (.slice none 0 0) (.slice none 0 0) (.slice none 0 0) 31
  rw [Hid,hu0];simpa using h
 have HU0:Hid _:=hu0;clear hu0
 go_enter func71,ntmps71
 go_upto_region 1 with fail
 rw [← HU0.o];clear HU0
 have n1:fo.length≤1048576:=by have:=HN.o.1;simpa using this
 have x1:=(HZ0.o.below (bR.alloc nL (.cells #[] 3))).c1
 have HE1:Hid ((u0.alloc (.cells #[] 3)).ownsRow (w.heap.size+1+1) 3 1 (.slice (some ⟨u0.heap.size,0,none⟩) 0 0) 0 []):=by
  have h:=World.ownsRow_lit (base:=w.heap.size+1+1) (e:=3) (size:=1) u0 #[] 0 HS0.o (by unfold maxLen;omega) rfl
  rw [Hid];simpa using h
 have HI1:Hid _:=(HX.o _ (HB0.o.alloc HB0.o.size (.cells #[] 3))).off
 simp only at HI1
 have HP1:Hid (∀ v2 w2,w2.ownsRow (w.heap.size+1+1) 3 1 v2 (0+fo.length) ([]++(fo.map (Value.int .i64)))→(u0.alloc (.cells #[] 3)).grownBy w2 (some u0.heap.size)→∃ a9 k9,v2=.slice a9 fo.length k9∧w2.ownsRow (w.heap.size+1+1) 3 1 (.slice a9 fo.length k9) fo.length (fo.map (Value.int .i64))∧Z6 w.heap.size (.int .i64 td) (.slice o fo.length oc) (.slice a az.length ac) (.slice c cs.length cc) (.slice l ls.length lc) (.slice g lg.length gc) w2∧BW u0 w2):=by
  intro v2 w2 o2 g2;rw [Nat.zero_add,List.nil_append] at o2;obtain ⟨a9,k9,hv⟩:=Hb o2;subst hv;have b2:=Jz rfl g2;exact ⟨a9,k9,rfl,o2,HZ0.o.below b2,b2⟩
 go_upto_region 2 with (at_builtin;refine Gf _ rfl (.tmp 3) (.tmp 5) rfl (w.heap.size+1+1) _ 0 [] rfl HE1.o o oc fo rfl HI1.o (by omega) (by have:=HS0.o;simp;omega) ?_;intro v2 w2 o2 g2;obtain ⟨b1,k1,hv2,r1,zz,bb⟩:=HP1.o v2 w2 o2 g2;subst hv2;have y1:=zz.c1;have f1:=zz.z1;have HRW1:Hid _:=r1;have HZW1:Hid _:=zz;have HBB1:Hid _:=bb;clear o2 g2 zz bb r1)
 clear HE1 HI1 HP1 x1;obtain ⟨u1,hu1⟩:∃ u,u=w2.setCell ⟨w.heap.size,1,none⟩ (.slice b1 fo.length k1):=⟨_,rfl⟩
 have HZ1:Hid (Z6 w.heap.size (.int .i64 td) (.slice b1 fo.length k1) (.slice a az.length ac) (.slice c cs.length cc) (.slice l ls.length lc) (.slice g lg.length gc) u1):=by rw [Hid,hu1];exact HZW1.o.set1 _
 have HR1:Hid (Z6 (w.heap.size+1) (.int .i64 0) (.slice none 0 0) (.slice none 0 0) (.slice none 0 0) (.slice none 0 0) (.slice none 0 0) u1):=by rw [Hid,hu1];exact (HR0.o.below HBB1.o).far (by omega)
 have HB1:Hid (BW w u1):=by rw [Hid,hu1];exact (next HB0.o HBB1.o).setCell nL _
 have HS1:Hid (w.heap.size+1+1≤u1.heap.size):=by rw [Hid,hu1];have:=HBB1.o.size;have:=HS0.o;simp;omega
 have HO1_1:Hid (u1.ownsRow (w.heap.size+1+1) 3 1 (.slice b1 fo.length k1) fo.length (fo.map (Value.int .i64))):=by rw [Hid,hu1];exact Ad (HRW1.o) (by omega)
 rw [← hu1];clear hu1 y1 f1 HZW1 HRW1 HBB1 HZ0 HR0 HB0 HS0 n1
 have n2:az.length≤1048576:=by have:=HN.o.2.1;simpa using this
 have x2:=(HZ1.o.below (bR.alloc nL (.cells #[] 107))).c2
 have HE2:Hid ((u1.alloc (.cells #[] 107)).ownsRow (w.heap.size+1+1) 107 6 (.slice (some ⟨u1.heap.size,0,none⟩) 0 0) 0 []):=by
  have h:=World.ownsRow_lit (base:=w.heap.size+1+1) (e:=107) (size:=6) u1 #[] 0 HS1.o (by unfold maxLen;omega) rfl
  rw [Hid];simpa using h
 have HI2:Hid _:=(HX.o _ (HB1.o.alloc HB1.o.size (.cells #[] 107))).az
 simp only at HI2
 have HP2:Hid (∀ v2 w2,w2.ownsRow (w.heap.size+1+1) 107 6 v2 (0+az.length) ([]++(Ah az))→(u1.alloc (.cells #[] 107)).grownBy w2 (some u1.heap.size)→∃ a9 k9,v2=.slice a9 az.length k9∧w2.ownsRow (w.heap.size+1+1) 107 6 (.slice a9 az.length k9) az.length (Ah az)∧Z6 w.heap.size (.int .i64 td) (.slice b1 fo.length k1) (.slice a az.length ac) (.slice c cs.length cc) (.slice l ls.length lc) (.slice g lg.length gc) w2∧BW u1 w2):=by
  intro v2 w2 o2 g2;rw [Nat.zero_add,List.nil_append] at o2;obtain ⟨a9,k9,hv⟩:=Hb o2;subst hv;have b2:=Jz rfl g2;exact ⟨a9,k9,rfl,o2,HZ1.o.below b2,b2⟩
 go_upto_region 3 with (at_builtin;refine Bu _ rfl (.tmp 8) (.tmp 10) rfl (w.heap.size+1+1) _ 0 [] rfl HE2.o a ac az rfl HI2.o (by omega) (by have:=HS1.o;simp;omega) ?_;intro v2 w2 o2 g2 _;obtain ⟨b2,k2,hv2,r2,zz,bb⟩:=HP2.o v2 w2 o2 g2;subst hv2;have y2:=zz.c2;have f2:=zz.z2;have HRW2:Hid _:=r2;have HZW2:Hid _:=zz;have HBB2:Hid _:=bb;clear o2 g2 zz bb r2)
 clear HE2 HI2 HP2 x2;obtain ⟨u2,hu2⟩:∃ u,u=w2.setCell ⟨w.heap.size,2,none⟩ (.slice b2 az.length k2):=⟨_,rfl⟩
 have HZ2:Hid (Z6 w.heap.size (.int .i64 td) (.slice b1 fo.length k1) (.slice b2 az.length k2) (.slice c cs.length cc) (.slice l ls.length lc) (.slice g lg.length gc) u2):=by rw [Hid,hu2];exact HZW2.o.set2 _
 have HR2:Hid (Z6 (w.heap.size+1) (.int .i64 0) (.slice none 0 0) (.slice none 0 0) (.slice none 0 0) (.slice none 0 0) (.slice none 0 0) u2):=by rw [Hid,hu2];exact (HR1.o.below HBB2.o).far (by omega)
 have HB2:Hid (BW w u2):=by rw [Hid,hu2];exact (next HB1.o HBB2.o).setCell nL _
 have HS2:Hid (w.heap.size+1+1≤u2.heap.size):=by rw [Hid,hu2];have:=HBB2.o.size;have:=HS1.o;simp;omega
 have HO1_2:Hid (u2.ownsRow (w.heap.size+1+1) 3 1 (.slice b1 fo.length k1) fo.length (fo.map (Value.int .i64))):=by rw [Hid,hu2];exact Ad (Av HO1_1.o HBB2.o) (by omega)
 have HO2_2:Hid (u2.ownsRow (w.heap.size+1+1) 107 6 (.slice b2 az.length k2) az.length (Ah az)):=by rw [Hid,hu2];exact Ad (HRW2.o) (by omega)
 rw [← hu2];clear hu2 y2 f2 HZW2 HRW2 HBB2 HZ1 HR1 HB1 HS1 n2 HO1_1
 have n3:cs.length≤1048576:=by have:=HN.o.2.2.1;simpa using this
 have x3:=(HZ2.o.below (bR.alloc nL (.cells #[] 61))).c3
 have HE3:Hid ((u2.alloc (.cells #[] 61)).ownsRow (w.heap.size+1+1) 61 12 (.slice (some ⟨u2.heap.size,0,none⟩) 0 0) 0 []):=by
  have h:=World.ownsRow_lit (base:=w.heap.size+1+1) (e:=61) (size:=12) u2 #[] 0 HS2.o (by unfold maxLen;omega) rfl
  rw [Hid];simpa using h
 have HI3:Hid _:=(HX.o _ (HB2.o.alloc HB2.o.size (.cells #[] 61))).cs
 simp only at HI3
 have HP3:Hid (∀ v2 w2,w2.ownsRow (w.heap.size+1+1) 61 12 v2 (0+cs.length) ([]++(Aj cs))→(u2.alloc (.cells #[] 61)).grownBy w2 (some u2.heap.size)→∃ a9 k9,v2=.slice a9 cs.length k9∧w2.ownsRow (w.heap.size+1+1) 61 12 (.slice a9 cs.length k9) cs.length (Aj cs)∧Z6 w.heap.size (.int .i64 td) (.slice b1 fo.length k1) (.slice b2 az.length k2) (.slice c cs.length cc) (.slice l ls.length lc) (.slice g lg.length gc) w2∧BW u2 w2):=by
  intro v2 w2 o2 g2;rw [Nat.zero_add,List.nil_append] at o2;obtain ⟨a9,k9,hv⟩:=Hb o2;subst hv;have b2:=Jz rfl g2;exact ⟨a9,k9,rfl,o2,HZ2.o.below b2,b2⟩
 go_upto_region 4 with (at_builtin;refine Eh _ rfl (.tmp 13) (.tmp 15) rfl (w.heap.size+1+1) _ 0 [] rfl HE3.o c cc cs rfl HI3.o (by omega) (by have:=HS2.o;simp;omega) ?_;intro v2 w2 o2 g2 _;obtain ⟨b3,k3,hv2,r3,zz,bb⟩:=HP3.o v2 w2 o2 g2;subst hv2;have y3:=zz.c3;have f3:=zz.z3;have HRW3:Hid _:=r3;have HZW3:Hid _:=zz;have HBB3:Hid _:=bb;clear o2 g2 zz bb r3)
 clear HE3 HI3 HP3 x3;obtain ⟨u3,hu3⟩:∃ u,u=w2.setCell ⟨w.heap.size,3,none⟩ (.slice b3 cs.length k3):=⟨_,rfl⟩
 have HZ3:Hid (Z6 w.heap.size (.int .i64 td) (.slice b1 fo.length k1) (.slice b2 az.length k2) (.slice b3 cs.length k3) (.slice l ls.length lc) (.slice g lg.length gc) u3):=by rw [Hid,hu3];exact HZW3.o.set3 _
 have HR3:Hid (Z6 (w.heap.size+1) (.int .i64 0) (.slice none 0 0) (.slice none 0 0) (.slice none 0 0) (.slice none 0 0) (.slice none 0 0) u3):=by rw [Hid,hu3];exact (HR2.o.below HBB3.o).far (by omega)
 have HB3:Hid (BW w u3):=by rw [Hid,hu3];exact (next HB2.o HBB3.o).setCell nL _
 have HS3:Hid (w.heap.size+1+1≤u3.heap.size):=by rw [Hid,hu3];have:=HBB3.o.size;have:=HS2.o;simp;omega
 have HO1_3:Hid (u3.ownsRow (w.heap.size+1+1) 3 1 (.slice b1 fo.length k1) fo.length (fo.map (Value.int .i64))):=by rw [Hid,hu3];exact Ad (Av HO1_2.o HBB3.o) (by omega)
 have HO2_3:Hid (u3.ownsRow (w.heap.size+1+1) 107 6 (.slice b2 az.length k2) az.length (Ah az)):=by rw [Hid,hu3];exact Ad (Av HO2_2.o HBB3.o) (by omega)
 have HO3_3:Hid (u3.ownsRow (w.heap.size+1+1) 61 12 (.slice b3 cs.length k3) cs.length (Aj cs)):=by rw [Hid,hu3];exact Ad (HRW3.o) (by omega)
 rw [← hu3];clear hu3 y3 f3 HZW3 HRW3 HBB3 HZ2 HR2 HB2 HS2 n3 HO1_2 HO2_2
 have n4:ls.length≤1048576:=by have:=HN.o.2.2.2.1;simpa using this
 have x4:=HZ3.o.c4;have zf4:=HZ3.o.z4;go_wp2_with fail
 refine (Hh _ _ ls _ (HX.o _ HB3.o).ls (by omega)).mono ?_
 rintro e w2 ⟨b4,k4,rfl,o4,bb⟩;have HRW4:Hid (w2.ownsRow (w.heap.size+1+1) 113 3 (.slice b4 ls.length k4) ls.length (Ag ls)):=Bi o4 HS3.o;have HZW4:Hid (Z6 w.heap.size (.int .i64 td) (.slice b1 fo.length k1) (.slice b2 az.length k2) (.slice b3 cs.length k3) (.slice l ls.length lc) (.slice g lg.length gc) w2):=HZ3.o.below bb;have HBB4:Hid _:=bb;have y4:=HZW4.o.c4;have f4:=HZW4.o.z4;clear bb o4 x4 zf4;go_upto_region 5 with fail
 obtain ⟨u4,hu4⟩:∃ u,u=w2.setCell ⟨w.heap.size,4,none⟩ (.slice b4 ls.length k4):=⟨_,rfl⟩
 have HZ4:Hid (Z6 w.heap.size (.int .i64 td) (.slice b1 fo.length k1) (.slice b2 az.length k2) (.slice b3 cs.length k3) (.slice b4 ls.length k4) (.slice g lg.length gc) u4):=by rw [Hid,hu4];exact HZW4.o.set4 _
 have HR4:Hid (Z6 (w.heap.size+1) (.int .i64 0) (.slice none 0 0) (.slice none 0 0) (.slice none 0 0) (.slice none 0 0) (.slice none 0 0) u4):=by rw [Hid,hu4];exact (HR3.o.below HBB4.o).far (by omega)
 have HB4:Hid (BW w u4):=by rw [Hid,hu4];exact (next HB3.o HBB4.o).setCell nL _
 have HS4:Hid (w.heap.size+1+1≤u4.heap.size):=by rw [Hid,hu4];have:=HBB4.o.size;have:=HS3.o;simp;omega
 have HO1_4:Hid (u4.ownsRow (w.heap.size+1+1) 3 1 (.slice b1 fo.length k1) fo.length (fo.map (Value.int .i64))):=by rw [Hid,hu4];exact Ad (Av HO1_3.o HBB4.o) (by omega)
 have HO2_4:Hid (u4.ownsRow (w.heap.size+1+1) 107 6 (.slice b2 az.length k2) az.length (Ah az)):=by rw [Hid,hu4];exact Ad (Av HO2_3.o HBB4.o) (by omega)
 have HO3_4:Hid (u4.ownsRow (w.heap.size+1+1) 61 12 (.slice b3 cs.length k3) cs.length (Aj cs)):=by rw [Hid,hu4];exact Ad (Av HO3_3.o HBB4.o) (by omega)
 have HO4_4:Hid (u4.ownsRow (w.heap.size+1+1) 113 3 (.slice b4 ls.length k4) ls.length (Ag ls)):=by rw [Hid,hu4];exact Ad (HRW4.o) (by omega)
 rw [← hu4];clear hu4 y4 f4 HZW4 HRW4 HBB4 HZ3 HR3 HB3 HS3 n4 HO1_3 HO2_3 HO3_3
 have n5:lg.length≤1048576:=by have:=HN.o.2.2.2.2;simpa using this
 have x5:=(HZ4.o.below (bR.alloc nL (.cells #[] 9))).c5;obtain ⟨BS5,hBS⟩:∃ n,n=u4.heap.size:=⟨_,rfl⟩
 have HBS:Hid (w.heap.size+1+1≤BS5∧BS5≤u4.heap.size):=by rw [Hid,hBS];exact ⟨HS4.o,nL⟩
 have HAH:Hid (Dt b1 BS5∧Dt b2 BS5∧Dt b3 BS5∧Dt b4 BS5):=by
  rw [Hid,hBS];exact ⟨G8 HO1_4.o nL,G8 HO2_4.o nL,G8 HO3_4.o nL,G8 HO4_4.o nL⟩
 clear hBS
 have HE5:Hid ((u4.alloc (.cells #[] 9)).ownsRow BS5 9 1 (.slice (some ⟨u4.heap.size,0,none⟩) 0 0) 0 []):=by
  have h:=World.ownsRow_lit (base:=BS5) (e:=9) (size:=1) u4 #[] 0 HBS.o.2 (by unfold maxLen;omega) rfl
  rw [Hid];simpa using h
 have HI5:Hid _:=(HX.o _ (HB4.o.alloc HB4.o.size (.cells #[] 9))).log
 simp only at HI5
 have HP5:Hid (∀ v2 w2,w2.ownsRow BS5 9 1 v2 (0+lg.length) ([]++(Am lg))→(u4.alloc (.cells #[] 9)).grownBy w2 (some u4.heap.size)→∃ a9 k9,v2=.slice a9 lg.length k9∧w2.ownsRow BS5 9 1 (.slice a9 lg.length k9) lg.length (Am lg)∧Z6 w.heap.size (.int .i64 td) (.slice b1 fo.length k1) (.slice b2 az.length k2) (.slice b3 cs.length k3) (.slice b4 ls.length k4) (.slice g lg.length gc) w2∧BW u4 w2):=by
  intro v2 w2 o2 g2;rw [Nat.zero_add,List.nil_append] at o2;obtain ⟨a9,k9,hv⟩:=Hb o2;subst hv;have b2:=Jz rfl g2;exact ⟨a9,k9,rfl,o2,HZ4.o.below b2,b2⟩
 go_upto_region 6 with (at_builtin;refine Kh _ rfl (.tmp 22) (.tmp 24) rfl BS5 _ 0 [] rfl HE5.o g gc lg rfl HI5.o (by omega) (by have:=HBS.o;simp;omega) ?_;intro v2 w2 o2 g2;obtain ⟨b5,k5,hv2,r5,zz,bb⟩:=HP5.o v2 w2 o2 g2;subst hv2;have y5:=zz.c5;have f5:=zz.z5;have HRW5:Hid _:=r5;have HZW5:Hid _:=zz;have HBB5:Hid _:=bb;clear o2 g2 zz bb r5)
 clear HE5 HI5 HP5 x5;obtain ⟨u5,hu5⟩:∃ u,u=w2.setCell ⟨w.heap.size,5,none⟩ (.slice b5 lg.length k5):=⟨_,rfl⟩
 have HZ5:Hid (Z6 w.heap.size (.int .i64 td) (.slice b1 fo.length k1) (.slice b2 az.length k2) (.slice b3 cs.length k3) (.slice b4 ls.length k4) (.slice b5 lg.length k5) u5):=by rw [Hid,hu5];exact HZW5.o.set5 _
 have HR5:Hid (Z6 (w.heap.size+1) (.int .i64 0) (.slice none 0 0) (.slice none 0 0) (.slice none 0 0) (.slice none 0 0) (.slice none 0 0) u5):=by rw [Hid,hu5];exact (HR4.o.below HBB5.o).far (by omega)
 have HB5S:Hid (BS5≤u5.heap.size):=by rw [Hid,hu5];have:=HBB5.o.size;have:=HBS.o;simp;omega
 have HB5:Hid (BW w u5):=by rw [Hid,hu5];exact (next HB4.o HBB5.o).setCell nL _
 have HS5:Hid (w.heap.size+1+1≤u5.heap.size):=by rw [Hid,hu5];have:=HBB5.o.size;have:=HS4.o;simp;omega
 have HO1_5:Hid (u5.ownsRow (w.heap.size+1+1) 3 1 (.slice b1 fo.length k1) fo.length (fo.map (Value.int .i64))):=by rw [Hid,hu5];exact Ad (Av HO1_4.o HBB5.o) (by omega)
 have HO2_5:Hid (u5.ownsRow (w.heap.size+1+1) 107 6 (.slice b2 az.length k2) az.length (Ah az)):=by rw [Hid,hu5];exact Ad (Av HO2_4.o HBB5.o) (by omega)
 have HO3_5:Hid (u5.ownsRow (w.heap.size+1+1) 61 12 (.slice b3 cs.length k3) cs.length (Aj cs)):=by rw [Hid,hu5];exact Ad (Av HO3_4.o HBB5.o) (by omega)
 have HO4_5:Hid (u5.ownsRow (w.heap.size+1+1) 113 3 (.slice b4 ls.length k4) ls.length (Ag ls)):=by rw [Hid,hu5];exact Ad (Av HO4_4.o HBB5.o) (by omega)
 have HO5_5:Hid (u5.ownsRow BS5 9 1 (.slice b5 lg.length k5) lg.length (Am lg)):=by rw [Hid,hu5];exact Ad (HRW5.o) (by have:=HBS.o;omega)
 rw [← hu5];clear hu5 y5 f5 HZW5 HRW5 HBB5 HZ4 HR4 HB4 HS4 n5 HO1_4 HO2_4 HO3_4 HO4_4;have HBZ:Hid (BS5≤u5.heap.size):=HB5S.o;obtain ⟨t0,t1,t2,t3,t4,t5,-,-,-,-,-,-⟩:=HZ5.o;obtain ⟨q0,q1,q2,q3,q4,q5,p0,p1,p2,p3,p4,p5⟩:=HR5.o;go_wp2
 refine bodyPost_ret (by simp [results,results71,go_sem,q0,q1,q2,q3,q4,q5];try rfl) rfl ?_
 have bel:∀ (i:Nat) (x:Value) (u:World),BW w u→Below w.heap.size w (u.setCell ⟨w.heap.size+1,i,none⟩ x):=fun i x u h=>h.setCell (show w.heap.size≤w.heap.size+1 by omega) x
 have hbs:=HBS.o
 refine ⟨⟨⟨b1,k1,b2,k2,b3,k3,b4,k4,b5,k5⟩,BS5,rfl,⟨Hq (Ad (Ad (Ad (Ad (Ad (Ad (HO1_5.o) (by omega)) (by omega)) (by omega)) (by omega)) (by omega)) (by omega)),Fd (Ad (Ad (Ad (Ad (Ad (Ad (HO2_5.o) (by omega)) (by omega)) (by omega)) (by omega)) (by omega)) (by omega)),F2 (Ad (Ad (Ad (Ad (Ad (Ad (HO3_5.o) (by omega)) (by omega)) (by omega)) (by omega)) (by omega)) (by omega)),Df (Ad (Ad (Ad (Ad (Ad (Ad (HO4_5.o) (by omega)) (by omega)) (by omega)) (by omega)) (by omega)) (by omega)),Ep (Ad (Ad (Ad (Ad (Ad (Ad (HO5_5.o) (by omega)) (by omega)) (by omega)) (by omega)) (by omega)) (by omega))⟩,(Ad (Ad (Ad (Ad (Ad (Ad (HO5_5.o) (by omega)) (by omega)) (by omega)) (by omega)) (by omega)) (by omega)),by omega,by simpa using HBZ.o,HAH.o,⟨Cw (Bi HO1_5.o (show w.heap.size≤_ by omega)),Cw (Bi HO2_5.o (show w.heap.size≤_ by omega)),Cw (Bi HO3_5.o (show w.heap.size≤_ by omega)),Cw (Bi HO4_5.o (show w.heap.size≤_ by omega)),Cw (Bi HO5_5.o (show w.heap.size≤_ by omega))⟩⟩,bel _ _ _ (bel _ _ _ (bel _ _ _ (bel _ _ _ (bel _ _ _ (bel _ _ _ HB5.o)))))⟩
def Im (a:Option Addr) (B:Nat):Prop:=∀ x,a=some x→x.block≠B
theorem An (u:World) (B i:Nat) (x:Value):u.grownBy (u.setCell ⟨B,i,none⟩ x) (some B):=⟨rfl,rfl,rfl,by simp,fun j _ hj=>Below.heap_setCell _ _ _ _ (fun e=>hj (by rw [e]))⟩
theorem Mi {b off:Nat} {a:Option Addr} {row:Option Nat} (ha:a=some ⟨b,off,none⟩) (h:∀ B,row=some B→Im a B):some b≠row:=fun e=>h b e.symm _ ha rfl
theorem Aw.far {u u':World} {a:Option Addr} {zs:List Int} {row:Option Nat} (h:Aw u a zs) (g:u.grownBy u' row) (hne:∀ B,row=some B→Im a B):Aw u' a zs:=by
 rcases h with h | ⟨b,off,h1,h2,h3⟩
 ·exact .inl h
 ·exact .inr ⟨b,off,h1,Nat.lt_of_lt_of_le h2 g.size,fun i hi=>(g.cell_far ⟨b,off+i,none⟩ h2 (Mi h1 hne)).trans (h3 i hi)⟩
theorem Bh.far {u u':World} {a:Option Addr} {rs:Be} {row:Option Nat} (h:Bh u a rs) (g:u.grownBy u' row) (hne:∀ B,row=some B→Im a B):Bh u' a rs:=by
 rcases h with h | ⟨b,off,h1,h2,h3⟩
 ·exact .inl h
 ·exact .inr ⟨b,off,h1,Nat.lt_of_lt_of_le h2 g.size,fun i hi=>(g.cell_far ⟨b,off+i,none⟩ h2 (Mi h1 hne)).trans (h3 i hi)⟩
theorem Ar.far {u u':World} {a:Option Addr} {az:List Au} {row:Option Nat} (h:Ar u a az) (g:u.grownBy u' row) (hne:∀ B,row=some B→Im a B):Ar u' a az:=by
 rcases h with h | ⟨b,off,h1,h2,h3⟩
 ·exact .inl h
 ·have hs:=Mi h1 hne
  exact .inr ⟨b,off,h1,Nat.lt_of_lt_of_le h2 g.size,fun i hi=>⟨(g.cell_far ⟨b,off+i*6,none⟩ h2 hs).trans (h3 i hi).1,(g.cell_far ⟨b,off+i*6+1,none⟩ h2 hs).trans (h3 i hi).2.1,(g.cell_far ⟨b,off+i*6+2,none⟩ h2 hs).trans (h3 i hi).2.2.1,(g.cell_far ⟨b,off+i*6+3,none⟩ h2 hs).trans (h3 i hi).2.2.2.1,(g.cell_far ⟨b,off+i*6+4,none⟩ h2 hs).trans (h3 i hi).2.2.2.2.1,(g.cell_far ⟨b,off+i*6+5,none⟩ h2 hs).trans (h3 i hi).2.2.2.2.2⟩⟩
theorem A0.far {u u':World} {a:Option Addr} {cs:List Cs} {row:Option Nat} (h:A0 u a cs) (g:u.grownBy u' row) (hne:∀ B,row=some B→Im a B):A0 u' a cs:=by
 rcases h with h | ⟨b,off,h1,h2,h3⟩
 ·exact .inl h
 ·exact .inr ⟨b,off,h1,Nat.lt_of_lt_of_le h2 g.size,fun i hi=>(h3 i hi).grown g (Mi h1 hne)⟩
theorem Ai.far {u u':World} {a:Option Addr} {ls:List Ln} {row:Option Nat} (h:Ai u a ls) (g:u.grownBy u' row) (hne:∀ B,row=some B→Im a B):Ai u' a ls:=by
 rcases h with h | ⟨b,off,h1,h2,h3⟩
 ·exact .inl h
 ·have hs:=Mi h1 hne
  exact .inr ⟨b,off,h1,Nat.lt_of_lt_of_le h2 g.size,fun i hi=>⟨(g.cell_far ⟨b,off+i*3,none⟩ h2 hs).trans (h3 i hi).1,(g.cell_far ⟨b,off+i*3+1,none⟩ h2 hs).trans (h3 i hi).2.1,(g.cell_far ⟨b,off+i*3+2,none⟩ h2 hs).trans (h3 i hi).2.2⟩⟩
structure Wq (q:Bp) (B:Nat):Prop where
 o:Im q.o B
 a:Im q.a B
 c:Im q.c B
 l:Im q.l B
 g:Im q.g B
theorem Aq.set {u:World} {b:Bk} {q:Bp} {B i:Nat} {x:Value} (h:Aq u b q) (n:Wq q B):Aq (u.setCell ⟨B,i,none⟩ x) b q :=
 ⟨h.off.far (An u B i x) (fun B' e=>by cases e;exact n.o),h.az.far (An u B i x) (fun B' e=>by cases e;exact n.a),h.cs.far (An u B i x) (fun B' e=>by cases e;exact n.c),h.ls.far (An u B i x) (fun B' e=>by cases e;exact n.l),h.log.far (An u B i x) (fun B' e=>by cases e;exact n.g)⟩
theorem Aq.put6 {u:World} {b:Bk} {q:Bp} {B:Nat} (h:Aq u b q) (n:Wq q B) (x0 x1 x2 x3 x4 x5:Value) :
  Aq ((((((u.setCell ⟨B,0,none⟩ x0).setCell ⟨B,1,none⟩ x1).setCell ⟨B,2,none⟩ x2).setCell ⟨B,3,none⟩ x3).setCell ⟨B,4,none⟩ x4).setCell ⟨B,5,none⟩ x5) b q :=
 (((((h.set n).set n).set n).set n).set n).set n
theorem Bb {a:Option Addr} {n B:Nat} (h:Cm a n) (hB:B<n):Im a B:=fun x hx e=>by have:=h x hx;omega
theorem Td {a:Option Addr} {n B:Nat} (h:Dt a n) (hB:n≤B):Im a B:=fun x hx e=>by have:=h x hx;omega
structure Vb (p:Bp) (n:Nat):Prop where
 o:Dt p.o n
 a:Dt p.a n
 c:Dt p.c n
 l:Dt p.l n
 g:Dt p.g n
theorem Dt.mono {a:Option Addr} {n m:Nat} (h:Dt a n) (hm:n≤m):Dt a m:=fun x hx=>by have:=h x hx;omega
theorem Kf {a a1:Option Addr} {n m B:Nat} (h:a=a1∨Cm a m) (h1:Dt a1 n) (hb:n≤B) (hB:B<m):Im a B:=by
 rcases h with rfl | h
 ·exact Td h1 hb
 ·exact Bb h hB
theorem nX {p q:Bp} {n m B:Nat} (h:Vb p n) (hg:q.g=p.g) (hp:q.o=p.o∧(q.a=p.a∨Cm q.a m)∧(q.c=p.c∨Cm q.c m)∧(q.l=p.l∨Cm q.l m)) (hb:n≤B) (hB:B<m):Wq q B :=
 ⟨Kf (m:=m) (.inl hp.1) h.o hb hB,Kf hp.2.1 h.a hb hB,Kf hp.2.2.1 h.c hb hB,Kf hp.2.2.2 h.l hb hB,Kf (m:=m) (.inl hg) h.g hb hB⟩
theorem Z6.put6 {B:Nat} {v0 v1 v2 v3 v4 v5:Value} {u:World} (h:Z6 B v0 v1 v2 v3 v4 v5 u) (x0 x1 x2 x3 x4 x5:Value) :
  Z6 B x0 x1 x2 x3 x4 x5 ((((((u.setCell ⟨B,0,none⟩ x0).setCell ⟨B,1,none⟩ x1).setCell ⟨B,2,none⟩ x2).setCell ⟨B,3,none⟩ x3).setCell ⟨B,4,none⟩ x4).setCell ⟨B,5,none⟩ x5) :=
 (((((h.set0 x0).set1 x1).set2 x2).set3 x3).set4 x4).set5 x5
theorem Z6.far6 {B B':Nat} {v0 v1 v2 v3 v4 v5:Value} {u:World} (h:Z6 B v0 v1 v2 v3 v4 v5 u) (hne:B'≠B) (x0 x1 x2 x3 x4 x5:Value) :
  Z6 B v0 v1 v2 v3 v4 v5 ((((((u.setCell ⟨B',0,none⟩ x0).setCell ⟨B',1,none⟩ x1).setCell ⟨B',2,none⟩ x2).setCell ⟨B',3,none⟩ x3).setCell ⟨B',4,none⟩ x4).setCell ⟨B',5,none⟩ x5) :=
 (((((h.far hne).far hne).far hne).far hne).far hne).far hne
structure Ff where
 prune:List Au→Int→List Au
 use:List Au→Int→List Au
 useOk:List Au→Int→Bool
 add:List Au→Au→List Au
 addOk:List Au→Au→Bool
 best:List Au→Int→Int→Int→Int→Int→Prop
 stC:Int→Int→Int→Int→Int→Cs
 stE:Int→Int→Int→Int→Int→List En
 stOk:Int→Int→Int→Int→Int→Bool
 doC:Cs→Ac→Int→List Int→Cs
 doE:Cs→Ac→Int→List Int→List En
 doV:Cs→Ac→Int→List Int→Int
 all:List Ln→List En→List Ln
 allOk:List Ln→List En→Bool
structure Nc (F:Ff):Prop where
 prune:∀ (ao:Option Addr) (cap:Nat) (az:List Au) (t:Int) (w:World),Ar w ao az→az.length≤1048576→Calls prog 178 #[.slice ao az.length cap,.int .i64 t] w (pA w (F.prune az t))
 use:∀ (ao:Option Addr) (cap:Nat) (az:List Au) (i:Int) (w:World),Ar w ao az→az.length≤1048576→Calls prog 183 #[.slice ao az.length cap,.int .i64 i] w (Pi w (F.use az i) (F.useOk az i))
 add:∀ (ao:Option Addr) (cap:Nat) (az:List Au) (a:Au) (w:World),Ar w ao az→az.length≤1048576→a.ref.length≤1048576→Calls prog 143 #[.slice ao az.length cap,Fe a] w (Pi w (F.add az a) (F.addOk az a))
 best:∀ (ao:Option Addr) (cap:Nat) (az:List Au) (iY uV am day:Int) (w:World),Ar w ao az→az.length≤1048576→(∀ a ∈ az,a.ref.length≤1048576)→(Lit.int .i64 am).wf=true→(Lit.int .i64 day).wf=true →
  Calls prog 180 #[.slice ao az.length cap,.int .i64 iY,.int .i64 uV,.int .i64 am,.int .i64 day] w fun e w'=>∃ x,e=.returned (.int .i64 x)∧F.best az iY uV am day x∧BW w w'
 start:∀ (iY aZ uV am day:Int) (w:World),Calls prog 181 #[.int .i64 iY,.int .i64 aZ,.int .i64 uV,.int .i64 am,.int .i64 day] w fun e w'=>∃ ao cap,e=.returned (.tuple #[cv (F.stC iY aZ uV am day),.slice ao (F.stE iY aZ uV am day).length cap,.bool (F.stOk iY aZ uV am day)])∧w'.ownsRow w.heap.size 269 4 (.slice ao (F.stE iY aZ uV am day).length cap) (F.stE iY aZ uV am day).length (Ba (F.stE iY aZ uV am day))∧BW w w'
 small:∀ iY aZ uV am day,(F.stE iY aZ uV am day).length≤1048576
 act:∀ (c:Cs) (a:Ac) (t:Int) (ao:Option Addr) (cp:Nat) (zs:List Int) (w:World),Aw w ao zs→zs.length≤1048576→Calls prog 184 #[cv c,av a,.int .i64 t,.slice ao zs.length cp] w fun e w'=>∃ ao cap,e=.returned (.tuple #[cv (F.doC c a t zs),.slice ao (F.doE c a t zs).length cap,.int .i64 (F.doV c a t zs)])∧w'.ownsRow w.heap.size 269 4 (.slice ao (F.doE c a t zs).length cap) (F.doE c a t zs).length (Ba (F.doE c a t zs))∧BW w w'
 few:∀ c a t zs,(F.doE c a t zs).length≤1048576
 code:∀ c a t zs,0≤F.doV c a t zs∧F.doV c a t zs≤1000
 post:∀ (ao:Option Addr) (cap:Nat) (ls:List Ln) (eo:Option Addr) (ec:Nat) (es:List En) (w:World),Ai w ao ls→ls.length≤1048576→C8 w eo es→es.length≤1048576 →
  Calls prog 182 #[.agg #[.slice ao ls.length cap],.slice eo es.length ec] w fun e w'=>∃ ao cap,e=.returned (.tuple #[.agg #[.slice ao (F.all ls es).length cap],.bool (F.allOk ls es)])∧w'.ownsRow w.heap.size 113 3 (.slice ao (F.all ls es).length cap) (F.all ls es).length (Ag (F.all ls es))∧BW w w'
def U8 (w:World) (p:Bp) (b':Bk) (code:Int) (e:Ending) (w':World):Prop :=
 ∃ q,e=.returned (.tuple #[C5 b' q,.int .i64 code])∧Aq w' b' q∧q.g=p.g∧q.gc=p.gc∧(q.o=p.o∧(q.a=p.a∨Cm q.a w.heap.size)∧(q.c=p.c∨Cm q.c w.heap.size)∧(q.l=p.l∨Cm q.l w.heap.size))∧BW w w'
theorem Ax {w u:World} {R:Nat} (hR:w.heap.size≤R) (h:BW w u) (x0 x1 x2 x3 x4 x5:Value) :
  Below w.heap.size w ((((((u.setCell ⟨R,0,none⟩ x0).setCell ⟨R,1,none⟩ x1).setCell ⟨R,2,none⟩ x2).setCell ⟨R,3,none⟩ x3).setCell ⟨R,4,none⟩ x4).setCell ⟨R,5,none⟩ x5) :=
 (((((h.setCell (p:=⟨R,0,none⟩) hR _).setCell (p:=⟨R,1,none⟩) hR _).setCell (p:=⟨R,2,none⟩) hR _).setCell (p:=⟨R,3,none⟩) hR _).setCell (p:=⟨R,4,none⟩) hR _).setCell (p:=⟨R,5,none⟩) hR _
theorem Ea {u:World} {base n size R:Nat} {t:TypeId} {v:Value} {xs:List Value} (o:u.ownsRow base t size v n xs) (hB:R<base) (x0 x1 x2 x3 x4 x5:Value) :
  ((((((u.setCell ⟨R,0,none⟩ x0).setCell ⟨R,1,none⟩ x1).setCell ⟨R,2,none⟩ x2).setCell ⟨R,3,none⟩ x3).setCell ⟨R,4,none⟩ x4).setCell ⟨R,5,none⟩ x5).ownsRow base t size v n xs :=
 Ad (Ad (Ad (Ad (Ad (Ad o hB) hB) hB) hB) hB) hB
theorem N6 {u:World} {base n size X:Nat} {t:TypeId} {v:Value} {xs:List Value} (c:Cs) (o:u.ownsRow base t size v n xs) (hB:X<base):(Cz u X c).ownsRow base t size v n xs :=
 Ad (Ad (Ad (Ad (Ad (Ad (Ad (Ad (Ad (Ad (Ad (Ad o hB) hB) hB) hB) hB) hB) hB) hB) hB) hB) hB) hB
theorem Qf {u u2:World} {t:TypeId} (bb:Below (u.alloc (.cells #[.int .i64 0,.int .i64 0,.int .i64 0,.int .i64 0,.int .i64 0,.int .i64 0,.int .i64 0,.int .i64 0,.int .i64 0,.bool false,.int .i64 0,.int .i64 0] t)).drew.heap.size (u.alloc (.cells #[.int .i64 0,.int .i64 0,.int .i64 0,.int .i64 0,.int .i64 0,.int .i64 0,.int .i64 0,.int .i64 0,.int .i64 0,.bool false,.int .i64 0,.int .i64 0] t)).drew u2) :
  CB u.heap.size 0 ⟨0,0,0,0,0,0,0,0,0,false,0,0⟩ u2∧FZ u.heap.size 0 u2∧Below (u.heap.size+1) (u.alloc (.cells #[.int .i64 0,.int .i64 0,.int .i64 0,.int .i64 0,.int .i64 0,.int .i64 0,.int .i64 0,.int .i64 0,.int .i64 0,.bool false,.int .i64 0,.int .i64 0] t)) u2:=by
 have h1:=(CB.new u ⟨0,0,0,0,0,0,0,0,0,false,0,0⟩ t).below (bR.drew)
 have h2:=(FZ.new u #[.int .i64 0,.int .i64 0,.int .i64 0,.int .i64 0,.int .i64 0,.int .i64 0,.int .i64 0,.int .i64 0,.int .i64 0,.bool false,.int .i64 0,.int .i64 0] t).below (by simp) (bR.drew)
 refine ⟨h1.below bb,h2.below (by simp) bb,?_⟩
 exact ((Below.refl (u.heap.size+1) _).drew).trans (bb.mono (by simp))
def Fg (Rel:Bk→List UInt8→Bk×Int→Prop) (b:Bk) (line:List UInt8) (r:Bk×Int):Prop :=
 (600≤b.log.length∧r=(b,2))∨(b.log.length<600∧∃ s,Rel b line s∧((s.2≠0∧r=(b,s.2))∨(s.2=0∧r=(⟨s.1.today,s.1.off,s.1.az,s.1.cs,s.1.ls,b.log++[line]⟩,0))))
structure cB (Pre:Bk→Prop) (Rel:Bk→List UInt8→Bk×Int→Prop):Prop where
 log:∀ b l r,Rel b l r→r.1.log=b.log
 small:∀ b,Pre b→D0 b
 calls:∀ (b:Bk) (p:Bp) (line:List UInt8) (w:World),Aq w b p→Vb p w.heap.size→Pre b→line.length≤1048575 →
  Calls prog 84 #[C5 b p,.string ⟨line.toArray⟩] w fun e w'=>∃ r,Rel b line r∧U8 w p r.1 r.2 e w'
theorem Z6.grown {B:Nat} {v0 v1 v2 v3 v4 v5:Value} {u u':World} {row:Option Nat} (h:Z6 B v0 v1 v2 v3 v4 v5 u) (g:u.grownBy u' row) (hr:some B≠row):Z6 B v0 v1 v2 v3 v4 v5 u':=by
 have l:=h.lt;obtain ⟨c0,c1,c2,c3,c4,c5,z0,z1,z2,z3,z4,z5⟩:=h;exact ⟨(g.cell_far ⟨B,0,none⟩ l hr).trans c0,(g.cell_far ⟨B,1,none⟩ l hr).trans c1,(g.cell_far ⟨B,2,none⟩ l hr).trans c2,(g.cell_far ⟨B,3,none⟩ l hr).trans c3,(g.cell_far ⟨B,4,none⟩ l hr).trans c4,(g.cell_far ⟨B,5,none⟩ l hr).trans c5,(g.frozen_far ⟨B,0,none⟩ l hr).trans z0,(g.frozen_far ⟨B,1,none⟩ l hr).trans z1,(g.frozen_far ⟨B,2,none⟩ l hr).trans z2,(g.frozen_far ⟨B,3,none⟩ l hr).trans z3,(g.frozen_far ⟨B,4,none⟩ l hr).trans z4,(g.frozen_far ⟨B,5,none⟩ l hr).trans z5⟩
theorem aC {u u':World} {row:Option Nat} {T i:Nat} {x:Value} (h:u.grownBy u' row) (hT:u.heap.size≤T):u.grownBy (u'.setCell ⟨T,i,none⟩ x) row :=
 ⟨h.os,h.tape,h.output,by simpa using h.size,fun j hj hne=>(Below.heap_setCell _ _ _ _ (fun e=>by have:j=T:=e;omega)).trans (h.block j hj hne)⟩
theorem Mz {a a1:Option Addr} {n base B:Nat} (h:a=a1∨Cm a n) (h1:Dt a1 base) (hb:base≤B) (hB:B<n):Im a B:=by
 rcases h with rfl | h
 ·exact Td h1 hb
 ·exact Bb h hB
theorem Ky {a a1:Option Addr} {n B:Nat} (h:a=a1∨Cm a n) (h1:Im a1 B) (hB:B<n):Im a B:=by
 rcases h with rfl | h
 ·exact h1
 ·exact Bb h hB
theorem zN (x n:Int):(uF x n).length≤18:=by
 rcases uG x n with h | ⟨a,m,_,_,h1,h2,h3,h⟩
 ·rw [h];simp
 ·rw [h,vI h1 h3];omega
structure LS (B g:Nat) (w:World) (b:Bk) (p:Bp) (u:World):Prop where
 z0:u.cell? ⟨w.heap.size,0,none⟩=some (.int .i64 b.today)
 z2:u.cell? ⟨w.heap.size,2,none⟩=some (.slice p.a b.az.length p.ac)
 z3:u.cell? ⟨w.heap.size,3,none⟩=some (.slice p.c b.cs.length p.cc)
 cu:A2 B u g
 gr:w.grownBy u (some g)
 az:Ar u p.a b.az
 cs:A0 u p.c b.cs
 lt:g<w.heap.size
 oa:Im p.a g
 oc:Im p.c g
theorem LS.call {B g:Nat} {w:World} {b:Bk} {p:Bp} {u u':World} (q:LS B g w b p u) (c:A2 B u' g) (r:u.grownBy u' (some g)):LS B g w b p u':=by
 have hl:=q.lt
 refine ⟨r.cell (a:=⟨w.heap.size,0,none⟩) q.z0 (by simp;omega),r.cell (a:=⟨w.heap.size,2,none⟩) q.z2 (by simp;omega),r.cell (a:=⟨w.heap.size,3,none⟩) q.z3 (by simp;omega),c,q.gr.trans r,q.az.far r (fun B' e=>by cases e;exact q.oa),q.cs.far r (fun B' e=>by cases e;exact q.oc),q.lt,q.oa,q.oc⟩
theorem K8 {w w':World} (h:BW w w') (r:Option Nat):w.grownBy w' r:=⟨h.os,h.tape,h.output,h.size,fun k hk _=>h.block k hk⟩
theorem LS.below {B g:Nat} {w:World} {b:Bk} {p:Bp} {u u':World} (q:LS B g w b p u) (h:BW u u'):LS B g w b p u':=q.call (A4 q.cu h) (K8 h _)
theorem LS.alloc {B g:Nat} {w:World} {b:Bk} {p:Bp} {u:World} (q:LS B g w b p u) (o:Obj):LS B g w b p (u.alloc o):=q.below (bR.alloc nL _)
theorem LS.drew {B g:Nat} {w:World} {b:Bk} {p:Bp} {u:World} (q:LS B g w b p u):LS B g w b p u.drew:=q.below (bR.drew)
theorem LS.new {B g:Nat} {w:World} {b:Bk} {p:Bp} (hc:A2 B w g) (hx:Aq w b p) (ho:Wq p g) (t:TypeId) :
  LS B g w b p (w.alloc (.cells (qcB b p) t)):=by
 have z:=Z6.new w (.int .i64 b.today) (.slice p.o b.off.length p.oc) (.slice p.a b.az.length p.ac) (.slice p.c b.cs.length p.cc) (.slice p.l b.ls.length p.lc) (.slice p.g b.log.length p.gc) t;have bA:Below w.heap.size w (w.alloc (.cells (qcB b p) t)):=bR.alloc nL _;have hb:=K6 hc
 exact ⟨z.c0,z.c2,z.c3,A3 hc _,K8 bA _,hx.az.below bA,hx.cs.below bA,by omega,ho.a,ho.c⟩
theorem tY {B g:Nat} {w:World} {b:Bk} {p:Bp} {u:World} (q:LS B g w b p u) (n:Int) (hn:n≤1099511627776) :
  Calls prog 79 #[.pointer (some ⟨g,0,none⟩),.int .i64 n] u fun e u'=>∃ x:Int,e=.returned (.int .i64 x)∧0≤x∧(1≤n→x<n)∧LS B g w b p u' :=
 (G4 g n u q.cu hn).mono (by rintro e u' ⟨x,h1,h2,h3,c,r⟩;exact ⟨x,h1,h2,h3,q.call c r⟩)
theorem Aay {B g:Nat} {w:World} {b:Bk} {p:Bp} {u:World} (q:LS B g w b p u) (n:Int) (hn:n≤1099511627776) :
  Calls prog 97 #[.pointer (some ⟨g,0,none⟩),.int .i64 n] u fun e u'=>∃ x:Bool,e=.returned (.bool x)∧LS B g w b p u' :=
 (Y7 g n u q.cu hn).mono (by rintro e u' ⟨x,h1,c,r⟩;exact ⟨x,h1,q.call c r⟩)
theorem Aai {B g:Nat} {w:World} {b:Bk} {p:Bp} {u:World} (q:LS B g w b p u) :
  Calls prog 131 #[.pointer (some ⟨g,0,none⟩),.slice (some ⟨u.heap.size,0,none⟩) 2 2] (u.alloc (.cells #[.int .i64 840,.int .i64 978] 3)) fun e u'=>∃ x:Int,e=.returned (.int .i64 x)∧LS B g w b p u' :=
 (R2 g u.heap.size 2 [840,978] (u.alloc (.cells #[.int .i64 840,.int .i64 978] 3)) (A3 q.cu _) (R5 q.cu) (tX u [840,978] #[.int .i64 840,.int .i64 978] rfl) (by decide) (by decide)).mono (by rintro e u' ⟨x,h1,-,c,r⟩;exact ⟨x,h1,(q.alloc _).call c r⟩)
theorem O7 (a b:ByteArray):(a++b).size=a.size+b.size:=by simp
def Fr (F:Ff) (b:Bk) (n:Int):Bk×Int:=if Dn n=true∧b.today<n then (⟨n,b.off,F.prune b.az n,b.cs,b.ls,b.log⟩,0) else (b,4)
theorem bH (F:Ff) (b:Bk) {n:Int} (h:Dn n=false):Fr F b n=(b,4):=if_neg (by rw [h];simp)
theorem cS (F:Ff) {b:Bk} {n:Int} (h:¬ b.today<n):Fr F b n=(b,4):=if_neg (fun e=>h e.2)
theorem cA (F:Ff) {b:Bk} {n:Int} (h:Dn n=true) (g:b.today<n):Fr F b n=(⟨n,b.off,F.prune b.az n,b.cs,b.ls,b.log⟩,0):=if_pos ⟨h,g⟩
def Gs (u:World) (g k:Nat) (D:Cs):World:=((((((((((((u.setCell ⟨g,k*12,none⟩ (.int .i64 D.iss)).setCell ⟨g,k*12+1,none⟩ (.int .i64 D.acq)).setCell ⟨g,k*12+2,none⟩ (.int .i64 D.cur)).setCell ⟨g,k*12+3,none⟩ (.int .i64 D.am)).setCell ⟨g,k*12+4,none⟩ (.int .i64 D.st)).setCell ⟨g,k*12+5,none⟩ (.int .i64 D.rsn)).setCell ⟨g,k*12+6,none⟩ (.int .i64 D.cl)).setCell ⟨g,k*12+7,none⟩ (.int .i64 D.bk)).setCell ⟨g,k*12+8,none⟩ (.int .i64 D.fee)).setCell ⟨g,k*12+9,none⟩ (.bool D.cop)).setCell ⟨g,k*12+10,none⟩ (.int .i64 D.sta)).setCell ⟨g,k*12+11,none⟩ (.int .i64 D.due))
theorem Pa {w u:World} {g n:Nat} (k:Nat) (D:Cs) (b:Below n w u) (hn:n≤g):Below n w (Gs u g k D) :=
 (((((((((((b.setCell hn _).setCell hn _).setCell hn _).setCell hn _).setCell hn _).setCell hn _).setCell hn _).setCell hn _).setCell hn _).setCell hn _).setCell hn _).setCell hn _
theorem Od {u:World} {base g cap:Nat} {t:TypeId} {cs:List Cs} {k:Nat} (D:Cs) (hk:k<cs.length) (ho:u.ownsRow base t 12 (.slice (some ⟨g,0,none⟩) cs.length cap) cs.length (Aj cs)) :
  (Gs u g k D).ownsRow base t 12 (.slice (some ⟨g,0,none⟩) cs.length cap) cs.length (Aj (cs.set k D)):=by
 have R:=((((((((((((ho.stored (k*12) (.int .i64 D.iss)).1.stored (k*12+1) (.int .i64 D.acq)).1.stored (k*12+2) (.int .i64 D.cur)).1.stored (k*12+3) (.int .i64 D.am)).1.stored (k*12+4) (.int .i64 D.st)).1.stored (k*12+5) (.int .i64 D.rsn)).1.stored (k*12+6) (.int .i64 D.cl)).1.stored (k*12+7) (.int .i64 D.bk)).1.stored (k*12+8) (.int .i64 D.fee)).1.stored (k*12+9) (.bool D.cop)).1.stored (k*12+10) (.int .i64 D.sta)).1.stored (k*12+11) (.int .i64 D.due)).1;rw [Pc cs D k hk] at R;exact R
theorem Vg {u u':World} {a:Option Addr} {ls:List Ln} {B:Nat} (h:Ai u a ls) (ha:Dt a B) (hb:Below B u u'):Ai u' a ls:=by
 rcases h with h | ⟨b,off,rfl,h2,h3⟩
 ·exact .inl h
 ·have hl:b<B:=ha _ rfl
  exact .inr ⟨b,off,rfl,Nat.lt_of_lt_of_le h2 hb.size,fun i hi=>by
   obtain ⟨c1,c2,c3⟩:=h3 i hi;exact ⟨(hb.cell (p:=⟨b,_,none⟩) hl).trans c1,(hb.cell (p:=⟨b,_,none⟩) hl).trans c2,(hb.cell (p:=⟨b,_,none⟩) hl).trans c3⟩⟩
theorem Hf {u:World} {base n cap sz:Nat} {t:TypeId} {a:Option Addr} {xs:List Value} (h:u.ownsRow base t sz (.slice a n cap) n xs) (hn:0<n):∃ g,a=some ⟨g,0,none⟩∧base≤g∧g<u.heap.size:=by
 rcases h.2 with ⟨_,h0⟩ | ⟨g,c,uV,hv,hr⟩
 ·omega
 ·obtain ⟨rfl,rfl⟩:a=some ⟨g,0,none⟩∧cap=c:=by simpa using hv
  exact ⟨g,rfl,(h.lt g rfl).1,(h.lt g rfl).2⟩
theorem Rc {u:World} {a:Option Addr} {ls:List Ln} {R:Nat} (h:Ai u a ls) (n:Im a R) (x0 x1 x2 x3 x4 x5:Value) :
  Ai ((((((u.setCell ⟨R,0,none⟩ x0).setCell ⟨R,1,none⟩ x1).setCell ⟨R,2,none⟩ x2).setCell ⟨R,3,none⟩ x3).setCell ⟨R,4,none⟩ x4).setCell ⟨R,5,none⟩ x5) a ls:=by
 have s:∀ (v:World) (i:Nat) (x:Value),Ai v a ls→Ai (v.setCell ⟨R,i,none⟩ x) a ls:=fun v i x hv=>hv.far (An _ _ _ _) (fun Q hQ=>by cases hQ;exact n)
 exact s _ _ _ (s _ _ _ (s _ _ _ (s _ _ _ (s _ _ _ (s _ _ _ h)))))
theorem sC {D:Cs} : cv D=.agg #[.int .i64 D.iss,.int .i64 D.acq,.int .i64 D.cur,.int .i64 D.am,.int .i64 D.st,.int .i64 D.rsn,.int .i64 D.cl,.int .i64 D.bk,.int .i64 D.fee,.bool D.cop,.int .i64 D.sta,.int .i64 D.due]:=rfl
def Ja (F:Ff) (b:Bk) (i:Int) (x:Ac):Bk×Int :=
 if ¬ (0≤i∧i≤(b.cs.length:Int) - 1) then (b,5)
 else if F.doV (A8 b.cs i.toNat) x b.today b.off≠0 then (b,10+F.doV (A8 b.cs i.toNat) x b.today b.off)
 else if F.allOk b.ls (F.doE (A8 b.cs i.toNat) x b.today b.off)=false then (b,6)
 else (⟨b.today,b.off,b.az,b.cs.set i.toNat (F.doC (A8 b.cs i.toNat) x b.today b.off),F.all b.ls (F.doE (A8 b.cs i.toNat) x b.today b.off),b.log⟩,0)
theorem cE (F:Ff) {b:Bk} {i:Int} (x:Ac) (h:¬ (0≤i∧i≤(b.cs.length:Int) - 1)):Ja F b i x=(b,5):=if_pos h
theorem cD (F:Ff) {b:Bk} {i:Int} {x:Ac} (h:0≤i∧i≤(b.cs.length:Int) - 1) (g:F.doV (A8 b.cs i.toNat) x b.today b.off≠0):Ja F b i x=(b,10+F.doV (A8 b.cs i.toNat) x b.today b.off):=by
 rw [Ja,if_neg (fun e=>e h),if_pos g]
theorem dC (F:Ff) {b:Bk} {i:Int} {x:Ac} (h:0≤i∧i≤(b.cs.length:Int) - 1) (g:F.doV (A8 b.cs i.toNat) x b.today b.off=0) (k:F.allOk b.ls (F.doE (A8 b.cs i.toNat) x b.today b.off)=false):Ja F b i x=(b,6):=by
 rw [Ja,if_neg (fun e=>e h),if_neg (fun e=>e g),if_pos k]
theorem bE (F:Ff) {b:Bk} {i:Int} {x:Ac} (h:0≤i∧i≤(b.cs.length:Int) - 1) (g:F.doV (A8 b.cs i.toNat) x b.today b.off=0) (k:F.allOk b.ls (F.doE (A8 b.cs i.toNat) x b.today b.off)=true) :
  Ja F b i x=(⟨b.today,b.off,b.az,b.cs.set i.toNat (F.doC (A8 b.cs i.toNat) x b.today b.off),F.all b.ls (F.doE (A8 b.cs i.toNat) x b.today b.off),b.log⟩,0):=by
 rw [Ja,if_neg (fun e=>e h),if_neg (fun e=>e g),if_neg (by rw [k];decide)]
def Jk (F:Ff) (b:Bk) (n0 n1 n2 n3 x:Int):Bk×Int :=
 if x<0 then (b,3)
 else if 150≤b.cs.length then (b,2)
 else if F.stOk n0 n1 n2 n3 b.today=false then (b,5)
 else if F.allOk b.ls (F.stE n0 n1 n2 n3 b.today)=false then (b,6)
 else (⟨b.today,b.off,F.use b.az x,b.cs++[F.stC n0 n1 n2 n3 b.today],F.all b.ls (F.stE n0 n1 n2 n3 b.today),b.log⟩,0)
theorem cK (F:Ff) {b:Bk} {n0 n1 n2 n3 x:Int} (h:x<0):Jk F b n0 n1 n2 n3 x=(b,3):=if_pos h
theorem bQ (F:Ff) {b:Bk} {n0 n1 n2 n3 x:Int} (h:¬ x<0) (g:150≤b.cs.length):Jk F b n0 n1 n2 n3 x=(b,2):=by rw [Jk,if_neg h,if_pos g]
theorem cO (F:Ff) {b:Bk} {n0 n1 n2 n3 x:Int} (h:¬ x<0) (g:¬ 150≤b.cs.length) (k:F.stOk n0 n1 n2 n3 b.today=false):Jk F b n0 n1 n2 n3 x=(b,5):=by rw [Jk,if_neg h,if_neg g,if_pos k]
theorem cM (F:Ff) {b:Bk} {n0 n1 n2 n3 x:Int} (h:¬ x<0) (g:¬ 150≤b.cs.length) (k:F.stOk n0 n1 n2 n3 b.today=true) (m:F.allOk b.ls (F.stE n0 n1 n2 n3 b.today)=false):Jk F b n0 n1 n2 n3 x=(b,6):=by
 rw [Jk,if_neg h,if_neg g,if_neg (by rw [k];decide),if_pos m]
theorem bF (F:Ff) {b:Bk} {n0 n1 n2 n3 x:Int} (h:¬ x<0) (g:¬ 150≤b.cs.length) (k:F.stOk n0 n1 n2 n3 b.today=true) (m:F.allOk b.ls (F.stE n0 n1 n2 n3 b.today)=true) :
  Jk F b n0 n1 n2 n3 x=(⟨b.today,b.off,F.use b.az x,b.cs++[F.stC n0 n1 n2 n3 b.today],F.all b.ls (F.stE n0 n1 n2 n3 b.today),b.log⟩,0):=by
 rw [Jk,if_neg h,if_neg g,if_neg (by rw [k];decide),if_neg (by rw [m];decide)]
theorem Jq {w:World} {base n:Nat} {v:Value} {xs:List Value} (h:w.ownsRow base 61 12 v n xs) (hv:v≠.slice none 0 0):∃ g c,v=.slice (some ⟨g,0,none⟩) n c:=by
 rcases h.2 with ⟨h,_⟩ | ⟨g,c,uV,h,_⟩
 ·exact absurd h hv
 ·exact ⟨g,c,h⟩
theorem Cv {ops:Array Oper} {o:Oper} {a:Act} {w:World} {K:Act→World→Prop} {Q:Exit→Act→World→Prop} {E:Prop} (hgd:o.guard=none) (s x:Operand)
  (ho:o.op=.call { callee:=.builtin .append,args:=#[s,x],argTypes:=#[26,26] }) (base:Nat) (v:Value) (n:Nat) (xs:List Value) (hs:a.eval s=v) (hown:w.ownsRow base 61 12 v n xs)
  (ao:Option Addr) (c:Nat) (fs:List Cs) (hx:a.eval x=.slice ao fs.length c) (hz:A0 w ao fs) (hn:n+fs.length≤5000000) (hbase:base≤w.heap.size)
  (h:∀ v' w',w'.ownsRow base 61 12 v' (n+fs.length) (xs++Aj fs)→w.grownBy w' v.ownBlock→(v≠.slice none 0 0→v'≠.slice none 0 0)→K (a.put o.dst v') w') :
  if Region.wanted o (yielded ops a.tmps)=true then Oper.wp prog o a w K Q else E:=by
 have hw:Region.wanted o (yielded ops a.tmps)=true:=by simp [Region.wanted,hgd]
 rw [if_pos hw];obtain ⟨v',w',hr,h1,h2,h3⟩:=Ix w base o.type v n xs hown ao c fs hz hn hbase;unfold Oper.wp execOp
 simp only [ho,resolve,invoke,builtin,Sem.run_bind,Sem.run_pure,Result.andThen_ok,List.map_toArray,List.map_cons,List.map_nil,hs,hx,hr]
 exact h v' w' h1 h2 h3
theorem J3 {u:World} {g:Nat} {C:Cs} (h:CB g 0 C u):A0 u (some ⟨g,0,none⟩) [C] :=
 .inr ⟨g,0,rfl,h.lt,fun i hi=>by
  obtain rfl:i=0:=by simpa using hi
  simpa [A8] using h⟩
theorem qK (w:World) (C:Cs):((w.alloc (.cells #[.int .i64 C.iss,.int .i64 C.acq,.int .i64 C.cur,.int .i64 C.am,.int .i64 C.st,.int .i64 C.rsn,.int .i64 C.cl,.int .i64 C.bk,.int .i64 C.fee,.bool C.cop,.int .i64 C.sta,.int .i64 C.due] 61)).alloc (.cells #[] 61)).ownsRow w.heap.size 61 12 (.slice (some ⟨w.heap.size+1,0,none⟩) 0 0) 0 []:=by
 have h:=World.ownsRow_lit (base:=w.heap.size) (e:=61) (size:=12) (w.alloc (.cells #[.int .i64 C.iss,.int .i64 C.acq,.int .i64 C.cur,.int .i64 C.am,.int .i64 C.st,.int .i64 C.rsn,.int .i64 C.cl,.int .i64 C.bk,.int .i64 C.fee,.bool C.cop,.int .i64 C.sta,.int .i64 C.due] 61)) #[] 0 (by simp) (by unfold maxLen;omega) rfl
 simpa using h
theorem rF (w:World) (C:Cs):CB (w.heap.size+1) 0 C ((w.alloc (.cells #[] 61)).alloc (.cells #[.int .i64 C.iss,.int .i64 C.acq,.int .i64 C.cur,.int .i64 C.am,.int .i64 C.st,.int .i64 C.rsn,.int .i64 C.cl,.int .i64 C.bk,.int .i64 C.fee,.bool C.cop,.int .i64 C.sta,.int .i64 C.due] 61)):=by
 have h:=CB.new (w.alloc (.cells #[] 61)) C 61
 simpa using h
def Eo:List UInt8:=[100,97,121]
def Dy:List UInt8:=[97,117,116,104]
def I7:List UInt8:=[112,97,121]
def Nz:List UInt8:=[97,99,116]
def Ca (ws:Be):Bool:=decide (Al ws 0=Eo) && (decide (ws.length=2) && decide (0≤Ae (Al ws 1)))
def Bq (ws:Be):Bool:=decide (Al ws 0=Dy) && decide (ws.length=5)
def Da (ws:Be):Bool:=decide (Al ws 0=I7) && decide (ws.length=5)
def Fl (ws:Be):Bool:=decide (Al ws 0=Nz) && (decide (ws.length=5) && decide (0≤Bz (Al ws 2)))
def Fq (F:Ff) (b:Bk) (ref:List UInt8) (n0 n1 n2:Int):Bk×Int :=
 if F.addOk b.az ⟨ref,n0,n1,n2,b.today,false⟩=true then (⟨b.today,b.off,F.add b.az ⟨ref,n0,n1,n2,b.today,false⟩,b.cs,b.ls,b.log⟩,0) else (b,3)
def Db (F:Ff) (Pay:Bk→Int→Int→Int→Int→Bk×Int→Prop) (Act:Bk→Int→Ac→Bk×Int) (b:Bk) (line:List UInt8) (r:Bk×Int):Prop :=
 if Ca (Ab line)=true then r=Fr F b (Ae (Al (Ab line) 1))
 else if Bq (Ab line)=true then (if Ap ((Ab line).drop 2)=true then r=Fq F b (Al (Ab line) 1) (Ae (Al (Ab line) 2)) (Ae (Al (Ab line) 3)) (Ae (Al (Ab line) 4)) else r=(b,1))
 else if Da (Ab line)=true then (if Ap ((Ab line).drop 1)=true then Pay b (Ae (Al (Ab line) 1)) (Ae (Al (Ab line) 2)) (Ae (Al (Ab line) 3)) (Ae (Al (Ab line) 4)) r else r=(b,1))
 else if Fl (Ab line)=true then (if Ap [Al (Ab line) 1,Al (Ab line) 3,Al (Ab line) 4]=true then r=Act b (Ae (Al (Ab line) 1)) ⟨Bz (Al (Ab line) 2),Ae (Al (Ab line) 3),Ae (Al (Ab line) 4)⟩ else r=(b,1))
 else r=(b,1)
theorem Mj (F:Ff) (K:Nc F) (b:Bk) (p:Bp) (n:Int) (w:World) (hx:Aq w b p) (hn:D0 b) :
  Calls prog 141 #[C5 b p,.int .i64 n] w (U8 w p (Fr F b n).1 (Fr F b n).2):=by
 have HX:Hid (∀ u,BW w u→Aq u b p):=fun u h=>hx.below h
 have HN:Hid (D0 b):=hn;clear hx hn;obtain ⟨td,fo,az,cs,ls,lg⟩:=b;obtain ⟨o,oc,a,ac,c,cc,l,lc,g,gc⟩:=p;unfold C5
 simp only
 obtain ⟨u0,hu0⟩:∃ u,u=((w.alloc (.cells #[.int .i64 td,.slice o fo.length oc,.slice a az.length ac,.slice c cs.length cc,.slice l ls.length lc,.slice g lg.length gc] 31))).alloc (.cells qzB 31):=⟨_,rfl⟩
 have HB0:Hid (BW w u0):=by rw [Hid,hu0];go_grown
 have HS0:Hid ((w.heap.size+1)<u0.heap.size):=by rw [Hid,hu0];simp
 have HZ0:Hid (Z6 w.heap.size (.int .i64 td) (.slice o fo.length oc) (.slice a az.length ac) (.slice c cs.length cc) (.slice l ls.length lc) (.slice g lg.length gc) u0):=by
  rw [Hid,hu0];exact ((Z6.new w (.int .i64 td) (.slice o fo.length oc) (.slice a az.length ac) (.slice c cs.length cc) (.slice l ls.length lc) (.slice g lg.length gc) 31)).below (bR.alloc nL _)
 have HR0:Hid (Z6 (w.heap.size+1) (.int .i64 0) (.slice none 0 0) (.slice none 0 0) (.slice none 0 0) (.slice none 0 0) (.slice none 0 0) u0):=by
  have h:=Z6.new ((w.alloc (.cells #[.int .i64 td,.slice o fo.length oc,.slice a az.length ac,.slice c cs.length cc,.slice l ls.length lc,.slice g lg.length gc] 31))) (.int .i64 0) (.slice none 0 0) (.slice none 0 0) (.slice none 0 0) (.slice none 0 0) (.slice none 0 0) 31
  rw [Hid,hu0];simpa using h
 have HU0:Hid _:=hu0;clear hu0
 go_enter func141,ntmps141
 go_upto_region 1 with fail
 rw [← HU0.o];clear HU0;obtain ⟨t0,t1,t2,t3,t4,t5,s0,s1,s2,s3,s4,s5⟩:=HZ0.o;obtain ⟨q0,q1,q2,q3,q4,q5,p0,p1,p2,p3,p4,p5⟩:=HR0.o
 cases hd:Dn n
 ·have HE:Hid _:=bH F ⟨td,fo,az,cs,ls,lg⟩ hd
  go_wp2_with (go_at_call 102;refine (A9 _ _).mono ?_;rintro e w' ⟨rfl,hw'⟩;replace hw':=hw'.symm;subst hw';rw [hd])
  refine bodyPost_ret (by simp [results,results141,go_sem,q0,q1,q2,q3,q4,q5];try rfl) rfl ?_
  rw [HE.o]
  have bel:=Ax (R:=(w.heap.size+1)) (by omega) HB0.o
  exact ⟨⟨o,oc,a,ac,c,cc,l,lc,g,gc⟩,rfl,HX.o _ (bel _ _ _ _ _ _),rfl,rfl,⟨rfl,.inl rfl,.inl rfl,.inl rfl⟩,bel _ _ _ _ _ _⟩
 by_cases hlt:td<n
 case neg =>
  have hle:n≤td:=by omega
  have HE:Hid _:=@cS F ⟨td,fo,az,cs,ls,lg⟩ n hlt
  go_wp2_with (go_at_call 102;refine (A9 _ _).mono ?_;rintro e w' ⟨rfl,hw'⟩;replace hw':=hw'.symm;subst hw';rw [hd])
  refine bodyPost_ret (by simp [results,results141,go_sem,q0,q1,q2,q3,q4,q5];try rfl) rfl ?_
  rw [HE.o]
  have bel:=Ax (R:=(w.heap.size+1)) (by omega) HB0.o
  exact ⟨⟨o,oc,a,ac,c,cc,l,lc,g,gc⟩,rfl,HX.o _ (bel _ _ _ _ _ _),rfl,rfl,⟨rfl,.inl rfl,.inl rfl,.inl rfl⟩,bel _ _ _ _ _ _⟩
 have hle:¬ n≤td:=by omega
 have HE:Hid _:=@cA F ⟨td,fo,az,cs,ls,lg⟩ n hd hlt
 go_upto_region 4 with (go_at_call 102;refine (A9 _ _).mono ?_;rintro e w' ⟨rfl,hw'⟩;replace hw':=hw'.symm;subst hw';rw [hd])
 obtain ⟨u1,hu1⟩:∃ u,u=u0.setCell ⟨w.heap.size,0,none⟩ (.int .i64 n):=⟨_,rfl⟩
 have HZ1:Hid (Z6 w.heap.size (.int .i64 n) (.slice o fo.length oc) (.slice a az.length ac) (.slice c cs.length cc) (.slice l ls.length lc) (.slice g lg.length gc) u1):=by rw [Hid,hu1];exact HZ0.o.set0 _
 have HR1:Hid (Z6 (w.heap.size+1) (.int .i64 0) (.slice none 0 0) (.slice none 0 0) (.slice none 0 0) (.slice none 0 0) (.slice none 0 0) u1):=by rw [Hid,hu1];exact HR0.o.far (by omega)
 have HB1:Hid (BW w u1):=by rw [Hid,hu1];exact HB0.o.setCell nL _
 have HS1:Hid (w.heap.size+1<u1.heap.size):=by rw [Hid,hu1];simpa using HS0.o
 rw [← hu1];clear hu1 HZ0 HR0 HB0 HS0 t0 t1 t2 t3 t4 t5 s0 s1 s2 s3 s4 s5 q0 q1 q2 q3 q4 q5 p0 p1 p2 p3 p4 p5;obtain ⟨t0,t1,t2,t3,t4,t5,s0,s1,s2,s3,s4,s5⟩:=HZ1.o;obtain ⟨q0,q1,q2,q3,q4,q5,p0,p1,p2,p3,p4,p5⟩:=HR1.o;go_wp2_with fail
 refine (K.prune a ac az n _ (HX.o _ HB1.o).az (by have:=HN.o.2.1;simpa using this)).mono ?_
 rintro e u2 ⟨b2,k2,rfl,o2,bb⟩;have HZ2:Hid _:=HZ1.o.below bb;have HR2:Hid _:=HR1.o.below bb;have HB2:Hid (BW w u2):=next HB1.o bb;have HO2:Hid _:=Bi o2 HS1.o;obtain ⟨L,hL⟩:∃ L,F.prune az n=L:=⟨_,rfl⟩;rw [hL] at HO2 ⊢;clear t0 t1 t2 t3 t4 t5 s0 s1 s2 s3 s4 s5 q0 q1 q2 q3 q4 q5 p0 p1 p2 p3 p4 p5 bb o2 HZ1 HR1 HB1;obtain ⟨t0,t1,t2,t3,t4,t5,s0,s1,s2,s3,s4,s5⟩:=HZ2.o;obtain ⟨q0,q1,q2,q3,q4,q5,p0,p1,p2,p3,p4,p5⟩:=HR2.o;go_upto_region 5 with fail
 obtain ⟨u3,hu3⟩:∃ u,u=u2.setCell ⟨w.heap.size,2,none⟩ (.slice b2 L.length k2):=⟨_,rfl⟩
 have HZ3:Hid (Z6 w.heap.size (.int .i64 n) (.slice o fo.length oc) (.slice b2 L.length k2) (.slice c cs.length cc) (.slice l ls.length lc) (.slice g lg.length gc) u3):=by rw [Hid,hu3];exact HZ2.o.set2 _
 have HR3:Hid (Z6 (w.heap.size+1) (.int .i64 0) (.slice none 0 0) (.slice none 0 0) (.slice none 0 0) (.slice none 0 0) (.slice none 0 0) u3):=by rw [Hid,hu3];exact HR2.o.far (by omega)
 have HB3:Hid (BW w u3):=by rw [Hid,hu3];exact HB2.o.setCell nL _
 have HO3:Hid (u3.ownsRow (w.heap.size+2) 107 6 (.slice b2 L.length k2) L.length (Ah L)):=by rw [Hid,hu3];exact Ad HO2.o (by omega)
 rw [← hu3];clear hu3 HZ2 HR2 HB2 HO2 t0 t1 t2 t3 t4 t5 s0 s1 s2 s3 s4 s5 q0 q1 q2 q3 q4 q5 p0 p1 p2 p3 p4 p5;obtain ⟨t0,t1,t2,t3,t4,t5,s0,s1,s2,s3,s4,s5⟩:=HZ3.o;obtain ⟨q0,q1,q2,q3,q4,q5,p0,p1,p2,p3,p4,p5⟩:=HR3.o;go_wp2
 refine bodyPost_ret (by simp [results,results141,go_sem,q0,q1,q2,q3,q4,q5];try rfl) rfl ?_
 rw [HE.o,hL]
 have bel:=Ax (R:=w.heap.size+1) (by omega) HB3.o
 have hX:=HX.o _ (bel (.int .i64 n) (.slice o fo.length oc) (.slice b2 L.length k2) (.slice c cs.length cc) (.slice l ls.length lc) (.slice g lg.length gc))
 exact ⟨⟨o,oc,b2,k2,c,cc,l,lc,g,gc⟩,rfl,⟨hX.off,Fd (Ea HO3.o (by omega) _ _ _ _ _ _),hX.cs,hX.ls,hX.log⟩,rfl,rfl,⟨rfl,.inr (fun x hx=>by have:=Cw HO3.o x hx;omega),.inl rfl,.inl rfl⟩,bel _ _ _ _ _ _⟩
structure Tp (Pre:Bk→Prop) (Pay:Bk→Int→Int→Int→Int→Bk×Int→Prop) (Act:Bk→Int→Ac→Bk×Int):Prop where
 pay:∀ (b:Bk) (p:Bp) (g k:Nat) (n0 n1 n2 n3:Int) (w:World),Aq w b p→Vb p w.heap.size→Pre b→w.cell? ⟨g,0,none⟩=some (.int .i64 n0)→w.cell? ⟨g,1,none⟩=some (.int .i64 n1)→w.cell? ⟨g,2,none⟩=some (.int .i64 n2)→w.cell? ⟨g,3,none⟩=some (.int .i64 n3)→n3<1000000000000000000→-1≤n3 →
  Calls prog 144 #[C5 b p,.slice (some ⟨g,0,none⟩) 4 k] w fun e w'=>∃ r,Pay b n0 n1 n2 n3 r∧U8 w p r.1 r.2 e w'
 act:∀ (b:Bk) (p:Bp) (i:Int) (x:Ac) (w:World),Aq w b p→Vb p w.heap.size→Pre b→Calls prog 146 #[C5 b p,.int .i64 i,av x] w (U8 w p (Act b i x).1 (Act b i x).2)
theorem Cm.mono {a:Option Addr} {n m:Nat} (h:Cm a n) (hm:m≤n):Cm a m:=fun x hx=>by have:=h x hx;omega
theorem Vb.mono {p:Bp} {n m:Nat} (h:Vb p n) (hm:n≤m):Vb p m:=⟨h.o.mono hm,h.a.mono hm,h.c.mono hm,h.l.mono hm,h.g.mono hm⟩
theorem Dz {u:World} {R:Nat} {p:Addr} {v:Value} (h:u.cell? p=some v) (hne:p.block≠R) (x0 x1 x2 x3 x4 x5:Value) :
  ((((((u.setCell ⟨R,0,none⟩ x0).setCell ⟨R,1,none⟩ x1).setCell ⟨R,2,none⟩ x2).setCell ⟨R,3,none⟩ x3).setCell ⟨R,4,none⟩ x4).setCell ⟨R,5,none⟩ x5).cell? p=some v:=by
 have s:∀ (y:World) (i:Nat) (x:Value),y.cell? p=some v→(y.setCell ⟨R,i,none⟩ x).cell? p=some v:=fun y i x hy=>((An y R i x).cell_far p (World.block_lt_of_cell? y _ hy) (by simp;exact hne)).trans hy
 exact s _ _ _ (s _ _ _ (s _ _ _ (s _ _ _ (s _ _ _ (s _ _ _ h)))))
theorem Qp {w u u4:World} {p q:Bp} {b':Bk} {code:Int} {R:Nat} (hah:Vb p w.heap.size) (hwu:BW w u) (hR:w.heap.size≤R) (hRu:R<u.heap.size) (hb:Aq u4 b' q) (hg:q.g=p.g) (hgc:q.gc=p.gc)
  (hpt:q.o=p.o∧(q.a=p.a∨Cm q.a u.heap.size)∧(q.c=p.c∨Cm q.c u.heap.size)∧(q.l=p.l∨Cm q.l u.heap.size)) (b4:BW u u4) (x0 x1 x2 x3 x4 x5:Value) :
  U8 w p b' code (.returned (.tuple #[C5 b' q,.int .i64 code])) ((((((u4.setCell ⟨R,0,none⟩ x0).setCell ⟨R,1,none⟩ x1).setCell ⟨R,2,none⟩ x2).setCell ⟨R,3,none⟩ x3).setCell ⟨R,4,none⟩ x4).setCell ⟨R,5,none⟩ x5) :=
 ⟨q,rfl,hb.put6 (nX hah hg hpt hR hRu) _ _ _ _ _ _,hg,hgc,⟨hpt.1,hpt.2.1.imp id (fun h=>h.mono hwu.size),hpt.2.2.1.imp id (fun h=>h.mono hwu.size),hpt.2.2.2.imp id (fun h=>h.mono hwu.size)⟩,Ax hR (next hwu b4) _ _ _ _ _ _⟩
theorem Dj (ao:Option Addr) (cap:Nat) (az:List Au) (w:World) (hz:Ar w ao az) (hn:az.length≤4194304) (hd:∀ a ∈ az,a.ref.length≤1099511627776) :
  Calls prog 110 #[.slice ao az.length cap] w fun e w'=>e=.returned (.slice (some ⟨w.heap.size,0,none⟩) az.length az.length) ∧
   w'.ownsRow w.heap.size 107 6 (.slice (some ⟨w.heap.size,0,none⟩) az.length az.length) az.length (Ah az)∧BW w w':=by
 obtain ⟨i0,hi,hz0,hz1,hz2⟩:=info_parts cF;have hm0:=Qx az.length
 rcases hz with rfl | ⟨b,off,rfl,hb,hcell⟩
 ·go_enter func110,ntmps110
  go_wp2_with (refine wpList_make_full _ rfl (.tmp 7) (.tmp 7) 132 rfl w.heap.size 107 i0 _ 6 underlying132 hi hz0 hz1 .i64 .i64 _ _ 0 rfl rfl rfl rfl (by rw [hz2];omega) (by unfold maxLen;omega) nL ?_;intro w1 hown hg)
  refine wp_loop_rounds 1 ?_;rw [rounds_succ];go_wp2;go_ret
  exact ⟨rfl,by simpa [madeCells,Ah] using hown,bR.grown hg nL (fun k hk=>by cases hk)⟩
 rw [← Pz az] at hm0;have HC:Hid (∀ i,i<az.length→w.cell? ⟨b,off+i*6,none⟩=some (.string ⟨(Ak az i).ref.toArray⟩)∧w.cell? ⟨b,off+i*6+1,none⟩=some (.int .i64 (Ak az i).iss)∧w.cell? ⟨b,off+i*6+2,none⟩=some (.int .i64 (Ak az i).cur)∧w.cell? ⟨b,off+i*6+3,none⟩=some (.int .i64 (Ak az i).am)∧w.cell? ⟨b,off+i*6+4,none⟩=some (.int .i64 (Ak az i).day)∧w.cell? ⟨b,off+i*6+5,none⟩=some (.bool (Ak az i).used)):=hcell;clear hcell
 go_enter func110,ntmps110
 go_wp2_with (refine wpList_make_full _ rfl (.tmp 7) (.tmp 7) 132 rfl w.heap.size 107 i0 _ 6 underlying132 hi hz0 hz1 .i64 .i64 _ _ az.length rfl rfl rfl rfl (by rw [hz2];omega) (by unfold maxLen;omega) nL ?_;intro w1 hown hg)
 rw [hm0] at hown
 have hb1:BW w w1:=bR.grown hg nL (fun k hk=>by cases hk)
 clear hm0 hg
 go_loopw [4,5,11] (fun _ _ i wr=>∃ k:Nat,k≤az.length∧i=.int .i64 k∧wr.ownsRow w.heap.size 107 6 (.slice (some ⟨w.heap.size,0,none⟩) az.length az.length) az.length (Ah (Du az k))∧BW w wr) (fun _ _ i _=>az.length - (intOf i).toNat)
 case atStart=>exact ⟨0,Nat.zero_le _,rfl,hown,hb1⟩
 case round =>
  obtain ⟨k,hk,rfl,ho,hbr⟩:=hrel;clear hown hb1
  by_cases hlt:k<az.length
  ·have x0:wr.cell? ⟨b,off+k*6,none⟩=some (.string ⟨(Ak az k).ref.toArray⟩):=(hbr.cell (p:=⟨b,off+k*6,none⟩) hb).trans (HC.o k hlt).1
   have x1:wr.cell? ⟨b,off+k*6+1,none⟩=some (.int .i64 (Ak az k).iss):=(hbr.cell (p:=⟨b,off+k*6+1,none⟩) hb).trans (HC.o k hlt).2.1;have x2:wr.cell? ⟨b,off+k*6+2,none⟩=some (.int .i64 (Ak az k).cur):=(hbr.cell (p:=⟨b,off+k*6+2,none⟩) hb).trans (HC.o k hlt).2.2.1;have x3:wr.cell? ⟨b,off+k*6+3,none⟩=some (.int .i64 (Ak az k).am):=(hbr.cell (p:=⟨b,off+k*6+3,none⟩) hb).trans (HC.o k hlt).2.2.2.1;have x4:wr.cell? ⟨b,off+k*6+4,none⟩=some (.int .i64 (Ak az k).day):=(hbr.cell (p:=⟨b,off+k*6+4,none⟩) hb).trans (HC.o k hlt).2.2.2.2.1;have x5:wr.cell? ⟨b,off+k*6+5,none⟩=some (.bool (Ak az k).used):=(hbr.cell (p:=⟨b,off+k*6+5,none⟩) hb).trans (HC.o k hlt).2.2.2.2.2
   have hki:(k:Int)<(az.length:Int):=by omega
   have hdk:=hd _ (J8 hlt);have HS:Hid _:=Ly az k hlt
   have HT:Hid _:=Hu (Du az k) (Ak az k) k (by rw [Iu az k hk];exact hlt)
   have HFL:Hid (k<(Du az k).length):=by rw [Hid,Iu az k hk];exact hlt
   have HFL2:Hid (k<(Du az (k+1)).length):=by rw [Hid,Iu az (k+1) hlt];exact hlt
   have HAT:Hid (Ak (Du az (k+1)) k=Ak az k):=by
    rw [Hid,← Ly az k hlt,Gw (by rw [List.length_set];exact HFL.o),List.getElem_set_self]
   obtain ⟨⟨r,i,c,m,d,u⟩,hf⟩:∃ f,Ak az k=f:=⟨_,rfl⟩;rw [hf] at x0 x1 x2 x3 x4 x5 HS HT hdk HAT
   simp only at x0 x1 x2 x3 x4 x5 HT hdk
   have HO:Hid (wr.ownsRow w.heap.size 107 6 (.slice (some ⟨w.heap.size,0,none⟩) az.length az.length) az.length (Ah (Du az k))):=ho;have HA:Hid _:=Wu az k hlt;have HBR:Hid (BW w wr):=hbr;have hws:w.heap.size<wr.heap.size:=(ho.lt _ rfl).2;clear hf ho hbr;go_upto_region 5 with fail
   clear x0 x1 x2 x3 x4 x5;obtain ⟨W,hW⟩:∃ W,wr.alloc (.cells #[.string ⟨r.toArray⟩,.int .i64 i,.int .i64 c,.int .i64 m,.int .i64 d,.bool u] 107)=W:=⟨_,rfl⟩;have bW:BW wr W:=hW ▸ bR.alloc nL _;have BX:Jo wr.heap.size ⟨r,i,c,m,d,u⟩ W:=hW ▸ Jo.new wr ⟨r,i,c,m,d,u⟩ _;rw [hW];clear hW;have oW:=Iw HO.o bW;have hat:=De (Du az k) k HFL.o;rw [HA.o] at hat;have HBX:Hid (Jo wr.heap.size ⟨r,i,c,m,d,u⟩ W):=BX
   have y0:W.cell? ⟨w.heap.size,k*6,none⟩=some (.string ⟨#[]⟩):=by rw [oW.cellAt (k*6) (by omega)];exact hat.1
   have z0:W.frozen? ⟨w.heap.size,k*6,none⟩=false:=oW.frozenAt _
   have y1:W.cell? ⟨w.heap.size,k*6+1,none⟩=some (.int .i64 0):=by rw [oW.cellAt (k*6+1) (by omega)];exact hat.2.1
   have z1:W.frozen? ⟨w.heap.size,k*6+1,none⟩=false:=oW.frozenAt _
   have y2:W.cell? ⟨w.heap.size,k*6+2,none⟩=some (.int .i64 0):=by rw [oW.cellAt (k*6+2) (by omega)];exact hat.2.2.1
   have z2:W.frozen? ⟨w.heap.size,k*6+2,none⟩=false:=oW.frozenAt _
   have y3:W.cell? ⟨w.heap.size,k*6+3,none⟩=some (.int .i64 0):=by rw [oW.cellAt (k*6+3) (by omega)];exact hat.2.2.2.1
   have z3:W.frozen? ⟨w.heap.size,k*6+3,none⟩=false:=oW.frozenAt _
   have y4:W.cell? ⟨w.heap.size,k*6+4,none⟩=some (.int .i64 0):=by rw [oW.cellAt (k*6+4) (by omega)];exact hat.2.2.2.2.1
   have z4:W.frozen? ⟨w.heap.size,k*6+4,none⟩=false:=oW.frozenAt _
   have y5:W.cell? ⟨w.heap.size,k*6+5,none⟩=some (.bool false):=by rw [oW.cellAt (k*6+5) (by omega)];exact hat.2.2.2.2.2
   have z5:W.frozen? ⟨w.heap.size,k*6+5,none⟩=false:=oW.frozenAt _
   have HR:Hid ((((((((W.setCell ⟨w.heap.size,k*6,none⟩ (.string ⟨r.toArray⟩)).setCell ⟨w.heap.size,k*6+1,none⟩ (.int .i64 i)).setCell ⟨w.heap.size,k*6+2,none⟩ (.int .i64 c)).setCell ⟨w.heap.size,k*6+3,none⟩ (.int .i64 m)).setCell ⟨w.heap.size,k*6+4,none⟩ (.int .i64 d)).setCell ⟨w.heap.size,k*6+5,none⟩ (.bool u))).ownsRow w.heap.size 107 6 (.slice (some ⟨w.heap.size,0,none⟩) az.length az.length) az.length (Ah (Du az (k+1)))):=by
    have R:=(((((((oW.stored (k*6) (.string ⟨r.toArray⟩)).1.stored (k*6+1) (.int .i64 i)).1.stored (k*6+2) (.int .i64 c)).1.stored (k*6+3) (.int .i64 m)).1.stored (k*6+4) (.int .i64 d)).1.stored (k*6+5) (.bool u))).1;rw [HT.o,HS.o] at R;exact R
   have HBW:Hid (Below w.heap.size w (((((((W.setCell ⟨w.heap.size,k*6,none⟩ (.string ⟨r.toArray⟩)).setCell ⟨w.heap.size,k*6+1,none⟩ (.int .i64 i)).setCell ⟨w.heap.size,k*6+2,none⟩ (.int .i64 c)).setCell ⟨w.heap.size,k*6+3,none⟩ (.int .i64 m)).setCell ⟨w.heap.size,k*6+4,none⟩ (.int .i64 d)).setCell ⟨w.heap.size,k*6+5,none⟩ (.bool u)))):=(((((((HBR.o.trans (bW.mono HBR.o.size)).setCell nL _).setCell nL _).setCell nL _).setCell nL _).setCell nL _).setCell nL _)
   have HBOX:Hid ((((((((W.setCell ⟨w.heap.size,k*6,none⟩ (.string ⟨r.toArray⟩)).setCell ⟨w.heap.size,k*6+1,none⟩ (.int .i64 i)).setCell ⟨w.heap.size,k*6+2,none⟩ (.int .i64 c)).setCell ⟨w.heap.size,k*6+3,none⟩ (.int .i64 m)).setCell ⟨w.heap.size,k*6+4,none⟩ (.int .i64 d)).setCell ⟨w.heap.size,k*6+5,none⟩ (.bool u))).cell? ⟨wr.heap.size,0,none⟩=some (.string ⟨r.toArray⟩)):=(World.grownBy.cell_far (row:=some w.heap.size) (((((((oW.stored (k*6) (.string ⟨r.toArray⟩)).2).trans ((oW.stored (k*6) (.string ⟨r.toArray⟩)).1.stored (k*6+1) (.int .i64 i)).2).trans (((oW.stored (k*6) (.string ⟨r.toArray⟩)).1.stored (k*6+1) (.int .i64 i)).1.stored (k*6+2) (.int .i64 c)).2).trans ((((oW.stored (k*6) (.string ⟨r.toArray⟩)).1.stored (k*6+1) (.int .i64 i)).1.stored (k*6+2) (.int .i64 c)).1.stored (k*6+3) (.int .i64 m)).2).trans (((((oW.stored (k*6) (.string ⟨r.toArray⟩)).1.stored (k*6+1) (.int .i64 i)).1.stored (k*6+2) (.int .i64 c)).1.stored (k*6+3) (.int .i64 m)).1.stored (k*6+4) (.int .i64 d)).2).trans ((((((oW.stored (k*6) (.string ⟨r.toArray⟩)).1.stored (k*6+1) (.int .i64 i)).1.stored (k*6+2) (.int .i64 c)).1.stored (k*6+3) (.int .i64 m)).1.stored (k*6+4) (.int .i64 d)).1.stored (k*6+5) (.bool u)).2) ⟨wr.heap.size,0,none⟩ BX.lt (by simp;omega)).trans BX.c0
   obtain ⟨q0,q1,q2,q3,q4,q5⟩:=BX
   simp only at q0 q1 q2 q3 q4 q5
   clear oW hat bW HO HA HS HT;go_upto_region 6 with fail
   clear q0 q1 q2 q3 q4 q5 y0 z0 y1 z1 y2 z2 y3 z3 y4 z4 y5 z5;obtain ⟨V,hV⟩:∃ V,(((((((W.setCell ⟨w.heap.size,k*6,none⟩ (.string ⟨r.toArray⟩)).setCell ⟨w.heap.size,k*6+1,none⟩ (.int .i64 i)).setCell ⟨w.heap.size,k*6+2,none⟩ (.int .i64 c)).setCell ⟨w.heap.size,k*6+3,none⟩ (.int .i64 m)).setCell ⟨w.heap.size,k*6+4,none⟩ (.int .i64 d)).setCell ⟨w.heap.size,k*6+5,none⟩ (.bool u)))=V:=⟨_,rfl⟩;rw [hV] at HR HBW HBOX ⊢;clear hV;have v0:=HBOX.o;have lb:wr.heap.size<V.heap.size:=World.block_lt_of_cell? V _ v0;go_wp2_with fail
   refine (Sm r _ hdk).mono ?_;rintro e w2 ⟨rfl,b2⟩;have o2:=Iw HR.o b2;have hat:=De (Du az (k+1)) k HFL2.o;rw [HAT.o] at hat
   have t0:w2.cell? ⟨w.heap.size,k*6,none⟩=some (.string ⟨r.toArray⟩):=by rw [o2.cellAt (k*6) (by omega)];exact hat.1
   have t1:w2.frozen? ⟨w.heap.size,k*6,none⟩=false:=o2.frozenAt _
   have HR2:Hid ((w2.setCell ⟨w.heap.size,k*6,none⟩ (.string ⟨r.toArray⟩)).ownsRow w.heap.size 107 6 (.slice (some ⟨w.heap.size,0,none⟩) az.length az.length) az.length (Ah (Du az (k+1)))):=by
    have R:=(o2.stored (k*6) (.string ⟨r.toArray⟩)).1;rw [G9 hat.1] at R;exact R
   have HB2:Hid (Below w.heap.size w (w2.setCell ⟨w.heap.size,k*6,none⟩ (.string ⟨r.toArray⟩))):=(HBW.o.trans (b2.mono HBW.o.size)).setCell nL _;clear o2 hat b2 HR HBW v0 HBOX HBX HAT;go_wp2
   go_roundw
   case rel=>exact ⟨k+1,by omega,by go_num,HR2.o,HB2.o⟩
   case measure=>simp [intOf];omega
  ·have hke:k=az.length:=by omega
   subst hke;rw [Sv] at ho;have HO:Hid _:=ho;clear ho;go_wp2;go_ret;exact ⟨rfl,HO.o,hbr⟩
def Gl (l:List UInt8) (a:Au):Bool:=a.ref == l
def addOk (az:List Au) (a:Au):Bool:=Gy a && (!az.any (Gl a.ref) && decide (az.length<100))
def Hp (az:List Au) (a:Au):List Au:=if addOk az a=true then az++[a] else az
theorem cZ {az:List Au} {a:Au} (h:addOk az a=false):Hp az a=az:=by rw [Hp,if_neg (by rw [h];decide)]
theorem Nk {az:List Au} {a:Au} (h:addOk az a=true):Hp az a=az++[a]:=by rw [Hp,if_pos h]
theorem jO (az:List Au) (a:Au):(Hp az a).length≤az.length+1:=by unfold Hp;split <;> simp
theorem Wr (p:Au→Bool) (az:List Au) (k:Nat) (h:k<az.length):(az.drop k).any p=(p (Ak az k) || (az.drop (k+1)).any p):=by
 rw [List.drop_eq_getElem_cons h,Gw h,List.any_cons]
theorem bP {w:World} {g:Nat} {a:Au} (h:Jo g a w):Ar w (some ⟨g,0,none⟩) [a] :=
 .inr ⟨g,0,rfl,h.lt,fun i hi=>by
  obtain rfl:i=0:=by simpa using hi
  exact ⟨h.c0,h.c1,h.c2,h.c3,h.c4,h.c5⟩⟩
theorem fA (a:Au) (l:List UInt8) (g:Nat) (w:World) (hc:w.cell? ⟨g,0,none⟩=some (.string ⟨l.toArray⟩)) :
  Calls prog 278 #[Fe a,.pointer (some ⟨g,0,none⟩)] w fun e w'=>e=.returned (.bool (Gl l a))∧BW w w':=by
 have hg:g<w.heap.size:=World.block_lt_of_cell? w _ hc;obtain ⟨r,i,c,m,d,u⟩:=a;have HQ:Hid (Gl l ⟨r,i,c,m,d,u⟩=(r == l)):=rfl
 simp only [Fe]
 have hc2:(w.alloc (.cells #[.string ⟨r.toArray⟩,.int .i64 i,.int .i64 c,.int .i64 m,.int .i64 d,.bool u] 107)).cell? ⟨g,0,none⟩=some (.string ⟨l.toArray⟩):=by rw [World.cell?_alloc_lt _ _ _ hg];exact hc
 go_enter func278,ntmps278
 go_wp2;go_ret;exact ⟨Aa HQ.o.symm,bR.alloc nL _⟩
theorem iA (ao:Option Addr) (cap:Nat) (az:List Au) (l:List UInt8) (g:Nat) (w:World) (hz:Ar w ao az) (hn:az.length≤4194304) (hc:w.cell? ⟨g,0,none⟩=some (.string ⟨l.toArray⟩)) :
  Calls prog 309 #[.slice ao az.length cap,.func (.func 278) #[] #[.pointer (some ⟨g,0,none⟩)]] w fun e w'=>∃ x:Int,e=.returned (.int .i64 x)∧decide (0≤x)=az.any (Gl l)∧BW w w':=by
 have hg:g<w.heap.size:=World.block_lt_of_cell? w _ hc
 rcases hz with rfl | ⟨b,off,rfl,hb,hcell⟩
 ·go_enter func309,ntmps309
  go_wp2;refine wp_loop_rounds 1 ?_;rw [rounds_succ];go_wp2;go_ret
  exact ⟨_,rfl,by simp,bR⟩
 have HC:Hid (∀ i,i<az.length→w.cell? ⟨b,off+i*6,none⟩=some (.string ⟨(Ak az i).ref.toArray⟩)∧w.cell? ⟨b,off+i*6+1,none⟩=some (.int .i64 (Ak az i).iss)∧w.cell? ⟨b,off+i*6+2,none⟩=some (.int .i64 (Ak az i).cur)∧w.cell? ⟨b,off+i*6+3,none⟩=some (.int .i64 (Ak az i).am)∧w.cell? ⟨b,off+i*6+4,none⟩=some (.int .i64 (Ak az i).day)∧w.cell? ⟨b,off+i*6+5,none⟩=some (.bool (Ak az i).used)):=hcell;have HG:Hid _:=hc;clear hcell hc
 go_enter func309,ntmps309
 go_wp2
 go_loopw [5,8] (fun _ i wr=>∃ k:Nat,k≤az.length∧i=.int .i64 k∧az.any (Gl l)=(az.drop k).any (Gl l)∧BW w wr) (fun _ i _=>az.length - (intOf i).toNat)
 case atStart=>exact ⟨0,Nat.zero_le _,rfl,rfl,bR⟩
 case round =>
  obtain ⟨k,hk,rfl,hany,hbr⟩:=hrel
  by_cases hlt:k<az.length
  ·have x0:wr.cell? ⟨b,off+k*6,none⟩=some (.string ⟨(Ak az k).ref.toArray⟩):=(hbr.cell (p:=⟨b,off+k*6,none⟩) hb).trans (HC.o k hlt).1
   have x1:wr.cell? ⟨b,off+k*6+1,none⟩=some (.int .i64 (Ak az k).iss):=(hbr.cell (p:=⟨b,off+k*6+1,none⟩) hb).trans (HC.o k hlt).2.1;have x2:wr.cell? ⟨b,off+k*6+2,none⟩=some (.int .i64 (Ak az k).cur):=(hbr.cell (p:=⟨b,off+k*6+2,none⟩) hb).trans (HC.o k hlt).2.2.1;have x3:wr.cell? ⟨b,off+k*6+3,none⟩=some (.int .i64 (Ak az k).am):=(hbr.cell (p:=⟨b,off+k*6+3,none⟩) hb).trans (HC.o k hlt).2.2.2.1;have x4:wr.cell? ⟨b,off+k*6+4,none⟩=some (.int .i64 (Ak az k).day):=(hbr.cell (p:=⟨b,off+k*6+4,none⟩) hb).trans (HC.o k hlt).2.2.2.2.1;have x5:wr.cell? ⟨b,off+k*6+5,none⟩=some (.bool (Ak az k).used):=(hbr.cell (p:=⟨b,off+k*6+5,none⟩) hb).trans (HC.o k hlt).2.2.2.2.2
   have hki:(k:Int)<(az.length:Int):=by omega
   have HST:Hid _:=hany.trans (Wr (Gl l) az k hlt);have hgr:=(hbr.cell (p:=⟨g,0,none⟩) hg).trans HG.o
   have HCL:Hid (Calls prog 278 #[Fe (Ak az k),.pointer (some ⟨g,0,none⟩)] wr fun e w'=>e=.returned (.bool (Gl l (Ak az k)))∧BW wr w'):=fA _ l g wr hgr
   obtain ⟨q,hq⟩:∃ q,Gl l (Ak az k)=q:=⟨_,rfl⟩;rw [hq] at HST HCL;obtain ⟨⟨r,i,c,m,d,u⟩,hf⟩:∃ a,Ak az k=a:=⟨_,rfl⟩;rw [hf] at x0 x1 x2 x3 x4 x5 HCL;unfold Fe at HCL
   simp only at x0 x1 x2 x3 x4 x5 HCL
   have HB:Hid (BW w wr):=hbr;clear hf hany hgr hq hbr;go_wp2_with fail
   refine (HCL.o).mono ?_;rintro e w2 ⟨rfl,b2⟩;have HB2:Hid (BW w w2):=HB.o.trans (b2.mono HB.o.size);clear b2 x0 x1 x2 x3 x4 x5
   cases q
   ·go_wp2
    go_roundw
    case rel=>exact ⟨k+1,by omega,by go_num,by rw [HST.o];rfl,HB2.o⟩
    case measure=>simp [intOf];omega
   ·go_wp2
    go_ret
    exact ⟨(k:Int),rfl,by rw [HST.o,decide_eq_true (show (0:Int)≤(k:Int) by omega)];rfl,HB2.o⟩
  ·have HE:Hid (az.any (Gl l)=false):=by rw [Hid,hany,List.drop_of_length_le (by omega)];rfl
   go_wp2;go_ret
   exact ⟨_,rfl,by rw [HE.o];rfl,hbr⟩
theorem Zj (ao:Option Addr) (cap:Nat) (az:List Au) (l:List UInt8) (w:World) (hz:Ar w ao az) (hn:az.length≤4194304) :
  Calls prog 249 #[.slice ao az.length cap,.string ⟨l.toArray⟩] w fun e w'=>e=.returned (.bool (az.any (Gl l)))∧BW w w':=by
 have bA:∀ t,Below w.heap.size w (w.alloc (.cells #[.string ⟨l.toArray⟩] t)):=fun t=>bR.alloc nL _
 have HC:Hid (∀ t,Calls prog 277 #[.slice ao az.length cap,.func (.func 278) #[] #[.pointer (some ⟨w.heap.size,0,none⟩)]] (w.alloc (.cells #[.string ⟨l.toArray⟩] t)) fun e w'=>e=.returned (.bool (az.any (Gl l)))∧BW w w'):=fun t=>by
  have hzA:=hz.below (bA t)
  have hcc:(w.alloc (.cells #[.string ⟨l.toArray⟩] t)).cell? ⟨w.heap.size,0,none⟩=some (.string ⟨l.toArray⟩):=by simp
  have HIX:Hid (Calls prog 309 #[.slice ao az.length cap,.func (.func 278) #[] #[.pointer (some ⟨w.heap.size,0,none⟩)]] (w.alloc (.cells #[.string ⟨l.toArray⟩] t)) fun e w'=>∃ x:Int,e=.returned (.int .i64 x)∧decide (0≤x)=az.any (Gl l)∧Below (w.alloc (.cells #[.string ⟨l.toArray⟩] t)).heap.size (w.alloc (.cells #[.string ⟨l.toArray⟩] t)) w'):=iA ao cap az l w.heap.size _ hzA hn hcc
  have HB0:Hid (Below w.heap.size w (w.alloc (.cells #[.string ⟨l.toArray⟩] t))):=bA t
  generalize w.alloc (.cells #[.string ⟨l.toArray⟩] t)=W at HIX HB0
  clear hzA hcc bA
  go_enter func277,ntmps277
  go_wp2_with fail
  refine Calls.mono HIX.o ?_;rintro e w2 ⟨x,rfl,hx,b2⟩;have HX:Hid _:=hx;have HB2:Hid (BW w w2):=HB0.o.trans (b2.mono HB0.o.size);clear hx b2;go_wp2;go_ret;exact ⟨Aa HX.o,HB2.o⟩
 clear bA hz
 go_enter func249,ntmps249
 go_wp2_with fail
 refine (HC.o _).mono ?_;rintro e w2 ⟨rfl,b2⟩;have HB2:Hid _:=b2;clear b2;go_wp2;go_ret;exact ⟨rfl,HB2.o⟩
def Zb (w:World) (g:Nat) (a1:Option Addr) (c1:Nat) (a2:Option Addr) (c2:Nat) (xs ys:List Au):Prop :=
 w.cell? ⟨g,0,none⟩=some (.slice a1 xs.length c1)∧w.cell? ⟨g,1,none⟩=some (.slice a2 ys.length c2)∧Ar w a1 xs∧Ar w a2 ys
theorem Zb.below {w w':World} {g:Nat} {a1 a2:Option Addr} {c1 c2:Nat} {xs ys:List Au} (h:Zb w g a1 c1 a2 c2 xs ys) (hb:BW w w'):Zb w' g a1 c1 a2 c2 xs ys:=by
 obtain ⟨h1,h2,h3,h4⟩:=h;have hg:g<w.heap.size:=World.block_lt_of_cell? w _ h1;exact ⟨(hb.cell (p:=⟨g,0,none⟩) hg).trans h1,(hb.cell (p:=⟨g,1,none⟩) hg).trans h2,h3.below hb,h4.below hb⟩
theorem hI (g:Nat) (a1 a2:Option Addr) (c1 c2:Nat) (xs ys:List Au) (w:World) (h:Zb w g a1 c1 a2 c2 xs ys) (hx:xs.length≤1048576) (hy:ys.length≤1048576) :
  Calls prog 250 #[.slice (some ⟨g,0,none⟩) 2 2] w fun e w'=>∃ v,e=.returned v ∧
   w'.ownsRow w.heap.size 107 6 v (xs.length+ys.length) (Ah (xs++ys))∧BW w w':=by
 have HT:Hid (Zb w g a1 c1 a2 c2 xs ys):=h;obtain ⟨e1,e2,f1,f2⟩:=h;have HF1:Hid _:=f1;clear f1 f2
 go_enter func250,ntmps250
 go_wp2;refine wp_loop_rounds 3 ?_;rw [rounds_succ]
 go_wp2_with (at_builtin;refine Bu _ rfl (.tmp 12) (.tmp 13) rfl w.heap.size _ 0 [] rfl (World.ownsRow_nil _ _ _ _) a1 c1 xs rfl HF1.o (by omega) nL ?_;intro v2 w2 o2 g2 _)
 have q2:BW w w2:=bR.grown g2 nL (fun k hk=>by cases hk)
 obtain ⟨_,d2,f1,f2⟩:=HT.o.below q2;have HF2:Hid _:=f2;have HO2:Hid (w2.ownsRow w.heap.size 107 6 v2 (0+xs.length) ([]++Ah xs)):=o2;have hs2:=q2.size;clear e1 e2 f1 f2 o2 g2 HF1;go_wp2;rw [rounds_succ]
 go_wp2_with (at_builtin;refine Bu _ rfl (.tmp 12) (.tmp 13) rfl w.heap.size _ _ _ rfl HO2.o a2 c2 ys rfl HF2.o (by omega) hs2 ?_;intro v3 w3 o3 g3 _)
 have q3:BW w w3:=q2.grown g3 hs2 (fun k hk=>(HO2.o.lt k hk).1)
 have HO3:Hid (w3.ownsRow w.heap.size 107 6 v3 (xs.length+ys.length) (Ah (xs++ys))):=by
  rw [F9];rw [Nat.zero_add,List.nil_append] at o3;exact o3
 clear d2 o3 g3 HO2 hs2 HF2;go_wp2;rw [rounds_succ];go_wp2;go_ret;exact ⟨v3,rfl,HO3.o,q3⟩
theorem aI (ao:Option Addr) (cap:Nat) (az:List Au) (a:Au) (w:World) (hz:Ar w ao az) (hn:az.length≤1048576) (hd:∀ x ∈ az,x.ref.length≤1099511627776) (hl:a.ref.length≤1099511627776) (hc:Bf a.cur) :
  Calls prog 208 #[.slice ao az.length cap,Fe a] w (Pi w (Hp az a) (addOk az a)):=by
 have HV:Hid (addOk az a=(Gy a && (!az.any (Gl a.ref) && decide (az.length<100)))):=rfl;have HN:Hid (addOk az a=false→Hp az a=az):=cZ;have HY:Hid (addOk az a=true→Hp az a=az++[a]):=Nk;have HZ:Hid (Ar w ao az):=hz;clear hz;obtain ⟨q,hq⟩:∃ q,Gy a=q:=⟨_,rfl⟩
 have HO:Hid (∀ u,Calls prog 248 #[Fe a] u fun e w'=>e=.returned (.bool q)∧BW u w'):=fun u=>by rw [← hq];exact Oi a u hl hc
 obtain ⟨h,hh⟩:∃ h,az.any (Gl a.ref)=h:=⟨_,rfl⟩
 have HH:Hid (∀ u,Ar u ao az→Calls prog 249 #[.slice ao az.length cap,.string ⟨a.ref.toArray⟩] u fun e w'=>e=.returned (.bool h)∧BW u w'):=fun u hu=>by rw [← hh];exact Zj ao cap az a.ref u hu (by omega)
 have HCP:Hid (∀ u,Ar u ao az→Calls prog 110 #[.slice ao az.length cap] u fun e w'=>e=.returned (.slice (some ⟨u.heap.size,0,none⟩) az.length az.length) ∧
   w'.ownsRow u.heap.size 107 6 (.slice (some ⟨u.heap.size,0,none⟩) az.length az.length) az.length (Ah az)∧BW u w'):=fun u hu=>Dj ao cap az u hu (by omega) hd
 have HCN:Hid (∀ (u:World) (bo:Option Addr) (cb:Nat),Ar u bo (az++[a])→Calls prog 110 #[.slice bo (az++[a]).length cb] u fun e w'=>e=.returned (.slice (some ⟨u.heap.size,0,none⟩) (az++[a]).length (az++[a]).length) ∧
   w'.ownsRow u.heap.size 107 6 (.slice (some ⟨u.heap.size,0,none⟩) (az++[a]).length (az++[a]).length) (az++[a]).length (Ah (az++[a]))∧BW u w'):=fun u bo cb hu=>Dj bo cb (az++[a]) u hu (by simp;omega) (fun x hx=>by
    rcases List.mem_append.1 hx with h1 | h1
    ·exact hd x h1
    ·have:x=a:=by simpa using h1
     rw [this];exact hl)
 obtain ⟨W,hW⟩:∃ W,W=w.alloc (.cells #[.string ⟨a.ref.toArray⟩,.int .i64 a.iss,.int .i64 a.cur,.int .i64 a.am,.int .i64 a.day,.bool a.used] 107):=⟨_,rfl⟩
 have B:Jo w.heap.size a W:=by rw [hW];exact Jo.new w a _
 have HBB:Hid (Jo w.heap.size a W):=B
 have bW:BW w W:=by rw [hW];exact bR.alloc nL _
 have HBW:Hid (BW w W):=bW;rw [hq,hh] at HV;clear bW hd hl hc hq hh
 cases q
 ·have HQ:Hid (addOk az a=false):=HV.o
  have HL:Hid (Hp az a=az):=HN.o HQ.o;rw [HQ.o,HL.o];clear HV HN HY HQ HL HCN HH;obtain ⟨r,i,c,m,d,u⟩:=a;unfold Fe at HO ⊢
  simp only at hW HO ⊢
  have HW:Hid _:=hW;obtain ⟨f0,f1,f2,f3,f4,f5⟩:=B;clear hW
  go_enter func208,ntmps208
  go_upto_region 1 with fail
  rw [← HW.o];go_wp2_with fail
  refine (HO.o _).mono ?_;rintro e u1 ⟨rfl,b1⟩;have HB1:Hid (BW w u1):=next HBW.o b1;clear b1 f0 f1 f2 f3 f4 f5;go_wp2_with fail
  refine (HCP.o _ (HZ.o.below HB1.o)).mono ?_;rintro e u2 ⟨rfl,o2,b2⟩;have HO2:Hid _:=Ri o2 HB1.o.size;have HB2:Hid (BW w u2):=next HB1.o b2;clear o2 b2;go_wp2;go_ret2;exact ⟨_,_,rfl,HO2.o,HB2.o⟩
 cases h
 ·by_cases h100:az.length<100
  ·have HQ:Hid (addOk az a=true):=by rw [Hid,HV.o,decide_eq_true h100];rfl
   have HL:Hid (Hp az a=az++[a]):=HY.o HQ.o;rw [HQ.o,HL.o]
   have h100':(az.length:Int)<100:=by omega
   have HXL:Hid ((az++[a]).length=az.length+1):=by rw [Hid];simp
   have HJ:Hid (∀ (u:World) (g:Nat) (a2:Option Addr) (c2:Nat),Zb u g ao cap a2 c2 az [a]→Calls prog 250 #[.slice (some ⟨g,0,none⟩) 2 2] u fun e w'=>∃ bo cb,e=.returned (.slice bo (az++[a]).length cb)∧Ar w' bo (az++[a])∧BW u w'):=fun u g a2 c2 h2 =>
    (hI g ao a2 cap c2 az [a] u h2 (by omega) (by simp)).mono fun e u' ⟨v,he,hv,hb⟩=>by
     obtain ⟨bo,cb,rfl,hA,_⟩:=Lo hv;exact ⟨bo,cb,he,hA,hb⟩
   clear HV HN HY HQ HL HCP;obtain ⟨L,hL⟩:∃ L,az++[a]=L:=⟨_,rfl⟩;rw [hL] at HCN HJ HXL ⊢
   have HTW:Hid (∀ (u:World) (t1 t2:TypeId),Ar u ao az→Zb ((u.alloc (.cells #[.string ⟨a.ref.toArray⟩,.int .i64 a.iss,.int .i64 a.cur,.int .i64 a.am,.int .i64 a.day,.bool a.used] t1)).alloc (.cells #[.slice ao az.length cap,.slice (some ⟨u.heap.size,0,none⟩) 1 1] t2)) (u.heap.size+1) ao cap (some ⟨u.heap.size,0,none⟩) 1 az [a]∧Below u.heap.size u ((u.alloc (.cells #[.string ⟨a.ref.toArray⟩,.int .i64 a.iss,.int .i64 a.cur,.int .i64 a.am,.int .i64 a.day,.bool a.used] t1)).alloc (.cells #[.slice ao az.length cap,.slice (some ⟨u.heap.size,0,none⟩) 1 1] t2))):=fun u t1 t2 hu=>by
    have b1:Below u.heap.size u (u.alloc (.cells #[.string ⟨a.ref.toArray⟩,.int .i64 a.iss,.int .i64 a.cur,.int .i64 a.am,.int .i64 a.day,.bool a.used] t1)):=bR.alloc nL _;have B1:=Jo.new u a t1;have z1:=hu.below b1
    have hsz:(u.alloc (.cells #[.string ⟨a.ref.toArray⟩,.int .i64 a.iss,.int .i64 a.cur,.int .i64 a.am,.int .i64 a.day,.bool a.used] t1)).heap.size=u.heap.size+1:=by simp
    generalize u.alloc (.cells #[.string ⟨a.ref.toArray⟩,.int .i64 a.iss,.int .i64 a.cur,.int .i64 a.am,.int .i64 a.day,.bool a.used] t1)=V at b1 B1 z1 hsz
    have b2:Below V.heap.size V (V.alloc (.cells #[.slice ao az.length cap,.slice (some ⟨u.heap.size,0,none⟩) 1 1] t2)):=bR.alloc nL _
    have k1:(V.alloc (.cells #[.slice ao az.length cap,.slice (some ⟨u.heap.size,0,none⟩) 1 1] t2)).cell? ⟨V.heap.size,0,none⟩=some (.slice ao az.length cap):=by simp
    have k2:(V.alloc (.cells #[.slice ao az.length cap,.slice (some ⟨u.heap.size,0,none⟩) 1 1] t2)).cell? ⟨V.heap.size,1,none⟩=some (.slice (some ⟨u.heap.size,0,none⟩) 1 1):=by simp
    rw [hsz] at k1 k2;exact ⟨⟨k1,k2,z1.below b2,bP (B1.below b2)⟩,next b1 b2⟩
   clear hL;obtain ⟨r,i,c,m,d,u⟩:=a;unfold Fe at HO ⊢
   simp only at hW HO HH HTW ⊢
   have HW:Hid _:=hW;obtain ⟨f0,f1,f2,f3,f4,f5⟩:=B;clear hW
   go_enter func208,ntmps208
   go_upto_region 1 with fail
   rw [← HW.o];go_wp2_with fail
   refine (HO.o _).mono ?_;rintro e u1 ⟨rfl,b1⟩;have HB1:Hid (BW w u1):=next HBW.o b1;have B1:=HBB.o.below b1;have HBB1:Hid (Jo w.heap.size ⟨r,i,c,m,d,u⟩ u1):=B1;clear b1 f0 f1 f2 f3 f4 f5;obtain ⟨f0,f1,f2,f3,f4,f5⟩:=B1
   simp only at f0 f1 f2 f3 f4 f5
   go_wp2_with fail
   refine (HH.o _ (HZ.o.below HB1.o)).mono ?_;rintro e u2 ⟨rfl,b2⟩;have HB2:Hid (BW w u2):=next HB1.o b2;have B2:=HBB1.o.below b2;clear b2 f0 f1 f2 f3 f4 f5;obtain ⟨f0,f1,f2,f3,f4,f5⟩:=B2
   simp only at f0 f1 f2 f3 f4 f5
   go_wp2_with fail
   refine (HJ.o _ _ _ _ (HTW.o u2 _ _ (HZ.o.below HB2.o)).1).mono ?_;rintro e u3 ⟨bo,cb,rfl,hA3,b3⟩;have HB3:Hid (BW w u3):=next (next HB2.o (HTW.o u2 _ _ (HZ.o.below HB2.o)).2) b3;have HA3:Hid (Ar u3 bo L):=hA3;clear hA3 b3 f0 f1 f2 f3 f4 f5;go_wp2_with fail
   refine (HCN.o _ _ _ HA3.o).mono ?_;rintro e u4 ⟨rfl,o4,b4⟩;have HO4:Hid _:=Ri o4 HB3.o.size;have HB4:Hid (BW w u4):=next HB3.o b4;clear o4 b4;go_wp2;go_ret2;exact ⟨_,_,rfl,HO4.o,HB4.o⟩
  ·have HQ:Hid (addOk az a=false):=by rw [Hid,HV.o,decide_eq_false h100];rfl
   have HL:Hid (Hp az a=az):=HN.o HQ.o;rw [HQ.o,HL.o]
   have h100':100≤(az.length:Int):=by omega
   clear HV HN HY HQ HL HCN;obtain ⟨r,i,c,m,d,u⟩:=a;unfold Fe at HO ⊢
   simp only at hW HO HH ⊢
   have HW:Hid _:=hW;obtain ⟨f0,f1,f2,f3,f4,f5⟩:=B;clear hW
   go_enter func208,ntmps208
   go_upto_region 1 with fail
   rw [← HW.o];go_wp2_with fail
   refine (HO.o _).mono ?_;rintro e u1 ⟨rfl,b1⟩;have HB1:Hid (BW w u1):=next HBW.o b1;have B1:=HBB.o.below b1;clear b1 f0 f1 f2 f3 f4 f5;obtain ⟨f0,f1,f2,f3,f4,f5⟩:=B1
   simp only at f0 f1 f2 f3 f4 f5
   go_wp2_with fail
   refine (HH.o _ (HZ.o.below HB1.o)).mono ?_;rintro e u2 ⟨rfl,b2⟩;have HB2:Hid (BW w u2):=next HB1.o b2;clear b2 f0 f1 f2 f3 f4 f5;go_wp2_with fail
   refine (HCP.o _ (HZ.o.below HB2.o)).mono ?_;rintro e u3 ⟨rfl,o3,b3⟩;have HO3:Hid _:=Ri o3 HB2.o.size;have HB3:Hid (BW w u3):=next HB2.o b3;clear o3 b3;go_wp2;go_ret2;exact ⟨_,_,rfl,HO3.o,HB3.o⟩
 ·have HQ:Hid (addOk az a=false):=by rw [Hid,HV.o];rfl
  have HL:Hid (Hp az a=az):=HN.o HQ.o;rw [HQ.o,HL.o];clear HV HN HY HQ HL HCN;obtain ⟨r,i,c,m,d,u⟩:=a;unfold Fe at HO ⊢
  simp only at hW HO HH ⊢
  have HW:Hid _:=hW;obtain ⟨f0,f1,f2,f3,f4,f5⟩:=B;clear hW
  go_enter func208,ntmps208
  go_upto_region 1 with fail
  rw [← HW.o];go_wp2_with fail
  refine (HO.o _).mono ?_;rintro e u1 ⟨rfl,b1⟩;have HB1:Hid (BW w u1):=next HBW.o b1;have B1:=HBB.o.below b1;clear b1 f0 f1 f2 f3 f4 f5;obtain ⟨f0,f1,f2,f3,f4,f5⟩:=B1
  simp only at f0 f1 f2 f3 f4 f5
  go_wp2_with fail
  refine (HH.o _ (HZ.o.below HB1.o)).mono ?_;rintro e u2 ⟨rfl,b2⟩;have HB2:Hid (BW w u2):=next HB1.o b2;clear b2 f0 f1 f2 f3 f4 f5;go_wp2_with fail
  refine (HCP.o _ (HZ.o.below HB2.o)).mono ?_;rintro e u3 ⟨rfl,o3,b3⟩;have HO3:Hid _:=Ri o3 HB2.o.size;have HB3:Hid (BW w u3):=next HB2.o b3;clear o3 b3;go_wp2;go_ret2;exact ⟨_,_,rfl,HO3.o,HB3.o⟩
theorem Yb (ao:Option Addr) (cap:Nat) (az:List Au) (a:Au) (w:World) (hz:Ar w ao az) (hn:az.length≤1048576) (hl:a.ref.length≤1099511627776) :
  Calls prog 143 #[.slice ao az.length cap,Fe a] w (Pi w (Hp az a) (addOk az a)):=by
 have HV:Hid (addOk az a=(Gy a && (!az.any (Gl a.ref) && decide (az.length<100)))):=rfl;have HN:Hid (addOk az a=false→Hp az a=az):=cZ;have HY:Hid (addOk az a=true→Hp az a=az++[a]):=Nk;have HZ:Hid (Ar w ao az):=hz;obtain ⟨q,hq⟩:∃ q,Gy a=q:=⟨_,rfl⟩
 have HO:Hid (∀ u,Calls prog 179 #[Fe a] u fun e w'=>e=.returned (.bool q)∧BW u w'):=fun u=>by rw [← hq];exact Pe a u hl
 obtain ⟨W,hW⟩:∃ W,W=w.alloc (.cells #[.string ⟨a.ref.toArray⟩,.int .i64 a.iss,.int .i64 a.cur,.int .i64 a.am,.int .i64 a.day,.bool a.used] 107):=⟨_,rfl⟩
 have B:Jo w.heap.size a W:=by rw [hW];exact Jo.new w a _
 have HBB:Hid (Jo w.heap.size a W):=B
 have bW:BW w W:=by rw [hW];exact bR.alloc nL _
 have HBW:Hid (BW w W):=bW;have bA:Below W.heap.size W (W.alloc (.cells #[] 107)):=bR.alloc nL _;have HZ1:Hid (Ar (W.alloc (.cells #[] 107)) ao az):=(hz.below bW).below bA;have HO1:=kV W;rw [hq] at HV;obtain ⟨A,hA⟩:∃ A,a=A:=⟨_,rfl⟩;rw [hA] at HV HN HY HBB ⊢
 have HAR:Hid (A.ref=a.ref):=by rw [hA];exact rfl
 have HAA:Hid (A=⟨a.ref,a.iss,a.cur,a.am,a.day,a.used⟩):=by rw [hA];exact rfl
 have e0:Fe A=Fe a:=by rw [hA]
 rw [e0];clear bW hl hq hz e0 hA;obtain ⟨r,i,c,m,d,u⟩:=a;unfold Fe at HO ⊢
 simp only at hW HO HAR HAA ⊢
 rw [HAR.o] at HV;have HW:Hid _:=hW;clear hW B
 go_enter func143,ntmps143
 go_upto_region 1 with fail
 rw [← HW.o]
 go_upto_region 2 with (at_builtin;refine Bu _ rfl (.tmp 8) (.tmp 9) rfl W.heap.size (.slice (some ⟨W.heap.size,0,none⟩) 0 0) 0 [] rfl HO1 ao cap az rfl HZ1.o (by omega) (by simp) ?_;intro v2 w2 o2 g2 n2)
 obtain ⟨g,cc,rfl⟩:=Oe o2 (n2 (by simp))
 simp only [Nat.zero_add,List.nil_append] at o2 ⊢
 have b2:BW W w2:=bA.grown g2 (by simp) (fun j hj=>by cases hj;exact nL)
 have B2:=HBB.o.below b2;rw [HAA.o] at B2;have HB2:Hid (BW w w2):=next HBW.o b2;have HBX2:Hid (Jo w.heap.size ⟨r,i,c,m,d,u⟩ w2):=B2;have HR:Hid (w2.ownsRow w.heap.size 107 6 (.slice (some ⟨g,0,none⟩) az.length cc) az.length (Ah az)):=Ri o2 HBW.o.size;have HG:Hid (W.heap.size≤g):=(o2.lt g rfl).1;clear o2 b2 g2 n2 HO1 bA HZ1;obtain ⟨f0,f1,f2,f3,f4,f5⟩:=B2
 simp only at f0 f1 f2 f3 f4 f5
 cases q
 ·have HQ:Hid (addOk az A=false):=HV.o
  have HL:Hid (Hp az A=az):=HN.o HQ.o;clear HV HN HY HAA HAR;go_wp2_with fail
  refine (HO.o _).mono ?_;rintro e u1 ⟨rfl,b1⟩;have HB3:Hid (BW w u1):=next HB2.o b1;have HR3:Hid _:=Iw HR.o b1;clear b1 f0 f1 f2 f3 f4 f5;go_wp2;go_ret2;rw [HQ.o,HL.o];exact ⟨_,_,rfl,HR3.o,HB3.o⟩
 by_cases h100:az.length<100
 ·have h100':(az.length:Int)<100:=by omega
  have HV2:Hid (addOk az A = !az.any (Gl r)):=by rw [Hid,HV.o,decide_eq_true h100,Bool.and_true,Bool.true_and]
  clear HV;go_wp2_with fail
  refine (HO.o _).mono ?_;rintro e u1 ⟨rfl,b1⟩;have HB3:Hid (BW w u1):=next HB2.o b1;have HR3:Hid (u1.ownsRow w.heap.size 107 6 (.slice (some ⟨g,0,none⟩) az.length cc) az.length (Ah az)):=Iw HR.o b1;have HBX3:Hid (Jo w.heap.size ⟨r,i,c,m,d,u⟩ u1):=HBX2.o.below b1;have HZ3:Hid (Ar u1 ao az):=HZ.o.below HB3.o;clear b1 f0 f1 f2 f3 f4 f5 HR HBX2 HB2 HO HZ HBB;go_wp2
  go_loopw [7] (fun i wr=>∃ k:Nat,k≤az.length∧i=.int .i64 k∧az.any (Gl r)=(az.drop k).any (Gl r)∧BW u1 wr) (fun i _=>az.length - (intOf i).toNat)
  case atStart=>exact ⟨0,Nat.zero_le _,rfl,rfl,bR⟩
  case round =>
   obtain ⟨k,hk,rfl,hany,hbr⟩:=hrel;obtain ⟨f0,f1,f2,f3,f4,f5⟩:=HBX3.o.below hbr
   simp only at f0 f1 f2 f3 f4 f5
   by_cases hlt:k<az.length
   ·have hki:(k:Int)<(az.length:Int):=by omega
    have HST:Hid _:=hany.trans (Wr (Gl r) az k hlt)
    rcases HZ3.o with h0 | ⟨b,off,rfl,hb,hcell⟩
    ·rw [h0] at hlt;simp at hlt
    have x0:wr.cell? ⟨b,off+k*6,none⟩=some (.string ⟨(Ak az k).ref.toArray⟩):=(hbr.cell (p:=⟨b,off+k*6,none⟩) hb).trans (hcell k hlt).1;have HPQ:Hid (Gl r (Ak az k)=((Ak az k).ref == r)):=rfl;obtain ⟨l,hlx⟩:∃ l,(Ak az k).ref=l:=⟨_,rfl⟩;rw [hlx] at x0 HPQ;have HB4:Hid (BW u1 wr):=hbr;have HWR:Hid (BW w wr):=next HB3.o hbr;have HR4:Hid _:=Iw HR3.o hbr;clear hlx hany hcell hbr
    cases hq:(l == r)
    ·have HE:Hid (az.any (Gl r)=(az.drop (k+1)).any (Gl r)):=by rw [Hid,HST.o,HPQ.o,hq];rfl
     clear HST HPQ;go_wp2
     go_quiet (fail)
     go_wp2
     go_roundw
     case rel=>exact ⟨k+1,by omega,by go_num,HE.o,below_drewN HB4.o _⟩
     case measure=>simp [intOf];omega
    ·have HE:Hid (az.any (Gl r)=true):=by rw [Hid,HST.o,HPQ.o,hq];rfl
     have HQ:Hid (addOk az A=false):=by rw [Hid,HV2.o,HE.o];rfl
     have HL:Hid (Hp az A=az):=HN.o HQ.o;clear HST HPQ;go_wp2
     go_quiet (fail)
     go_wp2;go_ret2;rw [HQ.o,HL.o];exact ⟨_,_,rfl,Iw HR4.o (below_drewN bR _),below_drewN HWR.o _⟩
   ·have HE:Hid (az.any (Gl r)=false):=by rw [Hid,hany,List.drop_of_length_le (by omega)];rfl
    have HQ:Hid (addOk az A=true):=by rw [Hid,HV2.o,HE.o];rfl
    have HL:Hid (Hp az A=az++[⟨r,i,c,m,d,u⟩]):=by rw [Hid,HY.o HQ.o,HAA.o]
    have HWR:Hid (BW w wr):=next HB3.o hbr;have HR4:Hid (wr.ownsRow w.heap.size 107 6 (.slice (some ⟨g,0,none⟩) az.length cc) az.length (Ah az)):=Iw HR3.o hbr;have HON:Hid (Ar (wr.alloc (.cells #[.string ⟨r.toArray⟩,.int .i64 i,.int .i64 c,.int .i64 m,.int .i64 d,.bool u] 107)) (some ⟨wr.heap.size,0,none⟩) [⟨r,i,c,m,d,u⟩]):=bP (Jo.new wr ⟨r,i,c,m,d,u⟩ _);have HOA:Hid ((wr.alloc (.cells #[.string ⟨r.toArray⟩,.int .i64 i,.int .i64 c,.int .i64 m,.int .i64 d,.bool u] 107)).ownsRow w.heap.size 107 6 (.slice (some ⟨g,0,none⟩) az.length cc) az.length (Ah az)):=Iw HR4.o (bR.alloc nL _);have hwz:w.heap.size≤wr.heap.size:=HWR.o.size;clear HE hany hbr HN HY HV2
    go_wp2_with (at_builtin;refine Bu _ rfl (.tmp 35) (.tmp 37) rfl w.heap.size (.slice (some ⟨g,0,none⟩) az.length cc) az.length (Ah az) rfl HOA.o (some ⟨wr.heap.size,0,none⟩) 1 [⟨r,i,c,m,d,u⟩] rfl HON.o (by simp;omega) (by simp;omega) ?_;intro v3 w3 o3 g3 n3)
    obtain ⟨a3,c3,rfl⟩:=dI o3
    have HO3:Hid (w3.ownsRow w.heap.size 107 6 (.slice a3 (az++([⟨r,i,c,m,d,u⟩]:List Au)).length c3) (az++([⟨r,i,c,m,d,u⟩]:List Au)).length (Ah (az++[⟨r,i,c,m,d,u⟩]))):=by rw [Hid,List.length_append,F9];exact o3
    have HB5:Hid (BW w w3):=(HWR.o.alloc HWR.o.size _).grown g3 (by simp;omega) (fun j hj=>(HOA.o.lt j hj).1)
    clear o3 g3 n3 HOA HON;go_wp2;go_ret2;rw [HQ.o,HL.o]
    exact ⟨a3,c3,by rw [List.length_append];rfl,HO3.o,HB5.o⟩
 ·have h100':100≤(az.length:Int):=by omega
  have HQ:Hid (addOk az A=false):=by rw [Hid,HV.o,decide_eq_false h100,Bool.and_false];rfl
  have HL:Hid (Hp az A=az):=HN.o HQ.o;clear HV HN HY HAA HAR;go_wp2_with fail
  refine (HO.o _).mono ?_;rintro e u1 ⟨rfl,b1⟩;have HB3:Hid (BW w u1):=next HB2.o b1;have HR3:Hid _:=Iw HR.o b1;clear b1 f0 f1 f2 f3 f4 f5;go_wp2;go_ret2;rw [HQ.o,HL.o];exact ⟨_,_,rfl,HR3.o,HB3.o⟩
def C7 (f:Int) (a:Au):Bool:=!a.used && decide (f≤a.day)
def E5 (az:List Au) (t:Int):List Au:=if Dn t=true then az.filter (C7 (t - 7)) else []
theorem Yp (az:List Au) (t:Int):(E5 az t).length≤az.length:=by unfold E5;split;exact List.length_filter_le _ _;exact Nat.zero_le _
theorem Jy (f:Int) (az:List Au) (k:Nat) (h:k<az.length):(az.take (k+1)).filter (C7 f)=(az.take k).filter (C7 f)++(if C7 f (Ak az k)=true then [Ak az k] else []):=by
 rw [List.take_succ_eq_append_getElem h,List.filter_append,Gw h]
 cases hq:C7 f az[k] <;> simp [hq]
theorem Uo {base n:Nat} {t:TypeId} {g cap:Nat} (vs:List Value):∀ (o:Nat) (w:World) (xs:List Value),w.ownsRow base t 6 (.slice (some ⟨g,0,none⟩) n cap) n xs→o+vs.length≤n*6 →
  ∃ ys,(w.setCells g o vs).ownsRow base t 6 (.slice (some ⟨g,0,none⟩) n cap) n ys∧ys.take o=xs.take o∧w.grownBy (w.setCells g o vs) (some g):=by
 induction vs with
 | nil=>intro o w xs h _;exact ⟨xs,h,rfl,World.grownBy.refl _ _⟩
 | cons v r ih =>
  intro o w xs h hl;have hs:=h.stored o v
  obtain ⟨ys,h1,h2,h3⟩:=ih (o+1) _ _ hs.1 (by simp at hl;omega)
  refine ⟨ys,h1,?_,hs.2.trans h3⟩
  have e:ys.take o=(ys.take (o+1)).take o:=by rw [List.take_take,Nat.min_eq_left (Nat.le_succ o)]
  rw [e,h2,List.take_take,Nat.min_eq_left (Nat.le_succ o),List.take_set_of_le (Nat.le_refl o)]
theorem dD {w:World} {base n s:Nat} {t:TypeId} {g cap:Nat} {xs:List Value} (h:w.ownsRow base t 6 (.slice (some ⟨g,0,none⟩) n cap) n xs) (hs:s≤n):w.ownsRow base t 6 (.slice (some ⟨g,0,none⟩) s cap) s (xs.take (s*6)):=by
 obtain ⟨h1,h2⟩:=h
 rcases h2 with ⟨hv,_⟩ | ⟨g',cap',uV,hv,hg,hh,a1,a2,a3,a4⟩
 ·cases hv
 ·obtain ⟨rfl,rfl⟩:g=g'∧cap=cap':=by simpa using hv
  refine ⟨by rw [List.length_take,h1];omega,.inr ⟨g,cap,uV,rfl,hg,hh,by omega,a2,a3,?_⟩⟩
  rw [← a4,List.take_take,Nat.min_eq_left (by omega)]
theorem fP (n:Nat):∀ v ∈ (Builtin.zeroCells (Value.agg #[.string ⟨#[]⟩,.int .i64 0,.int .i64 0,.int .i64 0,.int .i64 0,.bool false]).cells n).toList,v.oneCell'=true:=by
 intro v hv
 simp only [Builtin.zeroCells,Array.toList_map,List.mem_map] at hv
 obtain ⟨j,_,rfl⟩:=hv
 have:j % 6=0∨j % 6=1∨j % 6=2∨j % 6=3∨j % 6=4∨j % 6=5:=by omega
 simp only [Value.cells]
 show Value.oneCell' ((#[Value.string ⟨#[]⟩,.int .i64 0,.int .i64 0,.int .i64 0,.int .i64 0,.bool false]:Array Value)[j % 6]!)=true
 rcases this with e | e | e | e | e | e <;> rw [e] <;> rfl
theorem Z1 {W:World} {base n s g:Nat} {xs:List Value} (ho:W.ownsRow base 107 6 (.slice (some ⟨g,0,none⟩) n n) n xs) (hs:s<n) :
  ∃ V ys,(∀ ty,(Builtin.clear_ #[132] ty #[.slice (some ⟨g,s*6,none⟩) (n - s) (n - s)]).run prog W=.ok (.tuple #[]) V)∧V.ownsRow base 107 6 (.slice (some ⟨g,0,none⟩) n n) n ys∧ys.take (s*6)=xs.take (s*6)∧W.grownBy V (some g):=by
 have hlen:(Builtin.zeroCells (Value.agg #[.string ⟨#[]⟩,.int .i64 0,.int .i64 0,.int .i64 0,.int .i64 0,.bool false]).cells (n - s)).toList.length=(n - s) * 6:=by simp [Builtin.zeroCells,Value.cells]
 obtain ⟨vs,hvs⟩:∃ vs,(Builtin.zeroCells (Value.agg #[.string ⟨#[]⟩,.int .i64 0,.int .i64 0,.int .i64 0,.int .i64 0,.bool false]).cells (n - s)).toList=vs:=⟨_,rfl⟩
 have hone:∀ v ∈ vs,v.oneCell'=true:=by rw [← hvs];exact fP _
 rw [hvs] at hlen;have hxl:=ho.1
 obtain ⟨ys,h1,h2,h3⟩:=Uo vs (s*6) W xs ho (by rw [hlen];omega)
 refine ⟨_,ys,fun ty=>?_,h1,h2,h3⟩
 have hst:=run_storeCells_cells (P:=prog) g (s*6) vs 0 W (fun j hj=>by rw [ho.cellAt _ (by omega)];simp;omega) (fun j hj=>ho.frozenAt _) hone
 simp only [Nat.add_zero] at hst
 obtain ⟨q,hq⟩:∃ q,n - s=q+1:=⟨n - s - 1,by omega⟩
 rw [hq] at hvs ⊢
 simp [Builtin.clear_,run_underlying underlying132,zeroValue107,hvs,hst]
theorem qG {w:World} {g:Nat} {a:Au} (h:Jo g a w):Ar w (some ⟨g,0,none⟩) [a] :=
 .inr ⟨g,0,rfl,h.lt,fun i hi=>by
  obtain rfl:i=0:=by simpa using hi
  exact ⟨h.c0,h.c1,h.c2,h.c3,h.c4,h.c5⟩⟩
theorem U5:prog.elem 132=107:=by simp [Program.elem,underlying132]
theorem Vd:prog.underlying 132=some (.slice (prog.elem 132)):=by rw [U5];exact underlying132
theorem bG (w:World):(sizeOf 107).run prog w=.ok 6 w:=by
 obtain ⟨i0,hi,hz0,hz1,hz2⟩:=info_parts cF
 simp [sizeOf,typeInfo,hi,hz1]
theorem X4 {g n s:Nat} (hs:s≤n) (W:World):(Instr.slice 132 (.slice (some ⟨g,0,none⟩) n n) (some (.int .i64 s)) none none).run prog W=.ok (.slice (some (if n=s then ⟨g,0,none⟩ else ⟨g,s*6,none⟩)) (n - s) (n - s)) W:=by
 rw [run_slice_l W _ _ _ _ Vd .i64 _ (by omega) (by omega),U5,bG]
 by_cases h:n=s
 ·simp [Result.andThen,sliced,h]
 ·simp [Result.andThen,sliced,h,Addr.add]
  intro h0;exact h0.symm
theorem aB {g n s:Nat} (hs:s≤n) (W:World):(Instr.slice 132 (.slice (some ⟨g,0,none⟩) n n) none (some (.int .i64 s)) none).run prog W=.ok (.slice (some ⟨g,0,none⟩) s n) W:=by
 rw [run_slice_h W _ _ _ _ Vd .i64 _ (by omega) (by omega),U5,bG]
 simp [Result.andThen,sliced,Addr.add]
structure Xs (f:Int) (az bs:List Au) (s k:Nat):Prop where
 len:bs.length=az.length
 le:s≤k
 front:bs.take s=(az.take k).filter (C7 f)
 rest:∀ j,k≤j→j<az.length→Ak bs j=Ak az j
theorem Xs.start (f:Int) (az:List Au):Xs f az az 0 0:=⟨rfl,nL,rfl,fun _ _ _=>rfl⟩
theorem Xs.skip {f:Int} {az bs:List Au} {s k:Nat} (h:Xs f az bs s k) (hk:k<az.length) (hq:C7 f (Ak az k)=false):Xs f az bs s (k+1) :=
 ⟨h.len,Nat.le_succ_of_le h.le,by rw [Jy f az k hk,hq,h.front];simp,fun j h1 h2=>h.rest j (by omega) h2⟩
theorem Xs.keep {f:Int} {az bs:List Au} {s k:Nat} (h:Xs f az bs s k) (hk:k<az.length) (hq:C7 f (Ak az k)=true):Xs f az (bs.set s (Ak az k)) (s+1) (k+1):=by
 have hl:=h.len;have hle:=h.le
 refine ⟨by rw [List.length_set];exact hl,by omega,?_,fun j h1 h2=>?_⟩
 ·rw [Jy f az k hk,hq,if_pos rfl,← h.front,List.take_succ_eq_append_getElem (by rw [List.length_set];omega),List.take_set_of_le (Nat.le_refl s),List.getElem_set_self]
 ·rw [Gw (by rw [List.length_set];omega),List.getElem_set_ne (by omega),← Gw (by omega)]
  exact h.rest j (by omega) h2
theorem aJ (g base:Nat) (az:List Au) (f:Int) (w:World) (ho:w.ownsRow base 107 6 (.slice (some ⟨g,0,none⟩) az.length az.length) az.length (Ah az)) (hn:az.length≤4194304) :
  Calls prog 247 #[.slice (some ⟨g,0,none⟩) az.length az.length,.int .i64 f] w fun e w'=>e=.returned (.slice (some ⟨g,0,none⟩) (az.filter (C7 f)).length az.length) ∧
   w'.ownsRow base 107 6 (.slice (some ⟨g,0,none⟩) (az.filter (C7 f)).length az.length) (az.filter (C7 f)).length (Ah (az.filter (C7 f)))∧w.grownBy w' (some g):=by
 have HO0:Hid _:=ho;clear ho
 go_enter func247,ntmps247
 go_wp2
 go_loopw [5,7,10] (fun s _ i wr=>∃ (k y:Nat) (bs:List Au),k≤az.length∧i=.int .i64 k∧s=.int .i64 y∧Xs f az bs y k∧wr.ownsRow base 107 6 (.slice (some ⟨g,0,none⟩) az.length az.length) az.length (Ah bs)∧w.grownBy wr (some g)) (fun _ _ i _=>az.length - (intOf i).toNat)
 case atStart=>exact ⟨0,0,az,Nat.zero_le _,rfl,rfl,Xs.start f az,HO0.o,World.grownBy.refl _ _⟩
 case round =>
  obtain ⟨k,y,bs,hk,rfl,rfl,hp,hor,hgr⟩:=hrel;have hyk:=hp.le;have HP:Hid (Xs f az bs y k):=hp;have HBL:Hid (bs.length=az.length):=hp.len;clear hp HO0
  by_cases hlt:k<az.length
  ·have hki:(k:Int)<(az.length:Int):=by omega
   have hat:=De bs k (by have:=HBL.o;omega)
   rw [HP.o.rest k nL hlt] at hat
   have x0:wr.cell? ⟨g,k*6,none⟩=some (.string ⟨(Ak az k).ref.toArray⟩):=by rw [hor.cellAt (k*6) (by omega)];exact hat.1
   have x1:wr.cell? ⟨g,k*6+1,none⟩=some (.int .i64 (Ak az k).iss):=by rw [hor.cellAt (k*6+1) (by omega)];exact hat.2.1
   have x2:wr.cell? ⟨g,k*6+2,none⟩=some (.int .i64 (Ak az k).cur):=by rw [hor.cellAt (k*6+2) (by omega)];exact hat.2.2.1
   have x3:wr.cell? ⟨g,k*6+3,none⟩=some (.int .i64 (Ak az k).am):=by rw [hor.cellAt (k*6+3) (by omega)];exact hat.2.2.2.1
   have x4:wr.cell? ⟨g,k*6+4,none⟩=some (.int .i64 (Ak az k).day):=by rw [hor.cellAt (k*6+4) (by omega)];exact hat.2.2.2.2.1
   have x5:wr.cell? ⟨g,k*6+5,none⟩=some (.bool (Ak az k).used):=by rw [hor.cellAt (k*6+5) (by omega)];exact hat.2.2.2.2.2
   have HK:Hid (C7 f (Ak az k)=(!(Ak az k).used && decide (f≤(Ak az k).day))):=rfl
   have HTK:Hid (C7 f (Ak az k)=true→Xs f az (bs.set y (Ak az k)) (y+1) (k+1)):=fun h=>HP.o.keep hlt h
   have HTS:Hid (C7 f (Ak az k)=false→Xs f az bs y (k+1)):=fun h=>HP.o.skip hlt h
   have HST:Hid _:=Hu bs (Ak az k) y (by have:=HBL.o;omega)
   obtain ⟨⟨r,i,c,m,d,u⟩,hf⟩:∃ a,Ak az k=a:=⟨_,rfl⟩;rw [hf] at x0 x1 x2 x3 x4 x5 HK HTK HTS HST
   simp only at x0 x1 x2 x3 x4 x5 HK HST
   have HO:Hid (wr.ownsRow base 107 6 (.slice (some ⟨g,0,none⟩) az.length az.length) az.length (Ah bs)):=hor;have HG:Hid (w.grownBy wr (some g)):=hgr;have hgl:g<wr.heap.size:=(hor.lt g rfl).2;clear hf hor hgr hat;go_upto_region 5 with fail
   clear x0 x1 x2 x3 x4 x5;obtain ⟨W,hW⟩:∃ W,wr.alloc (.cells #[.string ⟨r.toArray⟩,.int .i64 i,.int .i64 c,.int .i64 m,.int .i64 d,.bool u] 107)=W:=⟨_,rfl⟩;have bW:BW wr W:=hW ▸ bR.alloc nL _;have BX:Jo wr.heap.size ⟨r,i,c,m,d,u⟩ W:=hW ▸ Jo.new wr ⟨r,i,c,m,d,u⟩ _;rw [hW];clear hW;have oW:=Iw HO.o bW
   have gW:w.grownBy W (some g):=HG.o.trans ⟨bW.os,bW.tape,bW.output,bW.size,fun j hj _=>bW.block j hj⟩
   have HOW:Hid (W.ownsRow base 107 6 (.slice (some ⟨g,0,none⟩) az.length az.length) az.length (Ah bs)):=oW;have HGW:Hid (w.grownBy W (some g)):=gW;obtain ⟨q0,q1,q2,q3,q4,q5⟩:=BX
   simp only at q0 q1 q2 q3 q4 q5
   cases u
   ·by_cases hfd:f≤d
    ·have HY:Hid (Xs f az (bs.set y ⟨r,i,c,m,d,false⟩) (y+1) (k+1)):=HTK.o (by rw [HK.o,decide_eq_true hfd];rfl)
     have hat2:=De bs y (by have:=HBL.o;omega)
     have y0:W.cell? ⟨g,y*6,none⟩=some (.string ⟨(Ak bs y).ref.toArray⟩):=by rw [oW.cellAt (y*6) (by omega)];exact hat2.1
     have z0:W.frozen? ⟨g,y*6,none⟩=false:=oW.frozenAt _
     have y1:W.cell? ⟨g,y*6+1,none⟩=some (.int .i64 (Ak bs y).iss):=by rw [oW.cellAt (y*6+1) (by omega)];exact hat2.2.1
     have z1:W.frozen? ⟨g,y*6+1,none⟩=false:=oW.frozenAt _
     have y2:W.cell? ⟨g,y*6+2,none⟩=some (.int .i64 (Ak bs y).cur):=by rw [oW.cellAt (y*6+2) (by omega)];exact hat2.2.2.1
     have z2:W.frozen? ⟨g,y*6+2,none⟩=false:=oW.frozenAt _
     have y3:W.cell? ⟨g,y*6+3,none⟩=some (.int .i64 (Ak bs y).am):=by rw [oW.cellAt (y*6+3) (by omega)];exact hat2.2.2.2.1
     have z3:W.frozen? ⟨g,y*6+3,none⟩=false:=oW.frozenAt _
     have y4:W.cell? ⟨g,y*6+4,none⟩=some (.int .i64 (Ak bs y).day):=by rw [oW.cellAt (y*6+4) (by omega)];exact hat2.2.2.2.2.1
     have z4:W.frozen? ⟨g,y*6+4,none⟩=false:=oW.frozenAt _
     have y5:W.cell? ⟨g,y*6+5,none⟩=some (.bool (Ak bs y).used):=by rw [oW.cellAt (y*6+5) (by omega)];exact hat2.2.2.2.2.2
     have z5:W.frozen? ⟨g,y*6+5,none⟩=false:=oW.frozenAt _;obtain ⟨⟨r',i',c',m',d',u'⟩,hf'⟩:∃ a,Ak bs y=a:=⟨_,rfl⟩;rw [hf'] at y0 y1 y2 y3 y4 y5
     simp only at y0 y1 y2 y3 y4 y5
     have HR:Hid ((((((((W.setCell ⟨g,y*6,none⟩ (.string ⟨r.toArray⟩)).setCell ⟨g,y*6+1,none⟩ (.int .i64 i)).setCell ⟨g,y*6+2,none⟩ (.int .i64 c)).setCell ⟨g,y*6+3,none⟩ (.int .i64 m)).setCell ⟨g,y*6+4,none⟩ (.int .i64 d)).setCell ⟨g,y*6+5,none⟩ (.bool false))).ownsRow base 107 6 (.slice (some ⟨g,0,none⟩) az.length az.length) az.length (Ah (bs.set y ⟨r,i,c,m,d,false⟩))):=by
      have R:=(((((((oW.stored (y*6) (.string ⟨r.toArray⟩)).1.stored (y*6+1) (.int .i64 i)).1.stored (y*6+2) (.int .i64 c)).1.stored (y*6+3) (.int .i64 m)).1.stored (y*6+4) (.int .i64 d)).1.stored (y*6+5) (.bool false))).1;rw [HST.o] at R;exact R
     have HGR:Hid (w.grownBy (((((((W.setCell ⟨g,y*6,none⟩ (.string ⟨r.toArray⟩)).setCell ⟨g,y*6+1,none⟩ (.int .i64 i)).setCell ⟨g,y*6+2,none⟩ (.int .i64 c)).setCell ⟨g,y*6+3,none⟩ (.int .i64 m)).setCell ⟨g,y*6+4,none⟩ (.int .i64 d)).setCell ⟨g,y*6+5,none⟩ (.bool false))) (some g)):=gW.trans (((((((oW.stored (y*6) (.string ⟨r.toArray⟩)).2).trans ((oW.stored (y*6) (.string ⟨r.toArray⟩)).1.stored (y*6+1) (.int .i64 i)).2).trans (((oW.stored (y*6) (.string ⟨r.toArray⟩)).1.stored (y*6+1) (.int .i64 i)).1.stored (y*6+2) (.int .i64 c)).2).trans ((((oW.stored (y*6) (.string ⟨r.toArray⟩)).1.stored (y*6+1) (.int .i64 i)).1.stored (y*6+2) (.int .i64 c)).1.stored (y*6+3) (.int .i64 m)).2).trans (((((oW.stored (y*6) (.string ⟨r.toArray⟩)).1.stored (y*6+1) (.int .i64 i)).1.stored (y*6+2) (.int .i64 c)).1.stored (y*6+3) (.int .i64 m)).1.stored (y*6+4) (.int .i64 d)).2).trans ((((((oW.stored (y*6) (.string ⟨r.toArray⟩)).1.stored (y*6+1) (.int .i64 i)).1.stored (y*6+2) (.int .i64 c)).1.stored (y*6+3) (.int .i64 m)).1.stored (y*6+4) (.int .i64 d)).1.stored (y*6+5) (.bool false)).2)
     have hyl:(y:Int)<(az.length:Int):=by omega
     clear hf' hat2 oW gW bW HO HG HOW HGW HP HK HTK HTS HST HBL;go_wp2
     go_roundw
     case rel=>exact ⟨k+1,y+1,_,by omega,by go_num,by go_num,HY.o,HR.o,HGR.o⟩
     case measure=>simp [intOf];omega
    ·have HY:Hid (Xs f az bs y (k+1)):=HTS.o (by rw [HK.o,decide_eq_false hfd];rfl)
     clear oW gW bW HO HG HP HK HTK HTS HST HBL;go_wp2
     go_roundw
     case rel=>exact ⟨k+1,y,bs,by omega,by go_num,rfl,HY.o,HOW.o,HGW.o⟩
     case measure=>simp [intOf];omega
   ·have HY:Hid (Xs f az bs y (k+1)):=HTS.o (by rw [HK.o];rfl)
    clear oW gW bW HO HG HP HK HTK HTS HST HBL;go_wp2
    go_roundw
    case rel=>exact ⟨k+1,y,bs,by omega,by go_num,rfl,HY.o,HOW.o,HGW.o⟩
    case measure=>simp [intOf];omega
  ·have hke:k=az.length:=by omega
   subst hke
   have hfr:bs.take y=az.filter (C7 f):=by have:=HP.o.front;rwa [List.take_length] at this
   have hfl:(az.filter (C7 f)).length=y:=by rw [← hfr,List.length_take,HBL.o];omega
   have htk:(Ah bs).take (y*6)=Ah (az.filter (C7 f)):=by
    have e:Ah bs=Ah (bs.take y)++Ah (bs.drop y):=by rw [← F9,List.take_append_drop]
    rw [e,List.take_append_of_le_length (by rw [E2,List.length_take,HBL.o];omega),List.take_of_length_le (by rw [E2,List.length_take,HBL.o];omega),hfr]
   have HFL:Hid _:=hfl;have HTK:Hid _:=htk;have HO:Hid (wr.ownsRow base 107 6 (.slice (some ⟨g,0,none⟩) az.length az.length) az.length (Ah bs)):=hor;have HG:Hid (w.grownBy wr (some g)):=hgr;have hs1:=X4 (g:=g) (n:=az.length) (s:=y) hyk;have hs2:=aB (g:=g) (n:=az.length) (s:=y) hyk
   by_cases hye:az.length=y
   ·have HR:Hid (wr.ownsRow base 107 6 (.slice (some ⟨g,0,none⟩) y az.length) y (Ah (az.filter (C7 f)))):=by
      have:=dD HO.o hyk
      rwa [HTK.o] at this
    rw [hye,Nat.sub_self,if_pos rfl] at hs1;rw [hye] at hs2;have HYE:Hid _:=hye
    have hcl:∀ ty,(Builtin.clear_ #[132] ty #[.slice (some ⟨g,0,none⟩) 0 0]).run prog wr=.ok (.tuple #[]) wr:=fun ty=>by
     simp [Builtin.clear_,run_underlying underlying132]
    rw [hye] at HR hn ⊢;clear hor hgr hfr hfl htk HP HBL hye hyk hk hlt HO HTK;go_wp2;go_ret;rw [HFL.o,HYE.o];exact ⟨rfl,HR.o,HG.o⟩
   ·obtain ⟨V,ys,hcl,oV,htv,gV⟩:=Z1 HO.o (show y<az.length by omega)
    have HR:Hid (V.ownsRow base 107 6 (.slice (some ⟨g,0,none⟩) y az.length) y (Ah (az.filter (C7 f)))):=by
     have:=dD oV hyk
     rwa [htv,HTK.o] at this
    have HGV:Hid (w.grownBy V (some g)):=HG.o.trans gV;rw [if_neg hye] at hs1;clear hor hgr hfr hfl htk HP HBL HO HTK oV htv gV;go_wp2;go_ret;rw [HFL.o];exact ⟨rfl,HR.o,HGV.o⟩
theorem Z4 (ao:Option Addr) (cap:Nat) (az:List Au) (t:Int) (w:World) (hz:Ar w ao az) (hn:az.length≤4194304) (hd:∀ a ∈ az,a.ref.length≤1099511627776) :
  Calls prog 207 #[.slice ao az.length cap,.int .i64 t] w (pA w (E5 az t)):=by
 cases hq:Dn t
 ·have HL:Hid (E5 az t=[]):=by rw [Hid,E5,if_neg (by rw [hq];decide)]
  go_enter func207,ntmps207
  go_wp2_with fail
  refine (Bm t _).mono ?_;rintro e w1 ⟨rfl,hw⟩;subst hw;rw [hq];go_wp2;go_ret;rw [HL.o];exact ⟨none,0,rfl,World.ownsRow_nil _ _ _ _,bR⟩
 ·have htb:=Ei hq
  have HL:Hid (E5 az t=az.filter (C7 (t - 7))):=by rw [Hid,E5,if_pos hq]
  go_enter func207,ntmps207
  go_wp2_with fail
  refine (Bm t _).mono ?_;rintro e w1 ⟨rfl,hw⟩;subst hw;rw [hq];go_wp2_with fail
  refine (Dj _ _ _ _ hz hn hd).mono ?_;rintro e w2 ⟨rfl,o2,b2⟩;have HO:Hid _:=o2;have HB:Hid _:=b2;clear o2 b2 hz;go_wp2_with fail
  refine (aJ _ _ _ _ _ HO.o hn).mono ?_;rintro e w3 ⟨rfl,o3,g3⟩;have HO3:Hid _:=o3
  have HG3:Hid _:=HB.o.grown g3 HB.o.size (fun k hk=>by cases hk;exact nL)
  clear o3 g3 HO HB;go_wp2;go_ret;rw [HL.o];exact ⟨_,_,rfl,HO3.o,HG3.o⟩
theorem Zi (ao:Option Addr) (cap:Nat) (az:List Au) (t:Int) (w:World) (hz:Ar w ao az) (hn:az.length≤4194304) :
  Calls prog 178 #[.slice ao az.length cap,.int .i64 t] w (pA w (E5 az t)):=by
 have bA:Below w.heap.size w (w.alloc (.cells #[] 107)):=bR.alloc nL _;have oA:=kV w
 have HDY:Hid (∀ u,Calls prog 102 #[.int .i64 t] u fun e w'=>e=.returned (.bool (Dn t))∧w'=u):=fun u=>A9 t u
 cases hq:Dn t
 ·have HL:Hid (E5 az t=[]):=by rw [Hid,E5,if_neg (by rw [hq];decide)]
  rw [hq] at HDY;have HO:Hid _:=And.intro oA bA;clear oA bA
  by_cases h0:0<az.length
  ·have h0':(0:Int)<(az.length:Int):=by omega
   go_enter func178,ntmps178
   go_wp2;refine wp_loop_rounds 1 ?_;rw [rounds_succ];go_wp2_with fail
   refine (HDY.o _).mono ?_;rintro e w1 ⟨rfl,hw⟩;subst hw;go_wp2;go_ret;rw [HL.o];exact ⟨_,_,rfl,HO.o.1,HO.o.2⟩
  ·have h0':¬ (0:Int)<(az.length:Int):=by omega
   go_enter func178,ntmps178
   go_wp2;refine wp_loop_rounds 1 ?_;rw [rounds_succ];go_wp2;go_ret;rw [HL.o];exact ⟨_,_,rfl,HO.o.1,HO.o.2⟩
 ·have htb:=Ei hq
  have HL:Hid (E5 az t=az.filter (C7 (t - 7))):=by rw [Hid,E5,if_pos hq]
  rw [hq] at HDY
  rcases hz with rfl | ⟨b,off,rfl,hb,hcell⟩
  ·have HO:Hid _:=And.intro oA bA
   clear oA bA
   go_enter func178,ntmps178
   go_wp2;refine wp_loop_rounds 1 ?_;rw [rounds_succ];go_wp2;go_ret;rw [HL.o];exact ⟨_,_,rfl,HO.o.1,HO.o.2⟩
  have HC:Hid (∀ i,i<az.length→w.cell? ⟨b,off+i*6,none⟩=some (.string ⟨(Ak az i).ref.toArray⟩)∧w.cell? ⟨b,off+i*6+1,none⟩=some (.int .i64 (Ak az i).iss)∧w.cell? ⟨b,off+i*6+2,none⟩=some (.int .i64 (Ak az i).cur)∧w.cell? ⟨b,off+i*6+3,none⟩=some (.int .i64 (Ak az i).am)∧w.cell? ⟨b,off+i*6+4,none⟩=some (.int .i64 (Ak az i).day)∧w.cell? ⟨b,off+i*6+5,none⟩=some (.bool (Ak az i).used)):=hcell;clear hcell
  go_enter func178,ntmps178
  go_wp2
  go_loopw [5,6] (fun v i wr=>∃ (k:Nat) (ao:Option Addr) (c:Nat),k≤az.length∧i=.int .i64 k∧v=.slice ao ((az.take k).filter (C7 (t - 7))).length c∧wr.ownsRow w.heap.size 107 6 (.slice ao ((az.take k).filter (C7 (t - 7))).length c) ((az.take k).filter (C7 (t - 7))).length (Ah ((az.take k).filter (C7 (t - 7))))∧BW w wr) (fun _ i _=>az.length - (intOf i).toNat)
  case atStart=>exact ⟨0,_,_,Nat.zero_le _,rfl,rfl,oA,bA⟩
  case round =>
   obtain ⟨k,ao,cc,hk,rfl,rfl,hor,hbr⟩:=hrel;clear oA bA
   by_cases hlt:k<az.length
   ·have x0:wr.cell? ⟨b,off+k*6,none⟩=some (.string ⟨(Ak az k).ref.toArray⟩):=(hbr.cell (p:=⟨b,off+k*6,none⟩) hb).trans (HC.o k hlt).1
    have x1:wr.cell? ⟨b,off+k*6+1,none⟩=some (.int .i64 (Ak az k).iss):=(hbr.cell (p:=⟨b,off+k*6+1,none⟩) hb).trans (HC.o k hlt).2.1;have x2:wr.cell? ⟨b,off+k*6+2,none⟩=some (.int .i64 (Ak az k).cur):=(hbr.cell (p:=⟨b,off+k*6+2,none⟩) hb).trans (HC.o k hlt).2.2.1;have x3:wr.cell? ⟨b,off+k*6+3,none⟩=some (.int .i64 (Ak az k).am):=(hbr.cell (p:=⟨b,off+k*6+3,none⟩) hb).trans (HC.o k hlt).2.2.2.1;have x4:wr.cell? ⟨b,off+k*6+4,none⟩=some (.int .i64 (Ak az k).day):=(hbr.cell (p:=⟨b,off+k*6+4,none⟩) hb).trans (HC.o k hlt).2.2.2.2.1;have x5:wr.cell? ⟨b,off+k*6+5,none⟩=some (.bool (Ak az k).used):=(hbr.cell (p:=⟨b,off+k*6+5,none⟩) hb).trans (HC.o k hlt).2.2.2.2.2
    have hki:(k:Int)<(az.length:Int):=by omega
    have HTF:Hid _:=Jy (t - 7) az k hlt;have HK:Hid (C7 (t - 7) (Ak az k)=(!(Ak az k).used && decide (t - 7≤(Ak az k).day))):=rfl
    have hll:((az.take k).filter (C7 (t - 7))).length≤k:=Nat.le_trans (List.length_filter_le _ _) (by simp;omega)
    obtain ⟨B,hB⟩:∃ B,(az.take k).filter (C7 (t - 7))=B:=⟨_,rfl⟩;obtain ⟨⟨r,i,c,m,d,u⟩,hf⟩:∃ a,Ak az k=a:=⟨_,rfl⟩;rw [hf] at x0 x1 x2 x3 x4 x5 HK HTF;rw [hB] at hor hll HTF ⊢
    simp only at x0 x1 x2 x3 x4 x5 HK
    have HO:Hid (wr.ownsRow w.heap.size 107 6 (.slice ao B.length cc) B.length (Ah B)):=hor;have HB:Hid (BW w wr):=hbr;clear hB hf hor hbr;go_wp2_with fail
    refine (HDY.o _).mono ?_;rintro e w1 ⟨rfl,hw⟩;subst hw
    cases u
    ·by_cases hfd:t - 7≤d
     ·have HE:Hid ((az.take (k+1)).filter (C7 (t - 7))=B++[⟨r,i,c,m,d,false⟩]):=by rw [Hid,HTF.o,HK.o,decide_eq_true hfd];rfl
      have HON:Hid (Ar (w1.alloc (.cells #[.string ⟨r.toArray⟩,.int .i64 i,.int .i64 c,.int .i64 m,.int .i64 d,.bool false] 107)) (some ⟨w1.heap.size,0,none⟩) [⟨r,i,c,m,d,false⟩]):=qG (Jo.new w1 ⟨r,i,c,m,d,false⟩ _);have HOA:Hid ((w1.alloc (.cells #[.string ⟨r.toArray⟩,.int .i64 i,.int .i64 c,.int .i64 m,.int .i64 d,.bool false] 107)).ownsRow w.heap.size 107 6 (.slice ao B.length cc) B.length (Ah B)):=Iw HO.o (bR.alloc nL _);have hwz:w.heap.size≤w1.heap.size:=HB.o.size
      go_wp2_with (at_builtin;refine Bu _ rfl (.tmp 34) (.tmp 39) rfl w.heap.size (.slice ao B.length cc) B.length (Ah B) rfl HOA.o (some ⟨w1.heap.size,0,none⟩) 1 [⟨r,i,c,m,d,false⟩] rfl HON.o (by simp;omega) (by simp;omega) ?_;intro v2 w2 o2 g2 n2)
      obtain ⟨a2,c2,rfl⟩:=dI o2
      have HO2:Hid (w2.ownsRow w.heap.size 107 6 (.slice a2 (B++([⟨r,i,c,m,d,false⟩]:List Au)).length c2) (B++([⟨r,i,c,m,d,false⟩]:List Au)).length (Ah (B++[⟨r,i,c,m,d,false⟩]))):=by rw [Hid,List.length_append,F9];exact o2
      have HB2:Hid (BW w w2):=(HB.o.alloc HB.o.size _).grown g2 (by simp;omega) (fun j hj=>(HOA.o.lt j hj).1)
      clear o2 g2 n2 HOA HON HTF HK;go_wp2
      go_roundw
      case rel=>exact ⟨k+1,a2,c2,by omega,by go_num,by rw [HE.o,List.length_append],by rw [HE.o];exact HO2.o,HB2.o⟩
      case measure=>simp [intOf];omega
     ·have HE:Hid ((az.take (k+1)).filter (C7 (t - 7))=B):=by rw [Hid,HTF.o,HK.o,decide_eq_false hfd];simp
      clear HTF HK;go_wp2
      go_roundw
      case rel=>exact ⟨k+1,ao,cc,by omega,by go_num,by rw [HE.o],by rw [HE.o];exact HO.o,HB.o⟩
      case measure=>simp [intOf];omega
    ·have HE:Hid ((az.take (k+1)).filter (C7 (t - 7))=B):=by rw [Hid,HTF.o,HK.o];simp
     clear HTF HK;go_wp2
     go_roundw
     case rel=>exact ⟨k+1,ao,cc,by omega,by go_num,by rw [HE.o],by rw [HE.o];exact HO.o,HB.o⟩
     case measure=>simp [intOf];omega
   ·have hke:k=az.length:=by omega
    subst hke;rw [List.take_length] at hor ⊢;have HO:Hid _:=And.intro hor hbr;clear hor hbr;go_wp2;go_ret;rw [HL.o];exact ⟨_,_,rfl,HO.o.1,HO.o.2⟩
def useOk (az:List Au) (i:Int):Bool:=decide (0≤i∧i<az.length) && !(Ak az i.toNat).used
def Lz (a:Au):Au:=⟨a.ref,a.iss,a.cur,a.am,a.day,true⟩
def M7 (az:List Au) (i:Int):List Au:=if useOk az i=true then az.set i.toNat (Lz (Ak az i.toNat)) else az
theorem jC (az:List Au) (i:Int):(M7 az i).length=az.length:=by unfold M7;split <;> simp
theorem Np {az:List Au} {i:Int} (h:useOk az i=false):M7 az i=az:=by rw [M7,if_neg (by rw [h];decide)]
theorem jU (ao:Option Addr) (cap:Nat) (az:List Au) (i:Int) (w:World) (hz:Ar w ao az) (hn:az.length≤4194304) (hd:∀ a ∈ az,a.ref.length≤1099511627776) :
  Calls prog 212 #[.slice ao az.length cap,.int .i64 i] w (Pi w (M7 az i) (useOk az i)):=by
 by_cases h0:i<0
 ·have HQ:Hid (useOk az i=false):=by rw [Hid,useOk,decide_eq_false (by omega)];rfl
  go_enter func212,ntmps212
  go_wp2_with fail
  refine (Dj _ _ _ _ hz hn hd).mono ?_;rintro e w1 ⟨rfl,o1,b1⟩;have HO:Hid _:=And.intro o1 b1;clear o1 b1 hz;go_wp2;go_ret2;rw [HQ.o,Np HQ.o];exact ⟨_,_,rfl,HO.o.1,HO.o.2⟩
 by_cases h1:(az.length:Int)≤i
 ·have HQ:Hid (useOk az i=false):=by rw [Hid,useOk,decide_eq_false (by omega)];rfl
  go_enter func212,ntmps212
  go_wp2_with fail
  refine (Dj _ _ _ _ hz hn hd).mono ?_;rintro e w1 ⟨rfl,o1,b1⟩;have HO:Hid _:=And.intro o1 b1;clear o1 b1 hz;go_wp2;go_ret2;rw [HQ.o,Np HQ.o];exact ⟨_,_,rfl,HO.o.1,HO.o.2⟩
 obtain ⟨k,rfl⟩:=Int.eq_ofNat_of_zero_le (show 0≤i by omega)
 have hk:k<az.length:=by omega
 have hlt:(k:Int)<(az.length:Int):=by omega
 have HAT:Hid ((Ah az)[k*6+5]?=some (.bool (Ak az k).used)):=(De az k hk).2.2.2.2.2;have HST:Hid ((Ah az).set (k*6+5) (.bool true)=Ah (az.set k (Lz (Ak az k)))):=On az true k hk
 have HU:Hid (useOk az (k:Int) = !(Ak az k).used):=by rw [Hid,useOk,decide_eq_true (show 0≤(k:Int)∧(k:Int)<az.length by omega),Bool.true_and,Int.toNat_natCast]
 have HUL:Hid (useOk az (k:Int)=true→M7 az (k:Int)=az.set k (Lz (Ak az k))):=fun h=>by rw [M7,if_pos h,Int.toNat_natCast]
 obtain ⟨us,hus⟩:∃ us,(Ak az k).used=us:=⟨_,rfl⟩;rw [hus] at HAT HU;clear hus
 go_enter func212,ntmps212
 go_wp2_with fail
 refine (Dj _ _ _ _ hz hn hd).mono ?_;rintro e w1 ⟨rfl,o1,b1⟩
 have y5:w1.cell? ⟨w.heap.size,k*6+5,none⟩=some (.bool us):=by rw [o1.cellAt (k*6+5) (by omega)];exact HAT.o
 have z5:w1.frozen? ⟨w.heap.size,k*6+5,none⟩=false:=o1.frozenAt _;have HO:Hid _:=And.intro o1 b1;clear o1 b1 hz
 cases us
 ·have HQ:Hid (useOk az (k:Int)=true):=HU.o
  have HR:Hid ((w1.setCell ⟨w.heap.size,k*6+5,none⟩ (.bool true)).ownsRow w.heap.size 107 6 (.slice (some ⟨w.heap.size,0,none⟩) az.length az.length) az.length (Ah (az.set k (Lz (Ak az k))))):=by
   have R:=(HO.o.1.stored (k*6+5) (.bool true)).1;rw [HST.o] at R;exact R
  go_wp2;go_ret2;rw [HQ.o,HUL.o HQ.o]
  exact ⟨some ⟨w.heap.size,0,none⟩,az.length,by rw [List.length_set];rfl,by rw [List.length_set];exact HR.o,HO.o.2.setCell nL _⟩
 ·have HQ:Hid (useOk az (k:Int)=false):=HU.o
  go_wp2;go_ret2;rw [HQ.o,Np HQ.o];exact ⟨_,_,rfl,HO.o.1,HO.o.2⟩
theorem kZ (ao:Option Addr) (cap:Nat) (az:List Au) (i:Int) (w:World) (hz:Ar w ao az) (hn:az.length≤4194304) :
  Calls prog 183 #[.slice ao az.length cap,.int .i64 i] w (Pi w (M7 az i) (useOk az i)):=by
 have bA:Below w.heap.size w (w.alloc (.cells #[] 107)):=bR.alloc nL _;have HZ1:Hid (Ar (w.alloc (.cells #[] 107)) ao az):=hz.below bA;have HO1:=kV w
 have HIN:Hid (∀ u,Calls prog 134 #[.int .i64 i,.int .i64 0,.int .i64 ((az.length:Int) - 1)] u fun e w'=>e=.returned (.bool (decide (0≤i∧i<az.length)))∧w'=u):=fun u=>by
  have:=Dl i 0 ((az.length:Int) - 1) u
  rwa [show Gk i 0 ((az.length:Int) - 1)=decide (0≤i∧i<az.length) by unfold Gk;exact decide_eq_decide.2 (by omega)] at this
 by_cases hin:0≤i∧i<az.length
 ·obtain ⟨k,rfl⟩:=Int.eq_ofNat_of_zero_le hin.1
  have hk:k<az.length:=by omega
  have hlt:(k:Int)<(az.length:Int):=by omega
  rw [decide_eq_true hin] at HIN;have HAT:Hid ((Ah az)[k*6+5]?=some (.bool (Ak az k).used)):=(De az k hk).2.2.2.2.2;have HST:Hid ((Ah az).set (k*6+5) (.bool true)=Ah (az.set k (Lz (Ak az k)))):=On az true k hk
  have HU:Hid (useOk az (k:Int) = !(Ak az k).used):=by rw [Hid,useOk,decide_eq_true (show 0≤(k:Int)∧(k:Int)<az.length by omega),Bool.true_and,Int.toNat_natCast]
  have HUL:Hid (useOk az (k:Int)=true→M7 az (k:Int)=az.set k (Lz (Ak az k))):=fun h=>by rw [M7,if_pos h,Int.toNat_natCast]
  rcases hz with rfl | ⟨b,off,rfl,hb,hcell⟩
  ·simp at hk
  have HC5:Hid (w.cell? ⟨b,off+k*6+5,none⟩=some (.bool (Ak az k).used)):=(hcell k hk).2.2.2.2.2;obtain ⟨us,hus⟩:∃ us,(Ak az k).used=us:=⟨_,rfl⟩;rw [hus] at HAT HU HC5;clear hus hcell hin
  go_enter func183,ntmps183
  go_wp2_with (at_builtin;refine Bu _ rfl (.tmp 7) (.tmp 8) rfl w.heap.size (.slice (some ⟨w.heap.size,0,none⟩) 0 0) 0 [] rfl HO1 _ cap az rfl HZ1.o (by omega) (by simp) ?_;intro v2 w2 o2 g2 n2)
  obtain ⟨g,cc,rfl⟩:=Oe o2 (n2 (by simp))
  simp only [Nat.zero_add,List.nil_append] at o2 ⊢
  have b2:BW w w2:=bA.grown g2 (by simp) (fun j hj=>by cases hj;exact nL)
  have y5:w2.cell? ⟨g,k*6+5,none⟩=some (.bool us):=by rw [o2.cellAt (k*6+5) (by omega)];exact HAT.o
  have z5:w2.frozen? ⟨g,k*6+5,none⟩=false:=o2.frozenAt _;have x5:w2.cell? ⟨b,off+k*6+5,none⟩=some (.bool us):=(b2.cell (p:=⟨b,off+k*6+5,none⟩) hb).trans HC5.o;have HB:Hid (BW w w2):=b2;have HO:Hid (w2.ownsRow w.heap.size 107 6 (.slice (some ⟨g,0,none⟩) az.length cc) az.length (Ah az)):=o2;have hgw:=(o2.lt g rfl).1;clear o2 b2 g2 n2 HO1 bA;go_wp2_with fail
  refine (HIN.o _).mono ?_;rintro e w3 ⟨rfl,hw3⟩;subst hw3
  cases us
  ·have HQ:Hid (useOk az (k:Int)=true):=HU.o
   have HR:Hid ((w3.setCell ⟨g,k*6+5,none⟩ (.bool true)).ownsRow w.heap.size 107 6 (.slice (some ⟨g,0,none⟩) az.length cc) az.length (Ah (az.set k (Lz (Ak az k))))):=by
    have R:=(HO.o.stored (k*6+5) (.bool true)).1;rw [HST.o] at R;exact R
   go_wp2;go_ret2;rw [HQ.o,HUL.o HQ.o]
   exact ⟨some ⟨g,0,none⟩,cc,by rw [List.length_set];rfl,by rw [List.length_set];exact HR.o,HB.o.setCell hgw _⟩
  ·have HQ:Hid (useOk az (k:Int)=false):=HU.o
   go_wp2;go_ret2;rw [HQ.o,Np HQ.o];exact ⟨_,_,rfl,HO.o,HB.o⟩
 ·have HQ:Hid (useOk az i=false):=by rw [Hid,useOk,decide_eq_false hin];rfl
  rw [decide_eq_false hin] at HIN;clear hin
  go_enter func183,ntmps183
  go_wp2_with (at_builtin;refine Bu _ rfl (.tmp 7) (.tmp 8) rfl w.heap.size (.slice (some ⟨w.heap.size,0,none⟩) 0 0) 0 [] rfl HO1 ao cap az rfl HZ1.o (by omega) (by simp) ?_;intro v2 w2 o2 g2 n2)
  obtain ⟨g,cc,rfl⟩:=Oe o2 (n2 (by simp))
  simp only [Nat.zero_add,List.nil_append] at o2 ⊢
  have b2:BW w w2:=bA.grown g2 (by simp) (fun j hj=>by cases hj;exact nL)
  have HB:Hid (BW w w2):=b2;have HO:Hid (w2.ownsRow w.heap.size 107 6 (.slice (some ⟨g,0,none⟩) az.length cc) az.length (Ah az)):=o2;clear o2 b2 g2 n2 HO1 bA hz;go_wp2_with fail
  refine (HIN.o _).mono ?_;rintro e w3 ⟨rfl,hw3⟩;subst hw3;go_wp2;go_ret2;rw [HQ.o,Np HQ.o];exact ⟨_,_,rfl,HO.o,HB.o⟩
def Br:Cs:=⟨0,0,0,0,0,0,0,0,0,false,0,0⟩
def Jh (iY aZ uV am day:Int):Cs:=if Ao (Ci iY aZ uV am day)=true then Ci iY aZ uV am day else Br
def Ft (iY aZ uV am day:Int):List En:=if Ao (Ci iY aZ uV am day)=true then [(iY,aZ,uV,am)] else []
def Y4 (w:World) (c:Cs) (es:List En) (ok:Bool) (e:Ending) (w':World):Prop :=
 ∃ ao cap,e=.returned (.tuple #[cv c,.slice ao es.length cap,.bool ok])∧w'.ownsRow w.heap.size 269 4 (.slice ao es.length cap) es.length (Ba es)∧BW w w'
theorem Wa (w:World) (b:Nat) (hb:b≤w.heap.size):(w.alloc (.cells #[] 269)).ownsRow b 269 4 (.slice (some ⟨w.heap.size,0,none⟩) 0 0) 0 []:=by
 exact World.ownsRow_lit (size:=4) w #[] 0 hb (by decide) rfl
theorem Ux (w:World) (b:Nat) (x:En) (hb:b≤w.heap.size):(w.alloc (.cells #[.int .i64 x.1,.int .i64 x.2.1,.int .i64 x.2.2.1,.int .i64 x.2.2.2] 269)).ownsRow b 269 4 (.slice (some ⟨w.heap.size,0,none⟩) 1 1) 1 (Ba [x]):=by
 exact World.ownsRow_lit (size:=4) w #[.int .i64 x.1,.int .i64 x.2.1,.int .i64 x.2.2.1,.int .i64 x.2.2.2] 1 hb (by decide) rfl
theorem F3 {u:World} {h base n size:Nat} {t:TypeId} {v:Value} {xs:List Value} (c:Cs) (o:u.ownsRow base t size v n xs) (hne:∀ g,v.ownBlock=some g→g≠h):(Cz u h c).ownsRow base t size v n xs :=
 A5 (A5 (A5 (A5 (A5 (A5 (A5 (A5 (A5 (A5 (A5 (A5 o _ _ hne) _ _ hne) _ _ hne) _ _ hne) _ _ hne) _ _ hne) _ _ hne) _ _ hne) _ _ hne) _ _ hne) _ _ hne) _ _ hne
theorem Ku {w u:World} {c:Cs} {es:List En} {ok:Bool} {ao:Option Addr} {cap:Nat} (ho:u.ownsRow (w.heap.size+1) 269 4 (.slice ao es.length cap) es.length (Ba es)) (bel:BW w u) :
  Y4 w c es ok (.returned (.tuple #[cv c,.slice ao es.length cap,.bool ok])) (Cz u w.heap.size c) :=
 ⟨ao,cap,rfl,Bi (F3 c ho (fun g hg=>by have:=(ho.lt g hg).1;omega)) (by omega),Cp c bel nL⟩
theorem X3 (iY aZ uV am day:Int) (w:World) :
  Calls prog 181 #[.int .i64 iY,.int .i64 aZ,.int .i64 uV,.int .i64 am,.int .i64 day] w (Y4 w (Jh iY aZ uV am day) (Ft iY aZ uV am day) (Ao (Ci iY aZ uV am day))):=by
 have HC:Hid (∀ u,Calls prog 219 #[.agg #[.int .i64 iY,.int .i64 aZ,.int .i64 uV,.int .i64 am,.int .i64 0,.int .i64 0,.int .i64 0,.int .i64 0,.int .i64 0,.bool false,.int .i64 day,.int .i64 (-1)]] u fun e w'=>e=.returned (.bool (Ao (Ci iY aZ uV am day)))∧BW u w'):=fun u=>J6 (Ci iY aZ uV am day) u
 obtain ⟨W,hW⟩:∃ W,W=(w.alloc (.cells #[.int .i64 0,.int .i64 0,.int .i64 0,.int .i64 0,.int .i64 0,.int .i64 0,.int .i64 0,.int .i64 0,.int .i64 0,.bool false,.int .i64 0,.int .i64 0] 61)).alloc (.cells #[.int .i64 iY,.int .i64 aZ,.int .i64 uV,.int .i64 am,.int .i64 0,.int .i64 0,.int .i64 0,.int .i64 0,.int .i64 0,.bool false,.int .i64 day,.int .i64 (-1)] 61):=⟨_,rfl⟩;have HW:Hid _:=hW
 have HBW:Hid (BW w W):=by rw [Hid,hW];go_grown
 have HB1:Hid (CB w.heap.size 0 Br W):=by
  rw [Hid,hW];exact (CB.new w Br _).below (bR.alloc nL _)
 have HF1:Hid (FZ w.heap.size 0 W):=by
  rw [Hid,hW];exact (FZ.new w _ _).below (by simp) (bR.alloc nL _)
 have HB2:Hid (CB (w.heap.size+1) 0 (Ci iY aZ uV am day) W):=by
  have h:=CB.new (w.alloc (.cells #[.int .i64 0,.int .i64 0,.int .i64 0,.int .i64 0,.int .i64 0,.int .i64 0,.int .i64 0,.int .i64 0,.int .i64 0,.bool false,.int .i64 0,.int .i64 0] 61)) (Ci iY aZ uV am day) 61
  have e:(w.alloc (.cells #[.int .i64 0,.int .i64 0,.int .i64 0,.int .i64 0,.int .i64 0,.int .i64 0,.int .i64 0,.int .i64 0,.int .i64 0,.bool false,.int .i64 0,.int .i64 0] 61)).heap.size=w.heap.size+1:=by simp
  rw [e] at h
  rw [Hid,hW];exact h
 have HS:Hid (W.heap.size=w.heap.size+1+1):=by rw [Hid,hW];simp
 clear hW
 go_enter func181,ntmps181
 go_upto_region 2 with fail
 rw [← HW.o];clear HW;obtain ⟨f0,f1,f2,f3,f4,f5,f6,f7,f8,f9,f10,f11⟩:=HB2.o
 simp only [Nat.zero_add,Ci] at f0 f1 f2 f3 f4 f5 f6 f7 f8 f9 f10 f11
 go_wp2_with fail
 refine (HC.o _).mono ?_;rintro e w1 ⟨rfl,b1⟩;have HL:Hid (w.heap.size<W.heap.size):=HB1.o.lt;have HQ1:Hid (CB w.heap.size 0 Br w1):=HB1.o.below b1;have HQF:Hid (FZ w.heap.size 0 w1):=HF1.o.below HL.o b1;have HQ2:Hid (CB (w.heap.size+1) 0 (Ci iY aZ uV am day) w1):=HB2.o.below b1;have HBB:Hid (BW w w1):=next HBW.o b1
 have HSZ:Hid (w.heap.size+1+1≤w1.heap.size):=by rw [Hid,← HS.o];exact b1.size
 clear b1 f0 f1 f2 f3 f4 f5 f6 f7 f8 f9 f10 f11;obtain ⟨z0,z1,z2,z3,z4,z5,z6,z7,z8,z9,z10,z11⟩:=HQF.o
 simp only [Nat.zero_add] at z0 z1 z2 z3 z4 z5 z6 z7 z8 z9 z10 z11
 obtain ⟨f0,f1,f2,f3,f4,f5,f6,f7,f8,f9,f10,f11⟩:=HQ1.o
 simp only [Nat.zero_add,Br] at f0 f1 f2 f3 f4 f5 f6 f7 f8 f9 f10 f11
 cases hk:Ao (Ci iY aZ uV am day)
 ·have HV:Hid (Jh iY aZ uV am day=Br):=if_neg (by rw [hk];decide)
  have HE:Hid (Ft iY aZ uV am day=[]):=if_neg (by rw [hk];decide)
  have HK:Hid _:=hk;clear hk
  have HA:Hid (∀ o,CB w.heap.size 0 Br (w1.alloc o)):=fun o=>HQ1.o.below (bR.alloc nL _)
  have HAZ:Hid (∀ o,FZ w.heap.size 0 (w1.alloc o)):=fun o=>HQF.o.below HQ1.o.lt (bR.alloc nL _)
  have a0:∀ o,(w1.alloc o).cell? ⟨w.heap.size,0,none⟩=some (.int .i64 0):=fun o=>(HA.o o).f0
  have y0:∀ o,(w1.alloc o).frozen? ⟨w.heap.size,0,none⟩=false:=fun o=>(HAZ.o o).z0
  have a1:∀ o,(w1.alloc o).cell? ⟨w.heap.size,1,none⟩=some (.int .i64 0):=fun o=>(HA.o o).f1
  have y1:∀ o,(w1.alloc o).frozen? ⟨w.heap.size,1,none⟩=false:=fun o=>(HAZ.o o).z1
  have a2:∀ o,(w1.alloc o).cell? ⟨w.heap.size,2,none⟩=some (.int .i64 0):=fun o=>(HA.o o).f2
  have y2:∀ o,(w1.alloc o).frozen? ⟨w.heap.size,2,none⟩=false:=fun o=>(HAZ.o o).z2
  have a3:∀ o,(w1.alloc o).cell? ⟨w.heap.size,3,none⟩=some (.int .i64 0):=fun o=>(HA.o o).f3
  have y3:∀ o,(w1.alloc o).frozen? ⟨w.heap.size,3,none⟩=false:=fun o=>(HAZ.o o).z3
  have a4:∀ o,(w1.alloc o).cell? ⟨w.heap.size,4,none⟩=some (.int .i64 0):=fun o=>(HA.o o).f4
  have y4:∀ o,(w1.alloc o).frozen? ⟨w.heap.size,4,none⟩=false:=fun o=>(HAZ.o o).z4
  have a5:∀ o,(w1.alloc o).cell? ⟨w.heap.size,5,none⟩=some (.int .i64 0):=fun o=>(HA.o o).f5
  have y5:∀ o,(w1.alloc o).frozen? ⟨w.heap.size,5,none⟩=false:=fun o=>(HAZ.o o).z5
  have a6:∀ o,(w1.alloc o).cell? ⟨w.heap.size,6,none⟩=some (.int .i64 0):=fun o=>(HA.o o).f6
  have y6:∀ o,(w1.alloc o).frozen? ⟨w.heap.size,6,none⟩=false:=fun o=>(HAZ.o o).z6
  have a7:∀ o,(w1.alloc o).cell? ⟨w.heap.size,7,none⟩=some (.int .i64 0):=fun o=>(HA.o o).f7
  have y7:∀ o,(w1.alloc o).frozen? ⟨w.heap.size,7,none⟩=false:=fun o=>(HAZ.o o).z7
  have a8:∀ o,(w1.alloc o).cell? ⟨w.heap.size,8,none⟩=some (.int .i64 0):=fun o=>(HA.o o).f8
  have y8:∀ o,(w1.alloc o).frozen? ⟨w.heap.size,8,none⟩=false:=fun o=>(HAZ.o o).z8
  have a9:∀ o,(w1.alloc o).cell? ⟨w.heap.size,9,none⟩=some (.bool false):=fun o=>(HA.o o).f9
  have y9:∀ o,(w1.alloc o).frozen? ⟨w.heap.size,9,none⟩=false:=fun o=>(HAZ.o o).z9
  have a10:∀ o,(w1.alloc o).cell? ⟨w.heap.size,10,none⟩=some (.int .i64 0):=fun o=>(HA.o o).f10
  have y10:∀ o,(w1.alloc o).frozen? ⟨w.heap.size,10,none⟩=false:=fun o=>(HAZ.o o).z10
  have a11:∀ o,(w1.alloc o).cell? ⟨w.heap.size,11,none⟩=some (.int .i64 0):=fun o=>(HA.o o).f11
  have y11:∀ o,(w1.alloc o).frozen? ⟨w.heap.size,11,none⟩=false:=fun o=>(HAZ.o o).z11
  clear f0 f1 f2 f3 f4 f5 f6 f7 f8 f9 f10 f11 z0 z1 z2 z3 z4 z5 z6 z7 z8 z9 z10 z11;clear HC;go_wp2
  refine bodyPost_ret (by simp [results,results181,go_sem,a0,a1,a2,a3,a4,a5,a6,a7,a8,a9,a10,a11];try rfl) rfl ?_
  rw [HV.o,HE.o,HK.o]
  exact Ku (c:=Br) (es:=[]) (Wa w1 _ (by have:=HSZ.o;omega)) (HBB.o.alloc HBB.o.size _)
 ·have HV:Hid (Jh iY aZ uV am day=Ci iY aZ uV am day):=if_pos hk
  have HE:Hid (Ft iY aZ uV am day=[(iY,aZ,uV,am)]):=if_pos hk;have HK:Hid _:=hk;clear hk;obtain ⟨g0,g1,g2,g3,g4,g5,g6,g7,g8,g9,g10,g11⟩:=HQ2.o
  simp only [Nat.zero_add,Ci] at g0 g1 g2 g3 g4 g5 g6 g7 g8 g9 g10 g11
  have HA:Hid (∀ o,CB w.heap.size 0 Br (w1.alloc o)):=fun o=>HQ1.o.below (bR.alloc nL _)
  have HAZ:Hid (∀ o,FZ w.heap.size 0 (w1.alloc o)):=fun o=>HQF.o.below HQ1.o.lt (bR.alloc nL _)
  have a0:∀ o,(w1.alloc o).cell? ⟨w.heap.size,0,none⟩=some (.int .i64 0):=fun o=>(HA.o o).f0
  have y0:∀ o,(w1.alloc o).frozen? ⟨w.heap.size,0,none⟩=false:=fun o=>(HAZ.o o).z0
  have a1:∀ o,(w1.alloc o).cell? ⟨w.heap.size,1,none⟩=some (.int .i64 0):=fun o=>(HA.o o).f1
  have y1:∀ o,(w1.alloc o).frozen? ⟨w.heap.size,1,none⟩=false:=fun o=>(HAZ.o o).z1
  have a2:∀ o,(w1.alloc o).cell? ⟨w.heap.size,2,none⟩=some (.int .i64 0):=fun o=>(HA.o o).f2
  have y2:∀ o,(w1.alloc o).frozen? ⟨w.heap.size,2,none⟩=false:=fun o=>(HAZ.o o).z2
  have a3:∀ o,(w1.alloc o).cell? ⟨w.heap.size,3,none⟩=some (.int .i64 0):=fun o=>(HA.o o).f3
  have y3:∀ o,(w1.alloc o).frozen? ⟨w.heap.size,3,none⟩=false:=fun o=>(HAZ.o o).z3
  have a4:∀ o,(w1.alloc o).cell? ⟨w.heap.size,4,none⟩=some (.int .i64 0):=fun o=>(HA.o o).f4
  have y4:∀ o,(w1.alloc o).frozen? ⟨w.heap.size,4,none⟩=false:=fun o=>(HAZ.o o).z4
  have a5:∀ o,(w1.alloc o).cell? ⟨w.heap.size,5,none⟩=some (.int .i64 0):=fun o=>(HA.o o).f5
  have y5:∀ o,(w1.alloc o).frozen? ⟨w.heap.size,5,none⟩=false:=fun o=>(HAZ.o o).z5
  have a6:∀ o,(w1.alloc o).cell? ⟨w.heap.size,6,none⟩=some (.int .i64 0):=fun o=>(HA.o o).f6
  have y6:∀ o,(w1.alloc o).frozen? ⟨w.heap.size,6,none⟩=false:=fun o=>(HAZ.o o).z6
  have a7:∀ o,(w1.alloc o).cell? ⟨w.heap.size,7,none⟩=some (.int .i64 0):=fun o=>(HA.o o).f7
  have y7:∀ o,(w1.alloc o).frozen? ⟨w.heap.size,7,none⟩=false:=fun o=>(HAZ.o o).z7
  have a8:∀ o,(w1.alloc o).cell? ⟨w.heap.size,8,none⟩=some (.int .i64 0):=fun o=>(HA.o o).f8
  have y8:∀ o,(w1.alloc o).frozen? ⟨w.heap.size,8,none⟩=false:=fun o=>(HAZ.o o).z8
  have a9:∀ o,(w1.alloc o).cell? ⟨w.heap.size,9,none⟩=some (.bool false):=fun o=>(HA.o o).f9
  have y9:∀ o,(w1.alloc o).frozen? ⟨w.heap.size,9,none⟩=false:=fun o=>(HAZ.o o).z9
  have a10:∀ o,(w1.alloc o).cell? ⟨w.heap.size,10,none⟩=some (.int .i64 0):=fun o=>(HA.o o).f10
  have y10:∀ o,(w1.alloc o).frozen? ⟨w.heap.size,10,none⟩=false:=fun o=>(HAZ.o o).z10
  have a11:∀ o,(w1.alloc o).cell? ⟨w.heap.size,11,none⟩=some (.int .i64 0):=fun o=>(HA.o o).f11
  have y11:∀ o,(w1.alloc o).frozen? ⟨w.heap.size,11,none⟩=false:=fun o=>(HAZ.o o).z11
  clear f0 f1 f2 f3 f4 f5 f6 f7 f8 f9 f10 f11 z0 z1 z2 z3 z4 z5 z6 z7 z8 z9 z10 z11;clear HC;go_wp2
  refine bodyPost_ret (by simp [results,results181,go_sem,a0,a1,a2,a3,a4,a5,a6,a7,a8,a9,a10,a11];try rfl) rfl ?_
  rw [HV.o,HE.o,HK.o]
  exact Ku (c:=Ci iY aZ uV am day) (es:=[(iY,aZ,uV,am)]) (Ux w1 _ (iY,aZ,uV,am) (by have:=HSZ.o;omega)) (HBB.o.alloc HBB.o.size _)
theorem X2 (iY aZ uV am day:Int) (w:World) (hc:(Lit.int .i64 uV).wf=true) :
  Calls prog 210 #[.int .i64 iY,.int .i64 aZ,.int .i64 uV,.int .i64 am,.int .i64 day] w (Y4 w (Jh iY aZ uV am day) (Ft iY aZ uV am day) (Ao (Ci iY aZ uV am day))):=by
 have HC:Hid (∀ u,Calls prog 254 #[.agg #[.int .i64 iY,.int .i64 aZ,.int .i64 uV,.int .i64 am,.int .i64 0,.int .i64 0,.int .i64 0,.int .i64 0,.int .i64 0,.bool false,.int .i64 day,.int .i64 (-1)]] u fun e w'=>e=.returned (.bool (Ao (Ci iY aZ uV am day)))∧BW u w'):=fun u=>Jr (Ci iY aZ uV am day) u hc
 obtain ⟨W,hW⟩:∃ W,W=(w.alloc (.cells #[.int .i64 0,.int .i64 0,.int .i64 0,.int .i64 0,.int .i64 0,.int .i64 0,.int .i64 0,.int .i64 0,.int .i64 0,.bool false,.int .i64 0,.int .i64 0] 61)).alloc (.cells #[.int .i64 iY,.int .i64 aZ,.int .i64 uV,.int .i64 am,.int .i64 0,.int .i64 0,.int .i64 0,.int .i64 0,.int .i64 0,.bool false,.int .i64 day,.int .i64 (-1)] 61):=⟨_,rfl⟩;have HW:Hid _:=hW
 have HBW:Hid (BW w W):=by rw [Hid,hW];go_grown
 have HB1:Hid (CB w.heap.size 0 Br W):=by
  rw [Hid,hW];exact (CB.new w Br _).below (bR.alloc nL _)
 have HF1:Hid (FZ w.heap.size 0 W):=by
  rw [Hid,hW];exact (FZ.new w _ _).below (by simp) (bR.alloc nL _)
 have HB2:Hid (CB (w.heap.size+1) 0 (Ci iY aZ uV am day) W):=by
  have h:=CB.new (w.alloc (.cells #[.int .i64 0,.int .i64 0,.int .i64 0,.int .i64 0,.int .i64 0,.int .i64 0,.int .i64 0,.int .i64 0,.int .i64 0,.bool false,.int .i64 0,.int .i64 0] 61)) (Ci iY aZ uV am day) 61
  have e:(w.alloc (.cells #[.int .i64 0,.int .i64 0,.int .i64 0,.int .i64 0,.int .i64 0,.int .i64 0,.int .i64 0,.int .i64 0,.int .i64 0,.bool false,.int .i64 0,.int .i64 0] 61)).heap.size=w.heap.size+1:=by simp
  rw [e] at h
  rw [Hid,hW];exact h
 have HS:Hid (W.heap.size=w.heap.size+1+1):=by rw [Hid,hW];simp
 clear hW
 go_enter func210,ntmps210
 go_upto_region 2 with fail
 rw [← HW.o];clear HW;obtain ⟨f0,f1,f2,f3,f4,f5,f6,f7,f8,f9,f10,f11⟩:=HB2.o
 simp only [Nat.zero_add,Ci] at f0 f1 f2 f3 f4 f5 f6 f7 f8 f9 f10 f11
 go_wp2_with fail
 refine (HC.o _).mono ?_;rintro e w1 ⟨rfl,b1⟩;have HL:Hid (w.heap.size<W.heap.size):=HB1.o.lt;have HQ1:Hid (CB w.heap.size 0 Br w1):=HB1.o.below b1;have HQF:Hid (FZ w.heap.size 0 w1):=HF1.o.below HL.o b1;have HQ2:Hid (CB (w.heap.size+1) 0 (Ci iY aZ uV am day) w1):=HB2.o.below b1;have HBB:Hid (BW w w1):=next HBW.o b1
 have HSZ:Hid (w.heap.size+1+1≤w1.heap.size):=by rw [Hid,← HS.o];exact b1.size
 clear b1 f0 f1 f2 f3 f4 f5 f6 f7 f8 f9 f10 f11;obtain ⟨z0,z1,z2,z3,z4,z5,z6,z7,z8,z9,z10,z11⟩:=HQF.o
 simp only [Nat.zero_add] at z0 z1 z2 z3 z4 z5 z6 z7 z8 z9 z10 z11
 obtain ⟨f0,f1,f2,f3,f4,f5,f6,f7,f8,f9,f10,f11⟩:=HQ1.o
 simp only [Nat.zero_add,Br] at f0 f1 f2 f3 f4 f5 f6 f7 f8 f9 f10 f11
 cases hk:Ao (Ci iY aZ uV am day)
 ·have HV:Hid (Jh iY aZ uV am day=Br):=if_neg (by rw [hk];decide)
  have HE:Hid (Ft iY aZ uV am day=[]):=if_neg (by rw [hk];decide)
  have HK:Hid _:=hk;clear hk;clear HC;go_wp2
  refine bodyPost_ret (by simp [results,results210,go_sem,f0,f1,f2,f3,f4,f5,f6,f7,f8,f9,f10,f11];try rfl) rfl ?_
  rw [HV.o,HE.o,HK.o];exact Ku (c:=Br) (es:=[]) (World.ownsRow_nil _ _ _ _) HBB.o
 ·have HV:Hid (Jh iY aZ uV am day=Ci iY aZ uV am day):=if_pos hk
  have HE:Hid (Ft iY aZ uV am day=[(iY,aZ,uV,am)]):=if_pos hk;have HK:Hid _:=hk;clear hk;obtain ⟨g0,g1,g2,g3,g4,g5,g6,g7,g8,g9,g10,g11⟩:=HQ2.o
  simp only [Nat.zero_add,Ci] at g0 g1 g2 g3 g4 g5 g6 g7 g8 g9 g10 g11
  have HA:Hid (∀ o,CB w.heap.size 0 Br (w1.alloc o)):=fun o=>HQ1.o.below (bR.alloc nL _)
  have HAZ:Hid (∀ o,FZ w.heap.size 0 (w1.alloc o)):=fun o=>HQF.o.below HQ1.o.lt (bR.alloc nL _)
  have a0:∀ o,(w1.alloc o).cell? ⟨w.heap.size,0,none⟩=some (.int .i64 0):=fun o=>(HA.o o).f0
  have y0:∀ o,(w1.alloc o).frozen? ⟨w.heap.size,0,none⟩=false:=fun o=>(HAZ.o o).z0
  have a1:∀ o,(w1.alloc o).cell? ⟨w.heap.size,1,none⟩=some (.int .i64 0):=fun o=>(HA.o o).f1
  have y1:∀ o,(w1.alloc o).frozen? ⟨w.heap.size,1,none⟩=false:=fun o=>(HAZ.o o).z1
  have a2:∀ o,(w1.alloc o).cell? ⟨w.heap.size,2,none⟩=some (.int .i64 0):=fun o=>(HA.o o).f2
  have y2:∀ o,(w1.alloc o).frozen? ⟨w.heap.size,2,none⟩=false:=fun o=>(HAZ.o o).z2
  have a3:∀ o,(w1.alloc o).cell? ⟨w.heap.size,3,none⟩=some (.int .i64 0):=fun o=>(HA.o o).f3
  have y3:∀ o,(w1.alloc o).frozen? ⟨w.heap.size,3,none⟩=false:=fun o=>(HAZ.o o).z3
  have a4:∀ o,(w1.alloc o).cell? ⟨w.heap.size,4,none⟩=some (.int .i64 0):=fun o=>(HA.o o).f4
  have y4:∀ o,(w1.alloc o).frozen? ⟨w.heap.size,4,none⟩=false:=fun o=>(HAZ.o o).z4
  have a5:∀ o,(w1.alloc o).cell? ⟨w.heap.size,5,none⟩=some (.int .i64 0):=fun o=>(HA.o o).f5
  have y5:∀ o,(w1.alloc o).frozen? ⟨w.heap.size,5,none⟩=false:=fun o=>(HAZ.o o).z5
  have a6:∀ o,(w1.alloc o).cell? ⟨w.heap.size,6,none⟩=some (.int .i64 0):=fun o=>(HA.o o).f6
  have y6:∀ o,(w1.alloc o).frozen? ⟨w.heap.size,6,none⟩=false:=fun o=>(HAZ.o o).z6
  have a7:∀ o,(w1.alloc o).cell? ⟨w.heap.size,7,none⟩=some (.int .i64 0):=fun o=>(HA.o o).f7
  have y7:∀ o,(w1.alloc o).frozen? ⟨w.heap.size,7,none⟩=false:=fun o=>(HAZ.o o).z7
  have a8:∀ o,(w1.alloc o).cell? ⟨w.heap.size,8,none⟩=some (.int .i64 0):=fun o=>(HA.o o).f8
  have y8:∀ o,(w1.alloc o).frozen? ⟨w.heap.size,8,none⟩=false:=fun o=>(HAZ.o o).z8
  have a9:∀ o,(w1.alloc o).cell? ⟨w.heap.size,9,none⟩=some (.bool false):=fun o=>(HA.o o).f9
  have y9:∀ o,(w1.alloc o).frozen? ⟨w.heap.size,9,none⟩=false:=fun o=>(HAZ.o o).z9
  have a10:∀ o,(w1.alloc o).cell? ⟨w.heap.size,10,none⟩=some (.int .i64 0):=fun o=>(HA.o o).f10
  have y10:∀ o,(w1.alloc o).frozen? ⟨w.heap.size,10,none⟩=false:=fun o=>(HAZ.o o).z10
  have a11:∀ o,(w1.alloc o).cell? ⟨w.heap.size,11,none⟩=some (.int .i64 0):=fun o=>(HA.o o).f11
  have y11:∀ o,(w1.alloc o).frozen? ⟨w.heap.size,11,none⟩=false:=fun o=>(HAZ.o o).z11
  clear f0 f1 f2 f3 f4 f5 f6 f7 f8 f9 f10 f11 z0 z1 z2 z3 z4 z5 z6 z7 z8 z9 z10 z11;clear HC;go_wp2
  refine bodyPost_ret (by simp [results,results210,go_sem,a0,a1,a2,a3,a4,a5,a6,a7,a8,a9,a10,a11];try rfl) rfl ?_
  rw [HV.o,HE.o,HK.o]
  exact Ku (c:=Ci iY aZ uV am day) (es:=[(iY,aZ,uV,am)]) (Ux w1 _ (iY,aZ,uV,am) (by have:=HSZ.o;omega)) (HBB.o.alloc HBB.o.size _)
def kL (w:World) (es:List En) (e:Ending) (w':World):Prop :=
 ∃ ao cap,e=.returned (.slice ao es.length cap)∧w'.ownsRow w.heap.size 269 4 (.slice ao es.length cap) es.length (Ba es)∧BW w w'
def Gr (w:World) (c:Cs) (es:List En) (e:Ending) (w':World):Prop :=
 ∃ ao cap,e=.returned (.tuple #[cv c,.slice ao es.length cap])∧w'.ownsRow w.heap.size 269 4 (.slice ao es.length cap) es.length (Ba es)∧BW w w'
theorem Iq {w u:World} {c:Cs} {es:List En} {ao:Option Addr} {cap h base:Nat} (hh:w.heap.size≤h) (hb:h<base) (ho:u.ownsRow base 269 4 (.slice ao es.length cap) es.length (Ba es)) (bel:BW w u) :
  Gr w c es (.returned (.tuple #[cv c,.slice ao es.length cap])) (Cz u h c) :=
 ⟨ao,cap,rfl,Bi (F3 c ho (fun g hg=>by have:=(ho.lt g hg).1;omega)) (by omega),Cp c bel hh⟩
theorem Lf (w:World) (b g:Nat) (hg:g=w.heap.size) (hb:b≤w.heap.size):(w.alloc (.cells #[] 269)).ownsRow b 269 4 (.slice (some ⟨g,0,none⟩) 0 0) 0 []:=by subst hg;exact Wa w b hb
theorem Xa (w:World) (b g:Nat) (x:En) (hg:g=w.heap.size) (hb:b≤w.heap.size):(w.alloc (.cells #[.int .i64 x.1,.int .i64 x.2.1,.int .i64 x.2.2.1,.int .i64 x.2.2.2] 269)).ownsRow b 269 4 (.slice (some ⟨g,0,none⟩) 1 1) 1 (Ba [x]):=by subst hg;exact Ux w b x hb
theorem dA (c:Cs) (x:Int) (w:World):Calls prog 224 #[cv c,.int .i64 x,.bool true] w (kL w (Bg c x)):=by
 obtain ⟨iY,aZ,uV,am,st,rJ,cl,bk,fW,cW,sS,dX⟩:=c;unfold cv
 by_cases h0:x=0
 ·have HE:Hid (Bg ⟨iY,aZ,uV,am,st,rJ,cl,bk,fW,cW,sS,dX⟩ x=[]):=if_pos h0
  have h0':(x == 0)=true:=by simpa using h0
  clear h0
  go_enter func224,ntmps224
  go_wp2;go_ret;rw [HE.o]
  exact ⟨_,_,rfl,Lf _ _ _ (by simp) (by simp <;> omega),by go_grown⟩
 ·have HE:Hid (Bg ⟨iY,aZ,uV,am,st,rJ,cl,bk,fW,cW,sS,dX⟩ x=[(aZ,iY,uV,x)]):=if_neg h0
  have h0':=Ay h0;clear h0
  go_enter func224,ntmps224
  go_wp2;go_ret;rw [HE.o]
  exact ⟨_,_,rfl,Xa _ _ _ (aZ,iY,uV,x) (by simp) (by simp <;> omega),by go_grown⟩
theorem jZ (c:Cs) (x:Int) (w:World):Calls prog 224 #[cv c,.int .i64 x,.bool false] w (kL w (Dw c x)):=by
 obtain ⟨iY,aZ,uV,am,st,rJ,cl,bk,fW,cW,sS,dX⟩:=c;unfold cv;obtain ⟨W,hW⟩:∃ W,W=(w.alloc (.cells #[.int .i64 iY,.int .i64 aZ,.int .i64 uV,.int .i64 am,.int .i64 st,.int .i64 rJ,.int .i64 cl,.int .i64 bk,.int .i64 fW,.bool cW,.int .i64 sS,.int .i64 dX] 61)).alloc (.cells #[.int .i64 aZ,.int .i64 iY,.int .i64 uV,.int .i64 x] 269):=⟨_,rfl⟩;have HW:Hid _:=hW
 have HBW:Hid (BW w W):=by rw [Hid,hW];go_grown
 have HK:Hid (W.cell? ⟨w.heap.size+1,0,none⟩=some (.int .i64 aZ)∧W.cell? ⟨w.heap.size+1,1,none⟩=some (.int .i64 iY)∧W.cell? ⟨w.heap.size+1,2,none⟩=some (.int .i64 uV)∧W.cell? ⟨w.heap.size+1,3,none⟩=some (.int .i64 x)):=by
  rw [Hid,hW];exact ⟨by simp [go_sem],by simp [go_sem],by simp [go_sem],by simp [go_sem]⟩
 have HF:Hid (W.frozen? ⟨w.heap.size+1,0,none⟩=false∧W.frozen? ⟨w.heap.size+1,1,none⟩=false∧W.frozen? ⟨w.heap.size+1,2,none⟩=false∧W.frozen? ⟨w.heap.size+1,3,none⟩=false):=by
  rw [Hid,hW];exact ⟨by simp [go_sem],by simp [go_sem],by simp [go_sem],by simp [go_sem]⟩
 have HS:Hid (w.heap.size+1<W.heap.size):=by rw [Hid,hW];simp
 clear hW
 go_enter func224,ntmps224
 go_upto_region 2 with fail
 rw [← HW.o];clear HW;obtain ⟨k0,k1,k2,k3⟩:=HK.o;go_wp2_with fail
 refine (dT aZ iY uV x _).mono ?_;rintro e u ⟨rfl,b⟩;have HB:Hid (BW w u):=next HBW.o b;have HSU:Hid (w.heap.size+1<u.heap.size):=Nat.lt_of_lt_of_le HS.o b.size;have q0:=(b.cell (p:=⟨w.heap.size+1,0,none⟩) HS.o).trans k0;have q1:=(b.cell (p:=⟨w.heap.size+1,1,none⟩) HS.o).trans k1;have q2:=(b.cell (p:=⟨w.heap.size+1,2,none⟩) HS.o).trans k2;have q3:=(b.cell (p:=⟨w.heap.size+1,3,none⟩) HS.o).trans k3;have z0:=(b.frozen (p:=⟨w.heap.size+1,0,none⟩) HS.o).trans HF.o.1;have z1:=(b.frozen (p:=⟨w.heap.size+1,1,none⟩) HS.o).trans HF.o.2.1;have z2:=(b.frozen (p:=⟨w.heap.size+1,2,none⟩) HS.o).trans HF.o.2.2.1;have z3:=(b.frozen (p:=⟨w.heap.size+1,3,none⟩) HS.o).trans HF.o.2.2.2;clear b k0 k1 k2 k3
 have HX:Hid (Below w.heap.size w ((((u.setCell ⟨w.heap.size+1,0,none⟩ (.int .i64 iY)).setCell ⟨w.heap.size+1,1,none⟩ (.int .i64 aZ)).setCell ⟨w.heap.size+1,2,none⟩ (.int .i64 uV)).setCell ⟨w.heap.size+1,3,none⟩ (.int .i64 x))) :=
  (((HB.o.setCell (show w.heap.size≤w.heap.size+1 by omega) _).setCell (show w.heap.size≤w.heap.size+1 by omega) _).setCell (show w.heap.size≤w.heap.size+1 by omega) _).setCell (show w.heap.size≤w.heap.size+1 by omega) _
 by_cases h0:x=0
 ·have HE:Hid (Dw ⟨iY,aZ,uV,am,st,rJ,cl,bk,fW,cW,sS,dX⟩ x=[]):=if_pos h0
  have h0':(x == 0)=true:=by simpa using h0
  clear h0;go_wp2;go_ret;rw [HE.o]
  exact ⟨_,_,rfl,Lf _ _ _ (by simp) HX.o.size,HX.o.alloc HX.o.size _⟩
 ·have HE:Hid (Dw ⟨iY,aZ,uV,am,st,rJ,cl,bk,fW,cW,sS,dX⟩ x=[(iY,aZ,uV,x)]):=if_neg h0
  have h0':=Ay h0;clear h0;go_wp2;go_ret;rw [HE.o]
  exact ⟨_,_,rfl,Xa _ _ _ (iY,aZ,uV,x) (by simp) HX.o.size,HX.o.alloc HX.o.size _⟩
theorem M8 (c:Cs) (x:Int) (w:World) (hb:0≤c.bk∧c.bk≤1000000000000) (hx:0≤x∧x≤1000000000000):Calls prog 225 #[cv c,.int .i64 x] w (Gr w (I5 c x) (Bg c x)):=by
 have HT:Hid (∀ u,Calls prog 224 #[cv c,.int .i64 x,.bool true] u (kL u (Bg c x))):=fun u=>dA c x u
 obtain ⟨W,hW⟩:∃ W,W=(w.alloc (.cells #[.int .i64 c.iss,.int .i64 c.acq,.int .i64 c.cur,.int .i64 c.am,.int .i64 c.st,.int .i64 c.rsn,.int .i64 c.cl,.int .i64 c.bk,.int .i64 c.fee,.bool c.cop,.int .i64 c.sta,.int .i64 c.due] 61)).alloc (.cells #[.int .i64 0,.int .i64 0,.int .i64 0,.int .i64 0,.int .i64 0,.int .i64 0,.int .i64 0,.int .i64 0,.int .i64 0,.bool false,.int .i64 0,.int .i64 0] 61):=⟨_,rfl⟩
 have b1:Below (w.alloc (.cells #[.int .i64 c.iss,.int .i64 c.acq,.int .i64 c.cur,.int .i64 c.am,.int .i64 c.st,.int .i64 c.rsn,.int .i64 c.cl,.int .i64 c.bk,.int .i64 c.fee,.bool c.cop,.int .i64 c.sta,.int .i64 c.due] 61)).heap.size (w.alloc (.cells #[.int .i64 c.iss,.int .i64 c.acq,.int .i64 c.cur,.int .i64 c.am,.int .i64 c.st,.int .i64 c.rsn,.int .i64 c.cl,.int .i64 c.bk,.int .i64 c.fee,.bool c.cop,.int .i64 c.sta,.int .i64 c.due] 61)) W:=by rw [hW];exact bR.alloc nL _
 have e1:(w.alloc (.cells #[.int .i64 c.iss,.int .i64 c.acq,.int .i64 c.cur,.int .i64 c.am,.int .i64 c.st,.int .i64 c.rsn,.int .i64 c.cl,.int .i64 c.bk,.int .i64 c.fee,.bool c.cop,.int .i64 c.sta,.int .i64 c.due] 61)).heap.size=w.heap.size+1:=by simp
 have HC1:Hid (CB w.heap.size 0 c W):=(CB.new w c _).below b1
 have HF1:Hid (FZ w.heap.size 0 W):=(FZ.new w _ _).below (by simp) b1
 have HC2:Hid (CB (w.heap.size+1) 0 Br W):=by
  have h:=CB.new (w.alloc (.cells #[.int .i64 c.iss,.int .i64 c.acq,.int .i64 c.cur,.int .i64 c.am,.int .i64 c.st,.int .i64 c.rsn,.int .i64 c.cl,.int .i64 c.bk,.int .i64 c.fee,.bool c.cop,.int .i64 c.sta,.int .i64 c.due] 61)) Br 61;rw [e1] at h
  rw [Hid,hW];exact h
 have HF2:Hid (FZ (w.heap.size+1) 0 W):=by
  have h:=FZ.new (w.alloc (.cells #[.int .i64 c.iss,.int .i64 c.acq,.int .i64 c.cur,.int .i64 c.am,.int .i64 c.st,.int .i64 c.rsn,.int .i64 c.cl,.int .i64 c.bk,.int .i64 c.fee,.bool c.cop,.int .i64 c.sta,.int .i64 c.due] 61)) #[.int .i64 0,.int .i64 0,.int .i64 0,.int .i64 0,.int .i64 0,.int .i64 0,.int .i64 0,.int .i64 0,.int .i64 0,.bool false,.int .i64 0,.int .i64 0] 61;rw [e1] at h
  rw [Hid,hW];exact h
 have HBW:Hid (BW w W):=by rw [Hid,hW];go_grown
 have HW:Hid _:=hW
 have HS:Hid (W.heap.size=w.heap.size+1+1):=by rw [Hid,hW];simp
 clear b1 e1 hW;obtain ⟨iY,aZ,uV,am,st,rJ,cl,bk,fW,cW,sS,dX⟩:=c;unfold cv at HT ⊢
 simp only at HT HW hb ⊢
 go_enter func225,ntmps225
 go_upto_region 1 with fail
 rw [← HW.o];clear HW;obtain ⟨f0,f1,f2,f3,f4,f5,f6,f7,f8,f9,f10,f11⟩:=HC1.o
 simp only [Nat.zero_add] at f0 f1 f2 f3 f4 f5 f6 f7 f8 f9 f10 f11
 go_wp2_with fail
 refine (HT.o _).mono ?_;rintro e u ⟨ae,ke,rfl,oe,b⟩;have HO:Hid (u.ownsRow W.heap.size 269 4 (.slice ae (Bg ⟨iY,aZ,uV,am,st,rJ,cl,bk,fW,cW,sS,dX⟩ x).length ke) (Bg ⟨iY,aZ,uV,am,st,rJ,cl,bk,fW,cW,sS,dX⟩ x).length (Ba (Bg ⟨iY,aZ,uV,am,st,rJ,cl,bk,fW,cW,sS,dX⟩ x))):=oe;have HB:Hid (BW w u):=next HBW.o b;have HU1:Hid (CB w.heap.size 0 ⟨iY,aZ,uV,am,st,rJ,cl,bk,fW,cW,sS,dX⟩ u):=HC1.o.below b;have HV1:Hid (FZ w.heap.size 0 u):=HF1.o.below HC1.o.lt b;have HU2:Hid (CB (w.heap.size+1) 0 Br u):=HC2.o.below b;have HV2:Hid (FZ (w.heap.size+1) 0 u):=HF2.o.below HC2.o.lt b;clear b oe f0 f1 f2 f3 f4 f5 f6 f7 f8 f9 f10 f11;obtain ⟨f0,f1,f2,f3,f4,f5,f6,f7,f8,f9,f10,f11⟩:=HU1.o;obtain ⟨g0,g1,g2,g3,g4,g5,g6,g7,g8,g9,g10,g11⟩:=HU2.o;obtain ⟨y0,y1,y2,y3,y4,y5,y6,y7,y8,y9,y10,y11⟩:=HV1.o;obtain ⟨z0,z1,z2,z3,z4,z5,z6,z7,z8,z9,z10,z11⟩:=HV2.o
 simp only [Nat.zero_add,Br] at f0 f1 f2 f3 f4 f5 f6 f7 f8 f9 f10 f11 g0 g1 g2 g3 g4 g5 g6 g7 g8 g9 g10 g11 y0 y1 y2 y3 y4 y5 y6 y7 y8 y9 y10 y11 z0 z1 z2 z3 z4 z5 z6 z7 z8 z9 z10 z11
 clear y0 y1 y2 y3 y5 y8 y9 y10;obtain ⟨N,hN⟩:∃ N,(Bg ⟨iY,aZ,uV,am,st,rJ,cl,bk,fW,cW,sS,dX⟩ x).length=N:=⟨_,rfl⟩;have HNN:Hid _:=hN;rw [hN];clear hN;go_wp2
 refine bodyPost_ret (by simp [results,results225,go_sem,g0,g1,g2,g3,g4,g5,g6,g7,g8,g9,g10,g11];try rfl) rfl ?_
 rw [← HNN.o]
 refine Iq (c:=I5 ⟨iY,aZ,uV,am,st,rJ,cl,bk,fW,cW,sS,dX⟩ x) (h:=w.heap.size+1) (base:=W.heap.size) (by omega) (by have:=HS.o;omega) ?_ ?_
 ·have hne:∀ g,(Value.slice ae (Bg ⟨iY,aZ,uV,am,st,rJ,cl,bk,fW,cW,sS,dX⟩ x).length ke).ownBlock=some g→g≠w.heap.size:=fun g hg=>by have:=(HO.o.lt g hg).1;have:=HS.o;omega
  exact A5 (A5 (A5 (A5 HO.o _ _ hne) _ _ hne) _ _ hne) _ _ hne
 ·exact (((HB.o.setCell nL _).setCell nL _).setCell nL _).setCell nL _
theorem Kd:∃ i,prog.info? 269=some i∧i.zero=some (.agg #[.int .i64 0,.int .i64 0,.int .i64 0,.int .i64 0])∧i.size=4∧i.bytes=32:=by
 obtain ⟨i,h1,h2⟩:=Option.map_eq_some_iff.1 sI
 simp only [Prod.mk.injEq] at h2
 exact ⟨i,h1,h2.1,h2.2.1,h2.2.2⟩
theorem Q1 (x y z t:Int):∀ u ∈ [Value.int .i64 x,.int .i64 y,.int .i64 z,.int .i64 t],u.oneCell'=true:=by
 intro u hu
 simp at hu
 rcases hu with rfl | rfl | rfl | rfl <;> rfl
theorem Jg {P:Program} {ops:Array Oper} {o:Oper} {a:Act} {w:World} {K:Act→World→Prop} {Q:Exit→Act→World→Prop} {E:Prop}
  (hg:o.guard=none) (s x:Operand) (t:TypeId) (ho:o.op=Op.call { callee:=Callee.builtin Builtin.append,args:=#[s,x],argTypes:=#[t,t] })
  (base:Nat) (e:TypeId) (i:TypeInfo) (z:Value) (size bytes:Nat) (ht:P.underlying t=some (.slice e)) (hi:P.info? e=some i) (hz:i.zero=some z)
  (hsize:i.size=size) (hby:i.bytes=bytes) (hzs:z.cells.size=size) (hsz:0<size)
  (v:Value) (n:Nat) (xs:List Value) (hs:a.eval s=v) (hown:w.ownsRow base e size v n xs)
  (ad:Addr) (m c:Nat) (news:List Value) (hx:a.eval x=.slice (some ad) m c) (hl:news.length=m*size) (hnews:∀ j u,news[j]?=some u→w.cell? (ad.add j)=some u) (h1:∀ u ∈ news,u.oneCell'=true)
  (h63:n+m≤maxLen) (hbytes:(n+m) * bytes≤140737488355328) (hbase:base≤w.heap.size)
  (h:∀ v' w',w'.ownsRow base e size v' (n+m) (xs++news)→w.grownBy w' v.ownBlock→(v'=.slice none 0 0 ↔ v=.slice none 0 0∧m=0)→K (a.put o.dst v') w') :
  if Region.wanted o (yielded ops a.tmps)=true then Oper.wp P o a w K Q else E:=by
 rw [if_pos (by simp [Region.wanted,hg])]
 exact wp_append_own w s x t ho base e i z size bytes ht hi hz hsize hby hzs hsz v n xs hs hown ad m c news hx hl hnews h1 h63 hbytes hbase h
theorem Lt (a b:List En):Ba (a++b)=Ba a++Ba b:=by simp [Ba]
def H0 (c:Cs) (es:List En) (f g s:Int):List En:=if 0<s then es++[(f,g,c.cur,s)] else es
theorem Qy {c:Cs} {a:Ac} {t:Int} {zs:List Int} {p q l:Bool} (h1:(!Oy a.rsn || (E8 a.rsn && !E4 c t))=p) (h2:(decide (a.am<1) || (decide (c.am<a.am) || (decide (a.am<c.am) && !Gb a.rsn)))=q) (h3:Bv t (C6 c.sta (Fs a.rsn) zs)=l) :
  Bs c a t zs=if p=true then 3 else if q=true then 2 else if l=true then 4 else 0:=by
 unfold Bs;rw [h3]
 have e1:(Oy a.rsn=false∨(E8 a.rsn=true∧E4 c t=false)) ↔ p=true:=by rw [← h1];simp
 have e2:(¬ (1≤a.am∧a.am≤c.am)∨(a.am<c.am∧Gb a.rsn=false)) ↔ q=true:=by
  rw [← h2]
  cases Gb a.rsn
  ·simp;omega
  ·simp;omega
 simp only [e1,e2]
theorem Bn (u:World) (b i:Nat) (x:Value):Below b u (u.setCell ⟨b,i,none⟩ x):=Below.setCell (Below.refl b u) (show b≤b from Nat.le_refl b) x
def Dd (c:Cs) (a:Ac) (t:Int):Int:=if Bv t c.due=true then 4 else if 1≤a.am∧a.am≤c.cl then 0 else 2
theorem Sj {c:Cs} {a:Ac} {t:Int} (h:Dd c a t=0):1≤a.am∧a.am≤c.cl:=by
 unfold Dd at h
 split at h
 ·cases h
 ·split at h
  ·assumption
  ·cases h
theorem CB.under {s o B:Nat} {c:Cs} {u u':World} (h:CB s o c u) (b:Below B u u') (l:s<B):CB s o c u' :=
 ⟨(b.cell (p:=⟨s,o,none⟩) l).trans h.f0,(b.cell (p:=⟨s,o+1,none⟩) l).trans h.f1,(b.cell (p:=⟨s,o+2,none⟩) l).trans h.f2,(b.cell (p:=⟨s,o+3,none⟩) l).trans h.f3,(b.cell (p:=⟨s,o+4,none⟩) l).trans h.f4,(b.cell (p:=⟨s,o+5,none⟩) l).trans h.f5,(b.cell (p:=⟨s,o+6,none⟩) l).trans h.f6,(b.cell (p:=⟨s,o+7,none⟩) l).trans h.f7,(b.cell (p:=⟨s,o+8,none⟩) l).trans h.f8,(b.cell (p:=⟨s,o+9,none⟩) l).trans h.f9,(b.cell (p:=⟨s,o+10,none⟩) l).trans h.f10,(b.cell (p:=⟨s,o+11,none⟩) l).trans h.f11⟩
theorem FZ.under {s o B:Nat} {u u':World} (h:FZ s o u) (b:Below B u u') (l:s<B):FZ s o u' :=
 ⟨(b.frozen (p:=⟨s,o,none⟩) l).trans h.z0,(b.frozen (p:=⟨s,o+1,none⟩) l).trans h.z1,(b.frozen (p:=⟨s,o+2,none⟩) l).trans h.z2,(b.frozen (p:=⟨s,o+3,none⟩) l).trans h.z3,(b.frozen (p:=⟨s,o+4,none⟩) l).trans h.z4,(b.frozen (p:=⟨s,o+5,none⟩) l).trans h.z5,(b.frozen (p:=⟨s,o+6,none⟩) l).trans h.z6,(b.frozen (p:=⟨s,o+7,none⟩) l).trans h.z7,(b.frozen (p:=⟨s,o+8,none⟩) l).trans h.z8,(b.frozen (p:=⟨s,o+9,none⟩) l).trans h.z9,(b.frozen (p:=⟨s,o+10,none⟩) l).trans h.z10,(b.frozen (p:=⟨s,o+11,none⟩) l).trans h.z11⟩
structure BX (s:Nat) (c:Cs) (a:Ac) (u:World):Prop where
 cb:CB s 0 c u
 a0:u.cell? ⟨s+1,0,none⟩=some (.int .i64 a.kind)
 a1:u.cell? ⟨s+1,1,none⟩=some (.int .i64 a.am)
 a2:u.cell? ⟨s+1,2,none⟩=some (.int .i64 a.rsn)
 rb:CB (s+1+1) 0 Br u
 rz:FZ (s+1+1) 0 u
theorem BX.under {s B:Nat} {c:Cs} {a:Ac} {u u':World} (h:BX s c a u) (b:Below B u u') (l:s+1+1<B):BX s c a u' :=
 ⟨h.cb.under b (by omega),(b.cell (p:=⟨s+1,0,none⟩) (by show s+1<B;omega)).trans h.a0,(b.cell (p:=⟨s+1,1,none⟩) (by show s+1<B;omega)).trans h.a1,(b.cell (p:=⟨s+1,2,none⟩) (by show s+1<B;omega)).trans h.a2,h.rb.under b l,h.rz.under b l⟩
theorem BX.below {s:Nat} {c:Cs} {a:Ac} {u u':World} (h:BX s c a u) (b:BW u u'):BX s c a u':=h.under b h.rb.lt
theorem BX.new (w:World) (c:Cs) (a:Ac) (t1 t2 t3:TypeId):BX w.heap.size c a (((w.alloc (.cells #[.int .i64 c.iss,.int .i64 c.acq,.int .i64 c.cur,.int .i64 c.am,.int .i64 c.st,.int .i64 c.rsn,.int .i64 c.cl,.int .i64 c.bk,.int .i64 c.fee,.bool c.cop,.int .i64 c.sta,.int .i64 c.due] t1)).alloc (.cells #[.int .i64 a.kind,.int .i64 a.am,.int .i64 a.rsn] t2)).alloc (.cells #[.int .i64 0,.int .i64 0,.int .i64 0,.int .i64 0,.int .i64 0,.int .i64 0,.int .i64 0,.int .i64 0,.int .i64 0,.bool false,.int .i64 0,.int .i64 0] t3)):=by
 have h1:=CB.new w c t1
 have b1:∀ (u:World) (o:Obj),Below u.heap.size u (u.alloc o):=fun u o=>bR.alloc nL _
 have e2:((w.alloc (.cells #[.int .i64 c.iss,.int .i64 c.acq,.int .i64 c.cur,.int .i64 c.am,.int .i64 c.st,.int .i64 c.rsn,.int .i64 c.cl,.int .i64 c.bk,.int .i64 c.fee,.bool c.cop,.int .i64 c.sta,.int .i64 c.due] t1)).alloc (.cells #[.int .i64 a.kind,.int .i64 a.am,.int .i64 a.rsn] t2)).heap.size=w.heap.size+1+1:=by simp
 refine ⟨(h1.below (b1 _ _)).below (b1 _ _),by simp [go_sem],by simp [go_sem],by simp [go_sem],?_,?_⟩
 ·have h3:=CB.new ((w.alloc (.cells #[.int .i64 c.iss,.int .i64 c.acq,.int .i64 c.cur,.int .i64 c.am,.int .i64 c.st,.int .i64 c.rsn,.int .i64 c.cl,.int .i64 c.bk,.int .i64 c.fee,.bool c.cop,.int .i64 c.sta,.int .i64 c.due] t1)).alloc (.cells #[.int .i64 a.kind,.int .i64 a.am,.int .i64 a.rsn] t2)) Br t3
  rw [e2] at h3;exact h3
 ·have h3:=FZ.new ((w.alloc (.cells #[.int .i64 c.iss,.int .i64 c.acq,.int .i64 c.cur,.int .i64 c.am,.int .i64 c.st,.int .i64 c.rsn,.int .i64 c.cl,.int .i64 c.bk,.int .i64 c.fee,.bool c.cop,.int .i64 c.sta,.int .i64 c.due] t1)).alloc (.cells #[.int .i64 a.kind,.int .i64 a.am,.int .i64 a.rsn] t2)) #[.int .i64 0,.int .i64 0,.int .i64 0,.int .i64 0,.int .i64 0,.int .i64 0,.int .i64 0,.int .i64 0,.int .i64 0,.bool false,.int .i64 0,.int .i64 0] t3
  rw [e2] at h3;exact h3
theorem dU (c:Cs) (a:Ac) (t:Int) (zs:List Int):(Bx c a t zs).cur=c.cur:=by
 unfold Bx
 repeat' split
 all_goals first | rfl | (unfold Cx;repeat' split) 
 all_goals rfl
def pM (w:World) (c:Cs) (es:List En) (r:Int) (e:Ending) (w':World):Prop :=
 ∃ ao cap,e=.returned (.tuple #[cv c,.slice ao es.length cap,.int .i64 r])∧w'.ownsRow w.heap.size 269 4 (.slice ao es.length cap) es.length (Ba es)∧BW w w'
theorem Ek {w u:World} {c:Cs} {es:List En} {r:Int} {ao:Option Addr} {cap base:Nat} (hb:w.heap.size+1+1<base) (ho:u.ownsRow base 269 4 (.slice ao es.length cap) es.length (Ba es)) (bel:BW w u) :
  pM w c es r (.returned (.tuple #[cv c,.slice ao es.length cap,.int .i64 r])) (Cz u (w.heap.size+1+1) c) :=
 ⟨ao,cap,rfl,Bi (F3 c ho (fun g hg=>by have:=(ho.lt g hg).1;omega)) (by omega),Cp c bel (by omega)⟩
theorem tQ {w u:World} {c:Cs} {es:List En} {r:Int} {e:Ending} (h:pM w c es r e u):pM w c es r e u.drew:=by
 obtain ⟨ao,cap,he,ho,hb⟩:=h;exact ⟨ao,cap,he,Av ho (bR.drew),hb.drew⟩
theorem oU (st k:Int) (w:World):Calls prog 167 #[.int .i64 st,.int .i64 k] w fun e w'=>e=.returned (.bool (Dx st k))∧w'=w:=by
 by_cases hk:k<0∨9<k
 ·have HE:Hid (Dx st k=false):=by
    cases e:Dx st k
    ·rfl
    ·have:=Jt e;omega
  have g0:(k == 0)=false:=Ay (by omega)
  have g1:(k == 1)=false:=Ay (by omega)
  have g2:(k == 2)=false:=Ay (by omega)
  have g3:(k == 3)=false:=Ay (by omega)
  have g4:(k == 4)=false:=Ay (by omega)
  have g5:(k == 5)=false:=Ay (by omega)
  have g6:(k == 6)=false:=Ay (by omega)
  have g7:(k == 7)=false:=Ay (by omega)
  have g8:(k == 8)=false:=Ay (by omega)
  have g9:(k == 9)=false:=Ay (by omega)
  clear hk
  go_enter func167,ntmps167
  go_wp2;go_ret;exact ⟨Aa HE.o.symm,rfl⟩
 ·rcases (show k=0∨k=1∨k=2∨k=3∨k=4∨k=5∨k=6∨k=7∨k=8∨k=9 by omega) with rfl | rfl | rfl | rfl | rfl | rfl | rfl | rfl | rfl | rfl
  ·have HE:Hid (Dx st 0=(st == 0)):=by
     by_cases h:st=0 <;> simp [Hid,Dx,h]
   clear hk
   go_enter func167,ntmps167
   go_wp2;go_ret;exact ⟨Aa HE.o.symm,rfl⟩
  ·have HE:Hid (Dx st 1=(st == 1)):=by
     by_cases h:st=1 <;> simp [Hid,Dx,h]
   clear hk
   go_enter func167,ntmps167
   go_wp2;go_ret;exact ⟨Aa HE.o.symm,rfl⟩
  ·clear hk
   go_enter func167,ntmps167
   go_wp2_with (go_at_call 134;refine (Dl _ _ _ _).mono ?_;rintro e w' ⟨rfl,rfl⟩)
   go_ret;exact ⟨rfl,rfl⟩
  ·have HE:Hid (Dx st 3=(st == 3)):=by
     by_cases h:st=3 <;> simp [Hid,Dx,h]
   clear hk
   go_enter func167,ntmps167
   go_wp2;go_ret;exact ⟨Aa HE.o.symm,rfl⟩
  ·have HE:Hid (Dx st 4=(st == 4)):=by
     by_cases h:st=4 <;> simp [Hid,Dx,h]
   clear hk
   go_enter func167,ntmps167
   go_wp2;go_ret;exact ⟨Aa HE.o.symm,rfl⟩
  ·have HE:Hid (Dx st 5=(st == 5)):=by
     by_cases h:st=5 <;> simp [Hid,Dx,h]
   clear hk
   go_enter func167,ntmps167
   go_wp2;go_ret;exact ⟨Aa HE.o.symm,rfl⟩
  ·have HE:Hid (Dx st 6=(st == 5)):=by
     by_cases h:st=5 <;> simp [Hid,Dx,h]
   clear hk
   go_enter func167,ntmps167
   go_wp2;go_ret;exact ⟨Aa HE.o.symm,rfl⟩
  ·have HE:Hid (Dx st 7=(st == 6)):=by
     by_cases h:st=6 <;> simp [Hid,Dx,h]
   clear hk
   go_enter func167,ntmps167
   go_wp2;go_ret;exact ⟨Aa HE.o.symm,rfl⟩
  ·by_cases h1:st=1
   ·have HE:Hid (Dx st 8=true):=by simp [Hid,Dx,h1]
    have h1':(st == 1)=true:=by simpa using h1
    clear hk h1
    go_enter func167,ntmps167
    go_wp2;go_ret;exact ⟨Aa HE.o.symm,rfl⟩
   ·have HE:Hid (Dx st 8=Gk st 3 6):=by simp [Hid,Dx,h1,Gk]
    have h1':=Ay h1;clear hk h1
    go_enter func167,ntmps167
    go_wp2_with (go_at_call 134;refine (Dl _ _ _ _).mono ?_;rintro e w' ⟨rfl,rfl⟩)
    go_ret;exact ⟨Aa HE.o.symm,rfl⟩
  ·by_cases h1:st=0
   ·have HE:Hid (Dx st 9=true):=by simp [Hid,Dx,h1]
    have h1':(st == 0)=true:=by simpa using h1
    clear hk h1
    go_enter func167,ntmps167
    go_wp2;go_ret;exact ⟨Aa HE.o.symm,rfl⟩
   ·have HE:Hid (Dx st 9=(st == 2)):=by
      by_cases h:st=2 <;> simp [Hid,Dx,h1,h]
    have h1':=Ay h1;clear hk h1
    go_enter func167,ntmps167
    go_wp2;go_ret;exact ⟨Aa HE.o.symm,rfl⟩
structure B2 (s:Nat) (c:Cs) (a:Ac) (u:World):Prop where
 cb:CB s 0 c u
 a0:u.cell? ⟨s+1,0,none⟩=some (.int .i64 a.kind)
 a1:u.cell? ⟨s+1,1,none⟩=some (.int .i64 a.am)
 a2:u.cell? ⟨s+1,2,none⟩=some (.int .i64 a.rsn)
theorem B2.below {s:Nat} {c:Cs} {a:Ac} {u u':World} (h:B2 s c a u) (b:BW u u'):B2 s c a u':=by
 have l:s+1<u.heap.size:=World.block_lt_of_cell? u _ h.a0;exact ⟨h.cb.below b,(b.cell (p:=⟨s+1,0,none⟩) l).trans h.a0,(b.cell (p:=⟨s+1,1,none⟩) l).trans h.a1,(b.cell (p:=⟨s+1,2,none⟩) l).trans h.a2⟩
theorem B2.new (w:World) (c:Cs) (a:Ac) (t1 t2:TypeId):B2 w.heap.size c a ((w.alloc (.cells #[.int .i64 c.iss,.int .i64 c.acq,.int .i64 c.cur,.int .i64 c.am,.int .i64 c.st,.int .i64 c.rsn,.int .i64 c.cl,.int .i64 c.bk,.int .i64 c.fee,.bool c.cop,.int .i64 c.sta,.int .i64 c.due] t1)).alloc (.cells #[.int .i64 a.kind,.int .i64 a.am,.int .i64 a.rsn] t2)) :=
 ⟨(CB.new w c t1).below (bR.alloc nL _),by simp [go_sem],by simp [go_sem],by simp [go_sem]⟩
theorem Xk (c:Cs) (a:Ac) (t:Int) (ao:Option Addr) (cp:Nat) (zs:List Int) (w:World) (hx:Aw w ao zs) (hn:zs.length≤1099511627776) :
  Calls prog 263 #[cv c,av a,.int .i64 t,.slice ao zs.length cp] w fun e w'=>e=.returned (.int .i64 (Bs c a t zs))∧BW w w':=by
 obtain ⟨W,hW⟩:∃ W,W=(w.alloc (.cells #[.int .i64 c.iss,.int .i64 c.acq,.int .i64 c.cur,.int .i64 c.am,.int .i64 c.st,.int .i64 c.rsn,.int .i64 c.cl,.int .i64 c.bk,.int .i64 c.fee,.bool c.cop,.int .i64 c.sta,.int .i64 c.due] 61)).alloc (.cells #[.int .i64 a.kind,.int .i64 a.am,.int .i64 a.rsn] 165):=⟨_,rfl⟩
 have HX:Hid (B2 w.heap.size c a W):=by rw [Hid,hW];exact B2.new w c a _ _
 have HBW:Hid (BW w W):=by rw [Hid,hW];go_grown
 have HW:Hid _:=hW;have HI:Hid (Aw W ao zs):=hx.below HBW.o
 obtain ⟨p,hp⟩:∃ p,(!Oy a.rsn || (E8 a.rsn && !E4 c t))=p:=⟨_,rfl⟩
 obtain ⟨q,hq⟩:∃ q,(decide (a.am<1) || (decide (c.am<a.am) || (decide (a.am<c.am) && !Gb a.rsn)))=q:=⟨_,rfl⟩
 obtain ⟨l,hl⟩:∃ l,Bv t (C6 c.sta (Fs a.rsn) zs)=l:=⟨_,rfl⟩;have HV:Hid _:=Qy hp hq hl;have HPP:Hid _:=hp;have HQQ:Hid _:=hq;have HLL:Hid _:=hl
 have hcop:E4 c t=(c.cop || (decide (c.st=1) && Bv t c.due)):=rfl
 obtain ⟨cc,hcc⟩:∃ cc,E4 c t=cc:=⟨_,rfl⟩
 have HCC:Hid (cc=(c.cop || (decide (c.st=1) && Bv t c.due))):=by rw [Hid,← hcc,hcop]
 rw [hcc] at HPP;clear hp hq hl hx hW hcop hcc;obtain ⟨k,m,r⟩:=a;obtain ⟨iY,aZ,uV,am,st,rJ,cl,bk,fW,cW,sS,dX⟩:=c;unfold cv av
 simp only at HW HPP HQQ HLL HCC ⊢
 have HDU:Hid (∀ u,BW W u→Calls prog 222 #[.int .i64 sS,.int .i64 (Fs r),.slice ao zs.length cp] u fun e w'=>e=.returned (.int .i64 (C6 sS (Fs r) zs))∧BW u w'):=fun u hu=>Ir sS (Fs r) ao cp zs u (HI.o.below hu) hn
 go_enter func263,ntmps263
 go_upto_region 1 with fail
 rw [← HW.o];clear HW;obtain ⟨⟨f0,f1,f2,f3,f4,f5,f6,f7,f8,f9,f10,f11⟩,k0,k1,k2⟩:=HX.o
 simp only [Nat.zero_add] at f0 f1 f2 f3 f4 f5 f6 f7 f8 f9 f10 f11 k0 k1 k2
 clear f0 f1 f2 f5 f6 f7 f8
 go_cut [9] (fun v wc=>v=.bool cc∧wc=W)
 case first =>
  cases cW
  ·by_cases h1:st=1
   ·have HE:Hid (cc=Bv t dX):=by rw [Hid,HCC.o,decide_eq_true h1,Bool.false_or,Bool.true_and]
    have h1':(st == 1)=true:=by simpa using h1
    clear h1
    go_wp2_with (go_at_call 92;refine (Kp _ _ _).mono ?_;rintro e w' ⟨rfl,rfl⟩)
    go_meet
    exact ⟨by rw [HE.o],rfl⟩
   ·have HE:Hid (cc=false):=by rw [Hid,HCC.o,decide_eq_false h1,Bool.false_or,Bool.false_and]
    have h1':=Ay h1;clear h1;go_wp2;go_meet
    exact ⟨by rw [HE.o],rfl⟩
  ·have HE:Hid (cc=true):=by rw [Hid,HCC.o,Bool.true_or]
   go_wp2;go_meet
   exact ⟨by rw [HE.o],rfl⟩
 case rest =>
  obtain ⟨rfl,hwc⟩:=hcut;rw [hwc];clear hwc;go_upto_region 2 with fail
  go_cut [23] (fun v wc=>v=.bool p∧BW W wc)
  case first =>
   go_wp2_with fail
   refine (V7 r _).mono ?_;rintro e u1 ⟨rfl,b1⟩;have HB1:Hid (BW W u1):=b1;have j2:=(HX.o.below b1).a2
   simp only at j2
   clear b1
   cases h1:Oy r
   ·have HE:Hid (p=true):=by rw [Hid,← HPP.o,h1];rfl
    clear h1;go_wp2;go_meet
    exact ⟨by rw [HE.o],HB1.o⟩
   go_wp2_with fail
   refine (Wt r _).mono ?_;rintro e u2 ⟨rfl,hw2⟩;rw [hw2];clear hw2
   cases h2:E8 r
   ·have HE:Hid (p=false):=by rw [Hid,← HPP.o,h1,h2];rfl
    clear h1 h2;go_wp2;go_meet
    exact ⟨by rw [HE.o],HB1.o⟩
   have HE:Hid (p = !cc):=by rw [Hid,← HPP.o,h1,h2];rfl
   clear h1 h2;go_wp2;go_meet
   exact ⟨by rw [HE.o],HB1.o⟩
  case rest =>
   obtain ⟨rfl,b4⟩:=hcut;obtain ⟨u4,hu4⟩:∃ x,x=wc:=⟨_,rfl⟩;subst hu4;have HB4:Hid (BW W u4):=b4;have HX4:Hid (B2 w.heap.size ⟨iY,aZ,uV,am,st,rJ,cl,bk,fW,cW,sS,dX⟩ ⟨k,m,r⟩ u4):=HX.o.below b4;clear b4 f3 f4 f9 f10 f11 k0 k1 k2
   cases p
   rotate_left
   ·have HE:Hid (Bs ⟨iY,aZ,uV,am,st,rJ,cl,bk,fW,cW,sS,dX⟩ ⟨k,m,r⟩ t zs=3):=by rw [Hid,HV.o,if_pos rfl]
    go_wp2;go_ret;exact ⟨Af HE.o.symm,next HBW.o HB4.o⟩
   have HV1:Hid (Bs ⟨iY,aZ,uV,am,st,rJ,cl,bk,fW,cW,sS,dX⟩ ⟨k,m,r⟩ t zs=if q=true then 2 else if l=true then 4 else 0):=by rw [Hid,HV.o,if_neg (by decide)]
   obtain ⟨⟨f0,f1,f2,f3,f4,f5,f6,f7,f8,f9,f10,f11⟩,k0,k1,k2⟩:=HX4.o
   simp only [Nat.zero_add] at f0 f1 f2 f3 f4 f5 f6 f7 f8 f9 f10 f11 k0 k1 k2
   clear HV f0 f1 f2 f4 f5 f6 f7 f8 f9 f10 f11;go_upto_region 4 with fail
   go_cut [37] (fun v wc=>v=.bool q∧wc=u4)
   case first =>
    go_wp2_with fail
    cases h1:Gk m 1 am
    ·have HE:Hid (q=true):=by
       have:=E7 h1
       have g:m<1∨am<m:=by simp at this;omega
       rw [Hid,← HQQ.o]
       rcases g with g | g <;> simp [g]
     refine (Fa h1 _).mono ?_;rintro e v1 ⟨rfl,hv⟩;rw [hv];clear hv h1;go_wp2;go_meet
     exact ⟨by rw [HE.o],rfl⟩
    have g1:¬ m<1∧¬ am<m:=by have:=E7 h1;simp at this;omega
    refine (Fa h1 _).mono ?_;rintro e v1 ⟨rfl,hv⟩;rw [hv];clear hv h1
    by_cases h3:m<am
    ·have HE:Hid (q = !Gb r):=by rw [Hid,← HQQ.o,decide_eq_false g1.1,decide_eq_false g1.2,decide_eq_true h3];rfl
     clear g1;go_wp2_with fail
     refine (aT r _).mono ?_;rintro e v2 ⟨rfl,hv⟩;rw [hv];clear hv;go_wp2;go_meet
     exact ⟨by rw [HE.o],rfl⟩
    ·have HE:Hid (q=false):=by rw [Hid,← HQQ.o,decide_eq_false g1.1,decide_eq_false g1.2,decide_eq_false h3];rfl
     clear g1;go_wp2;go_meet
     exact ⟨by rw [HE.o],rfl⟩
   case rest =>
    obtain ⟨rfl,hwc⟩:=hcut;rw [hwc];clear hwc f3 k0 k1 k2
    cases q
    rotate_left
    ·have HE:Hid (Bs ⟨iY,aZ,uV,am,st,rJ,cl,bk,fW,cW,sS,dX⟩ ⟨k,m,r⟩ t zs=2):=by rw [Hid,HV1.o,if_pos rfl]
     go_wp2;go_ret;exact ⟨Af HE.o.symm,next HBW.o HB4.o⟩
    have HV2:Hid (Bs ⟨iY,aZ,uV,am,st,rJ,cl,bk,fW,cW,sS,dX⟩ ⟨k,m,r⟩ t zs=if l=true then 4 else 0):=by rw [Hid,HV1.o,if_neg (by decide)]
    clear HV1
    have HAT:Hid (∀ u,BW W u→u.cell? ⟨w.heap.size,10,none⟩=some (.int .i64 sS)∧u.cell? ⟨w.heap.size+1,2,none⟩=some (.int .i64 r)):=fun u hu=>by
     have g:=HX.o.below hu;have g10:=g.cb.f10
     simp only [Nat.zero_add] at g10
     exact ⟨g10,g.a2⟩
    obtain ⟨k10,k2⟩:=HAT.o u4 HB4.o;obtain ⟨n,hn'⟩:∃ n,Fs r=n:=⟨_,rfl⟩
    have HRD:Hid (∀ u,Calls prog 302 #[.int .i64 r] u fun e w'=>e=.returned (.int .i64 n)∧BW u w'):=fun u=>by rw [← hn'];exact Xy r u
    rw [hn'] at HDU HLL;obtain ⟨dd,hdd⟩:∃ dd,C6 sS n zs=dd:=⟨_,rfl⟩;rw [hdd] at HDU HLL
    have HLT:Hid (∀ u,Calls prog 92 #[.int .i64 t,.int .i64 dd] u fun e w'=>e=.returned (.bool l)∧w'=u):=fun u=>by rw [← HLL.o];exact Kp t dd u
    clear hn' hdd;have d5:BW W u4.drew:=HB4.o.drew;go_upto_region 6 with fail
    go_cut [57] (fun v wc=>v=.bool l∧BW W wc)
    case first =>
     go_region_held3 (fun u=>u.cell? ⟨w.heap.size,10,none⟩=some (.int .i64 sS)∧u.cell? ⟨w.heap.size+1,2,none⟩=some (.int .i64 r)) (first | exact ⟨k10,k2⟩ | exact HAT.o _ HB4.o | exact HAT.o _ d5 | exact HAT.o _ HB6.o | exact HAT.o _ HB7.o) ((first
      | (go_at_call 302;refine (HRD.o _).mono ?_;rintro e u6 ⟨rfl,b6⟩;(first | (have HB6:Hid (BW W u6):=next d5 b6) | (have HB6:Hid (BW W u6):=next HB4.o b6));clear b6)
      | (go_at_call 222;refine (HDU.o _ HB6.o).mono ?_;rintro e u7 ⟨rfl,b7⟩;(have HB7:Hid (BW W u7):=next HB6.o b7);clear b7)
      | (go_at_call 92;refine (HLT.o _).mono ?_;rintro e u8 ⟨rfl,hu8⟩;rw [hu8];clear hu8)))
     all_goals
      go_wp2_with fail
      go_meet;exact ⟨rfl,HB7.o⟩
    case rest =>
     obtain ⟨rfl,b8⟩:=hcut;clear k10 k2
     cases l
     ·have HE:Hid (Bs ⟨iY,aZ,uV,am,st,rJ,cl,bk,fW,cW,sS,dX⟩ ⟨k,m,r⟩ t zs=0):=by rw [Hid,HV2.o,if_neg (by decide)]
      go_wp2;go_ret;exact ⟨Af HE.o.symm,next HBW.o b8⟩
     ·have HE:Hid (Bs ⟨iY,aZ,uV,am,st,rJ,cl,bk,fW,cW,sS,dX⟩ ⟨k,m,r⟩ t zs=4):=by rw [Hid,HV2.o,if_pos rfl]
      go_wp2;go_ret;exact ⟨Af HE.o.symm,next HBW.o b8⟩
theorem fX (c:Cs) (a:Ac) (t:Int) (ao:Option Addr) (cp:Nat) (zs:List Int) (w:World) (hx:Aw w ao zs) (hn:zs.length≤1099511627776) (hk:0≤a.kind∧a.kind≤9) :
  Calls prog 221 #[cv c,av a,.int .i64 t,.slice ao zs.length cp] w fun e w'=>e=.returned (.int .i64 (B4 c a t zs))∧BW w w':=by
 obtain ⟨W,hW⟩:∃ W,W=(w.alloc (.cells #[.int .i64 c.iss,.int .i64 c.acq,.int .i64 c.cur,.int .i64 c.am,.int .i64 c.st,.int .i64 c.rsn,.int .i64 c.cl,.int .i64 c.bk,.int .i64 c.fee,.bool c.cop,.int .i64 c.sta,.int .i64 c.due] 61)).alloc (.cells #[.int .i64 a.kind,.int .i64 a.am,.int .i64 a.rsn] 165):=⟨_,rfl⟩
 have HX:Hid (B2 w.heap.size c a W):=by rw [Hid,hW];exact B2.new w c a _ _
 have HBW:Hid (BW w W):=by rw [Hid,hW];go_grown
 have HW:Hid _:=hW
 have HCH:Hid (∀ u,BW W u→Calls prog 263 #[cv c,av a,.int .i64 t,.slice ao zs.length cp] u fun e w'=>e=.returned (.int .i64 (Bs c a t zs))∧BW u w'):=fun u hu=>Xk c a t ao cp zs u ((hx.below HBW.o).below hu) hn
 obtain ⟨r,hr⟩:∃ r,B4 c a t zs=r:=⟨_,rfl⟩;have HR:Hid _:=hr;rw [hr];clear hx hW hr;obtain ⟨k,m,q⟩:=a;obtain ⟨iY,aZ,uV,am,st,rJ,cl,bk,fW,cW,sS,dX⟩:=c;unfold cv av at HCH ⊢
 simp only at HW HCH hk ⊢
 go_enter func221,ntmps221
 go_upto_region 1 with fail
 rw [← HW.o];clear HW;obtain ⟨⟨f0,f1,f2,f3,f4,f5,f6,f7,f8,f9,f10,f11⟩,k0,k1,k2⟩:=HX.o
 simp only [Nat.zero_add] at f0 f1 f2 f3 f4 f5 f6 f7 f8 f9 f10 f11 k0 k1 k2
 go_wp2_with fail
 refine (Kp t dX _).mono ?_;rintro e u1 ⟨rfl,hu⟩;rw [hu];clear hu;obtain ⟨l,hl⟩:∃ l,Bv t dX=l:=⟨_,rfl⟩;have HL:Hid _:=hl;rw [hl];clear hl
 rcases (show k=0∨k=1∨k=2∨k=3∨k=4∨k=5∨k=6∨k=7∨k=8∨k=9 by omega) with rfl | rfl | rfl | rfl | rfl | rfl | rfl | rfl | rfl | rfl
 ·have HE:Hid (r=0):=by rw [Hid,← HR.o];simp [B4]
  clear HCH;go_wp2;go_ret;exact ⟨Af HE.o.symm,HBW.o⟩
 ·have HE:Hid (r=if l=true then 4 else 0):=by rw [Hid,← HR.o,← HL.o];simp [B4]
  clear HCH
  cases l
  ·go_wp2
   go_ret
   exact ⟨Af (by rw [HE.o];rfl),HBW.o⟩
  ·go_wp2
   go_ret
   exact ⟨Af (by rw [HE.o];rfl),HBW.o⟩
 ·have HE:Hid (Bs ⟨iY,aZ,uV,am,st,rJ,cl,bk,fW,cW,sS,dX⟩ ⟨2,m,q⟩ t zs=r):=by rw [Hid,← HR.o];simp [B4]
  go_wp2_with fail
  refine (HCH.o _ bR).mono ?_;rintro e u2 ⟨rfl,b2⟩;have HB2:Hid (BW w u2):=next HBW.o b2;clear b2;rw [HE.o];go_wp2;go_ret;exact ⟨rfl,HB2.o⟩
 ·have HE:Hid (r=if l=true then 4 else if 1≤m∧m≤cl then 0 else 2):=by rw [Hid,← HR.o,← HL.o];simp [B4]
  clear HCH
  cases l
  ·rw [if_neg (by decide)] at HE
   go_wp2_with fail
   cases h1:Gk m 1 cl
   ·have g:=E7 h1
    have HE2:Hid (r=2):=by rw [Hid,HE.o,if_neg (of_decide_eq_false g)]
    refine (Fa h1 _).mono ?_;rintro e v1 ⟨rfl,hv⟩;rw [hv];clear hv h1 g;go_wp2;go_ret;exact ⟨Af HE2.o.symm,HBW.o⟩
   ·have g:=E7 h1
    have HE2:Hid (r=0):=by rw [Hid,HE.o,if_pos (of_decide_eq_true g)]
    refine (Fa h1 _).mono ?_;rintro e v1 ⟨rfl,hv⟩;rw [hv];clear hv h1 g;go_wp2;go_ret;exact ⟨Af HE2.o.symm,HBW.o⟩
  ·go_wp2
   go_ret
   exact ⟨Af (by rw [HE.o];rfl),HBW.o⟩
 ·have HE:Hid (r=if l=true then 4 else if 1≤m∧m≤cl then 0 else 2):=by rw [Hid,← HR.o,← HL.o];simp [B4]
  clear HCH
  cases l
  ·rw [if_neg (by decide)] at HE
   go_wp2_with fail
   cases h1:Gk m 1 cl
   ·have g:=E7 h1
    have HE2:Hid (r=2):=by rw [Hid,HE.o,if_neg (of_decide_eq_false g)]
    refine (Fa h1 _).mono ?_;rintro e v1 ⟨rfl,hv⟩;rw [hv];clear hv h1 g;go_wp2;go_ret;exact ⟨Af HE2.o.symm,HBW.o⟩
   ·have g:=E7 h1
    have HE2:Hid (r=0):=by rw [Hid,HE.o,if_pos (of_decide_eq_true g)]
    refine (Fa h1 _).mono ?_;rintro e v1 ⟨rfl,hv⟩;rw [hv];clear hv h1 g;go_wp2;go_ret;exact ⟨Af HE2.o.symm,HBW.o⟩
  ·go_wp2
   go_ret
   exact ⟨Af (by rw [HE.o];rfl),HBW.o⟩
 ·have HE:Hid (r=0):=by rw [Hid,← HR.o];simp [B4]
  clear HCH;go_wp2;go_ret;exact ⟨Af HE.o.symm,HBW.o⟩
 ·have HE:Hid (r=if l=true then 4 else 0):=by rw [Hid,← HR.o,← HL.o];simp [B4]
  clear HCH
  cases l
  ·go_wp2
   go_ret
   exact ⟨Af (by rw [HE.o];rfl),HBW.o⟩
  ·go_wp2
   go_ret
   exact ⟨Af (by rw [HE.o];rfl),HBW.o⟩
 ·have HE:Hid (r=if 0≤m∧m≤cl then 0 else 2):=by rw [Hid,← HR.o];simp [B4]
  clear HCH;go_wp2_with fail
  cases h1:Gk m 0 cl
  ·have g:=E7 h1
   have HE2:Hid (r=2):=by rw [Hid,HE.o,if_neg (of_decide_eq_false g)]
   refine (Fa h1 _).mono ?_;rintro e v1 ⟨rfl,hv⟩;rw [hv];clear hv h1 g;go_wp2;go_ret;exact ⟨Af HE2.o.symm,HBW.o⟩
  ·have g:=E7 h1
   have HE2:Hid (r=0):=by rw [Hid,HE.o,if_pos (of_decide_eq_true g)]
   refine (Fa h1 _).mono ?_;rintro e v1 ⟨rfl,hv⟩;rw [hv];clear hv h1 g;go_wp2;go_ret;exact ⟨Af HE2.o.symm,HBW.o⟩
 ·have HE:Hid (r=if l=true then 0 else 4):=by rw [Hid,← HR.o,← HL.o];simp [B4]
  clear HCH
  cases l
  ·go_wp2
   go_ret
   exact ⟨Af (by rw [HE.o];rfl),HBW.o⟩
  ·go_wp2
   go_ret
   exact ⟨Af (by rw [HE.o];rfl),HBW.o⟩
 ·have HE:Hid (r=0):=by rw [Hid,← HR.o];simp [B4]
  clear HCH;go_wp2;go_ret;exact ⟨Af HE.o.symm,HBW.o⟩
def Jl (w:World) (ls:List Ln) (ok:Bool) (e:Ending) (w':World):Prop :=
 ∃ ao cap,e=.returned (.tuple #[.agg #[.slice ao ls.length cap],.bool ok])∧w'.ownsRow w.heap.size 113 3 (.slice ao ls.length cap) ls.length (Ag ls)∧BW w w'
structure PB (s:Nat) (ao:Option Addr) (cap n:Nat) (a b c m:Int) (u:World):Prop where
 l0:u.cell? ⟨s,0,none⟩=some (.slice ao n cap)
 e0:u.cell? ⟨s+1,0,none⟩=some (.int .i64 a)
 e1:u.cell? ⟨s+1,1,none⟩=some (.int .i64 b)
 e2:u.cell? ⟨s+1,2,none⟩=some (.int .i64 c)
 e3:u.cell? ⟨s+1,3,none⟩=some (.int .i64 m)
 r0:u.cell? ⟨s+1+1,0,none⟩=some (.slice none 0 0)
 rf:u.frozen? ⟨s+1+1,0,none⟩=false
 sz:s+1+1<u.heap.size
theorem PB.below {s:Nat} {ao:Option Addr} {cap n:Nat} {a b c m:Int} {u u':World} (h:PB s ao cap n a b c m u) (hb:BW u u'):PB s ao cap n a b c m u':=by
 have h1:=h.sz
 exact ⟨(hb.cell (p:=⟨s,0,none⟩) (by show s<u.heap.size;omega)).trans h.l0,(hb.cell (p:=⟨s+1,0,none⟩) (by show s+1<u.heap.size;omega)).trans h.e0,(hb.cell (p:=⟨s+1,1,none⟩) (by show s+1<u.heap.size;omega)).trans h.e1,
  (hb.cell (p:=⟨s+1,2,none⟩) (by show s+1<u.heap.size;omega)).trans h.e2,(hb.cell (p:=⟨s+1,3,none⟩) (by show s+1<u.heap.size;omega)).trans h.e3,(hb.cell (p:=⟨s+1+1,0,none⟩) h1).trans h.r0,(hb.frozen (p:=⟨s+1+1,0,none⟩) h1).trans h.rf,Nat.lt_of_lt_of_le h1 hb.size⟩
theorem Gd {w u:World} {ls gs:List Ln} {ok:Bool} {ao:Option Addr} {cap base:Nat} (hg:gs=ls) (ho:u.ownsRow base 113 3 (.slice ao ls.length cap) ls.length (Ag ls)) (hb:w.heap.size+1+1<base) (bel:BW w u) :
  Jl w gs ok (.returned (.tuple #[.agg #[.slice ao ls.length cap],.bool ok])) (u.setCell ⟨w.heap.size+1+1,0,none⟩ (.slice ao ls.length cap)):=by
 subst hg
 exact ⟨ao,cap,rfl,Bi (A5 ho _ _ (fun g hg=>by have:=(ho.lt g hg).1;simp only;omega)) (by omega),bel.setCell (by show w.heap.size≤w.heap.size+1+1;omega) _⟩
theorem Hs {ls:List Ln} {e:En} (h:Cj ls e=false):Gg ls e=ls:=if_neg (by rw [h];decide)
theorem N9 {ls:List Ln} {e:En} (h:Cj ls e=true):Gg ls e=G5 ls e:=if_pos h
theorem P0 {ls:List Ln} {a c m:Int} : ∀ x ∈ Cr ls a c m,x ∈ ls∨x.2.2=m∨∃ y ∈ ls,x.2.2=y.2.2+m:=by
 induction ls with
 | nil=>intro x hx;simp [Cr] at hx;subst hx;exact .inr (.inl rfl)
 | cons y r ih =>
  intro x hx
  simp only [Cr] at hx
  split at hx
  ·split at hx
   ·split at hx
    ·rcases List.mem_cons.1 hx with rfl | h
     ·exact .inr (.inr ⟨y,List.mem_cons_self ..,rfl⟩)
     ·exact .inl (List.mem_cons_of_mem _ h)
    ·exact .inl (List.mem_cons_of_mem _ hx)
   ·rcases List.mem_cons.1 hx with rfl | h
    ·exact .inr (.inl rfl)
    ·exact .inl h
  ·rcases List.mem_cons.1 hx with rfl | h
   ·exact .inl (List.mem_cons_self ..)
   ·rcases ih x h with h | h | ⟨z,hz,h⟩
    ·exact .inl (List.mem_cons_of_mem _ h)
    ·exact .inr (.inl h)
    ·exact .inr (.inr ⟨z,List.mem_cons_of_mem _ hz,h⟩)
theorem Dq {ls:List Ln} (h:At ls=true):Az none ls=true∧ls.length≤400∧Wo ls=true:=by
 simp only [At,Bool.and_eq_true,decide_eq_true_eq] at h
 exact ⟨h.1,h.2.1,h.2.2⟩
theorem Lq {e:En} (h:Bt e=true):Cb e.1=true∧Cb e.2.1=true∧e.1≠e.2.1∧0≤Dc e.2.2.1∧1≤e.2.2.2∧e.2.2.2≤1000000000000:=by
 simp only [Bt,Bool.and_eq_true,decide_eq_true_eq] at h
 exact ⟨h.1,h.2.1,h.2.2.1,h.2.2.2.1,h.2.2.2.2⟩
theorem eE (ao:Option Addr) (cap:Nat) (ls:List Ln) (a b c m:Int) (w:World) (hz:Ai w ao ls) (hn:ls.length≤1048576) :
  Calls prog 220 #[.agg #[.slice ao ls.length cap],.agg #[.int .i64 a,.int .i64 b,.int .i64 c,.int .i64 m]] w (Jl w (Gg ls (a,b,c,m)) (Cj ls (a,b,c,m))):=by
 obtain ⟨W,hW⟩:∃ W,W=((w.alloc (.cells #[.slice ao ls.length cap] 29)).alloc (.cells #[.int .i64 a,.int .i64 b,.int .i64 c,.int .i64 m] 269)).alloc (.cells #[.slice none 0 0] 29):=⟨_,rfl⟩
 have bW:BW w W:=by rw [hW];go_grown
 have PW:PB w.heap.size ao cap ls.length a b c m W:=by
  rw [hW];exact ⟨by simp [go_sem],by simp [go_sem],by simp [go_sem],by simp [go_sem],by simp [go_sem],by simp [go_sem],by simp [go_sem],by simp⟩
 have HZ:Hid (Ai W ao ls):=hz.below bW;have HW:Hid _:=hW;have l0:=PW.l0;have HPW:Hid _:=PW;clear hz hW PW
 cases hL:At ls
 ·have hno:Cj ls (a,b,c,m)=false:=by simp [Cj,hL]
  have HNL:Hid _:=Hs hno;rw [hno];have HL:Hid _:=hL
  have HC:Hid (Calls prog 260 #[.agg #[.slice ao ls.length cap]] W fun e w'=>e=.returned (.bool false)∧BW W w'):=by
   have h:=Ik ao cap ls W HZ.o (by omega)
   rw [hL] at h;exact h
  clear hno hL
  go_enter func220,ntmps220
  go_upto_region 1 with fail
  rw [← HW.o];go_wp2_with fail
  refine HC.o.mono ?_;rintro e w1 ⟨rfl,b1⟩;have P1:=HPW.o.below b1;have q1:=next bW b1;have HZ1:Hid (Ai w1 ao ls):=HZ.o.below b1;have j0:=P1.l0;have HP1:Hid _:=P1;clear HC b1 P1 l0;go_wp2_with fail
  refine (Hh ao cap ls w1 HZ1.o (by omega)).mono ?_
  rintro e w2 ⟨g2,c2,rfl,o2,b2⟩;have P2:=HP1.o.below b2;have r0:=P2.r0;have rf:=P2.rf;have HE:Hid _:=Gd (w:=w) (ok:=false) HNL.o o2 HP1.o.sz (next q1 b2);clear o2 b2 P2 j0;go_wp2
  refine bodyPost_ret (by simp [results,results220,go_sem,r0];try rfl) rfl ?_
  exact HE.o
 have HCL:Hid (Calls prog 260 #[.agg #[.slice ao ls.length cap]] W fun e w'=>e=.returned (.bool true)∧BW W w'):=by
  have h:=Ik ao cap ls W HZ.o (by omega)
  rw [hL] at h;exact h
 cases hE:Bt (a,b,c,m)
 ·have hno:Cj ls (a,b,c,m)=false:=by simp [Cj,hE]
  have HNL:Hid _:=Hs hno;rw [hno];have HEO:Hid _:=hE;clear hno hL hE
  go_enter func220,ntmps220
  go_upto_region 1 with fail
  rw [← HW.o];go_wp2_with fail
  refine HCL.o.mono ?_;rintro e w1 ⟨rfl,b1⟩;have P1:=HPW.o.below b1;have q1:=next bW b1;have HZ1:Hid (Ai w1 ao ls):=HZ.o.below b1;have k0:=P1.e0;have k1:=P1.e1;have k2:=P1.e2;have k3:=P1.e3
  have HCE:Hid (Calls prog 261 #[.agg #[.int .i64 a,.int .i64 b,.int .i64 c,.int .i64 m]] w1 fun e w'=>e=.returned (.bool false)∧BW w1 w'):=by
   have h:=Nf a b c m w1;rw [HEO.o] at h;exact h
  have HP1:Hid _:=P1;clear HCL b1 P1 l0;go_wp2_with fail
  refine HCE.o.mono ?_;rintro e w2 ⟨rfl,b2⟩;have P2:=HP1.o.below b2;have q2:=next q1 b2;have HZ2:Hid (Ai w2 ao ls):=HZ1.o.below b2;have j0:=P2.l0;have HP2:Hid _:=P2;clear HCE b2 P2 k0 k1 k2 k3;go_wp2_with fail
  refine (Hh ao cap ls w2 HZ2.o (by omega)).mono ?_
  rintro e w3 ⟨g3,c3,rfl,o3,b3⟩;have P3:=HP2.o.below b3;have r0:=P3.r0;have rf:=P3.rf;have HE:Hid _:=Gd (w:=w) (ok:=false) HNL.o o3 HP2.o.sz (next q2 b3);clear o3 b3 P3 j0;go_wp2
  refine bodyPost_ret (by simp [results,results220,go_sem,r0];try rfl) rfl ?_
  exact HE.o
 ·obtain ⟨hl1,hl2,_⟩:=Dq hL
  obtain ⟨_,_,_,_,hm1,hm2⟩:=Lq hE
  simp only at hm1 hm2
  have hbd:∀ x ∈ ls,-1000000000000≤x.2.2∧x.2.2≤1000000000000:=fun x hx=>(Ig (Dv hl1 x hx)).2.2.1
  have HB1:Hid (∀ x ∈ ls,-4000000000000≤x.2.2∧x.2.2≤4000000000000):=fun x hx=>by have:=hbd x hx;omega
  have HB2:Hid (∀ x ∈ Cr ls a c (-m),-4000000000000≤x.2.2∧x.2.2≤4000000000000):=fun x hx=>by
   rcases P0 x hx with h | h | ⟨y,hy,h⟩
   ·have:=hbd x h;omega
   ·omega
   ·have:=hbd y hy;omega
  have hla:=Mp ls a c (-m);have hlb:=Mp (Cr ls a c (-m)) b c m;have HPT:Hid (G5 ls (a,b,c,m)=Cr (Cr ls a c (-m)) b c m):=rfl
  have HPO:Hid (Cj ls (a,b,c,m)=At (Cr (Cr ls a c (-m)) b c m)):=by rw [Hid,Cj,hL,hE];rfl
  obtain ⟨A1,hA1⟩:∃ A1,Cr ls a c (-m)=A1:=⟨_,rfl⟩;rw [hA1] at HB2 hla hlb HPT HPO;obtain ⟨A,hA⟩:∃ A,Cr A1 b c m=A:=⟨_,rfl⟩;rw [hA] at hlb HPT HPO;have HA1:Hid _:=hA1;have HA:Hid _:=hA;have HEO:Hid _:=hE
  have hAb:A.length≤402:=by omega
  have hA1b:A1.length≤401:=by omega
  clear hL hE hl1 hbd hla hlb hA1 hA
  have hwn:IntKind.i64.wrap (-m) = -m:=by simp [IntKind.wrap,IntKind.bits,IntKind.signed];omega
  go_enter func220,ntmps220
  go_upto_region 1 with fail
  rw [← HW.o];go_wp2_with fail
  refine HCL.o.mono ?_;rintro e w1 ⟨rfl,b1⟩;have P1:=HPW.o.below b1;have q1:=next bW b1;have HZ1:Hid (Ai w1 ao ls):=HZ.o.below b1;have k0:=P1.e0;have k1:=P1.e1;have k2:=P1.e2;have k3:=P1.e3
  have HCE:Hid (Calls prog 261 #[.agg #[.int .i64 a,.int .i64 b,.int .i64 c,.int .i64 m]] w1 fun e w'=>e=.returned (.bool true)∧BW w1 w'):=by
   have h:=Nf a b c m w1;rw [HEO.o] at h;exact h
  have HP1:Hid _:=P1;clear HCL b1 P1 l0;go_wp2_with fail
  refine HCE.o.mono ?_;rintro e w2 ⟨rfl,b2⟩;have P2:=HP1.o.below b2;have q2:=next q1 b2;have HZ2:Hid (Ai w2 ao ls):=HZ1.o.below b2;have j0:=P2.l0;have i0:=P2.e0;have i1:=P2.e1;have i2:=P2.e2;have i3:=P2.e3;have HP2:Hid _:=P2
  have H1:Hid (Calls prog 262 #[.slice ao ls.length cap,.int .i64 a,.int .i64 c,.int .i64 (-m)] w2.drew fun e w'=>∃ g cap',e=.returned (.slice g A1.length cap')∧w'.ownsRow w2.heap.size 113 3 (.slice g A1.length cap') A1.length (Ag A1)∧BW w2 w'):=by
   have h:=Tf ao cap ls a c (-m) w2.drew (HZ2.o.below (bR.drew)) hn (by omega) HB1.o
   rw [HA1.o] at h;refine h.mono ?_;rintro e w' ⟨g,k,rfl,o,bb⟩;exact ⟨g,k,rfl,o,(bR.drew).trans bb⟩
  have HK2:Hid (∀ (w3:World) (g3:Option Addr) (c3:Nat),w3.ownsRow w2.heap.size 113 3 (.slice g3 A1.length c3) A1.length (Ag A1)→BW w2 w3→Calls prog 262 #[.slice g3 A1.length c3,.int .i64 b,.int .i64 c,.int .i64 m] w3 fun e w'=>∃ g cap',e=.returned (.slice g A.length cap')∧w'.ownsRow w2.heap.size 113 3 (.slice g A.length cap') A.length (Ag A)∧BW w2 w'):=fun w3 g3 c3 o3 b3=>by
   have h:=Tf g3 c3 A1 b c m w3 (Df o3) (by omega) ⟨by omega,by omega⟩ HB2.o
   rw [HA.o] at h;refine h.mono ?_;rintro e w' ⟨g,k,rfl,o,bb⟩;exact ⟨g,k,rfl,Bi o b3.size,b3.trans (bb.mono b3.size)⟩
  clear HCE b2 P2 k0 k1 k2 k3 HB1 HB2;go_upto_region 3 with fail
  go_region_held3 (fun u=>u.cell? ⟨w.heap.size,0,none⟩=some (.slice ao ls.length cap)∧u.cell? ⟨w.heap.size+1,0,none⟩=some (.int .i64 a)∧u.cell? ⟨w.heap.size+1,1,none⟩=some (.int .i64 b)∧u.cell? ⟨w.heap.size+1,2,none⟩=some (.int .i64 c)∧u.cell? ⟨w.heap.size+1,3,none⟩=some (.int .i64 m)) (first | exact ⟨j0,i0,i1,i2,i3⟩ | exact ⟨(HP2.o.below b4).l0,(HP2.o.below b4).e0,(HP2.o.below b4).e1,(HP2.o.below b4).e2,(HP2.o.below b4).e3⟩ | exact ⟨(HP2.o.below b3).l0,(HP2.o.below b3).e0,(HP2.o.below b3).e1,(HP2.o.below b3).e2,(HP2.o.below b3).e3⟩) ((first
   | (go_at_call_of 262 (Value.int .i64 (-m));refine H1.o.mono ?_;rintro e w3 ⟨g3,c3,rfl,o3,b3⟩;have H2:Hid (Calls prog 262 #[.slice g3 A1.length c3,.int .i64 b,.int .i64 c,.int .i64 m] w3 fun e w'=>∃ g cap',e=.returned (.slice g A.length cap')∧w'.ownsRow w2.heap.size 113 3 (.slice g A.length cap') A.length (Ag A)∧BW w2 w'):=HK2.o w3 g3 c3 o3 b3;clear o3)
   | (go_at_call 262;refine H2.o.mono ?_;rintro e w4 ⟨g4,c4,rfl,o4,b4⟩;have HO4:Hid (w4.ownsRow w2.heap.size 113 3 (.slice g4 A.length c4) A.length (Ag A)):=o4;clear o4)))
  all_goals
   obtain ⟨u,hu⟩:∃ x,x=w4:=⟨_,rfl⟩;subst hu;have g:=g4;obtain ⟨g,hg⟩:∃ g,g=g4:=⟨_,rfl⟩;obtain ⟨k,hk⟩:∃ k,k=c4:=⟨_,rfl⟩;subst hg hk;have o5:=HO4.o;have b5:=b4;clear b4 HO4 H1 H2 HK2 b3;have P5:=HP2.o.below b5;have q5:=next q2 b5;have HO5:Hid (u.ownsRow w2.heap.size 113 3 (.slice g A.length k) A.length (Ag A)):=o5;obtain ⟨V,hV⟩:∃ V,V=u.alloc (.cells #[.slice g A.length k] 29):=⟨_,rfl⟩
   have bV:BW u V:=by rw [hV];go_grown
   have v0:V.cell? ⟨u.heap.size,0,none⟩=some (.slice g A.length k):=by rw [hV];simp
   have PV:=P5.below bV;have qV:=next q5 bV;have HOV:Hid (V.ownsRow w2.heap.size 113 3 (.slice g A.length k) A.length (Ag A)):=Av o5 bV;have HZV:Hid (Ai V ao ls):=(HZ2.o.below b5).below bV;have HPV:Hid _:=PV
   have HCL2:Hid (Calls prog 260 #[.agg #[.slice g A.length k]] V fun e w'=>e=.returned (.bool (At A))∧BW V w'):=Ik g k A V (Df HOV.o) (by omega)
   have hs2:w.heap.size+1+1<w2.heap.size:=HP2.o.sz;clear o5 b5 bV P5 PV q5 j0 i0 i1 i2 i3;go_upto_region 5 with fail
   rw [← hV];clear hV
   cases hLA:At A
   ·have hno:Cj ls (a,b,c,m)=false:=HPO.o.trans hLA
    have HNL:Hid _:=Hs hno;have HNO:Hid _:=hno;rw [hLA] at HCL2;clear hno hLA;go_wp2_with fail
    refine HCL2.o.mono ?_;rintro e w6 ⟨rfl,b6⟩;have P6:=HPV.o.below b6;have q6:=next qV b6;have HZ6:Hid (Ai w6 ao ls):=HZV.o.below b6;have j0:=P6.l0;have HP6:Hid _:=P6;clear HCL2 b6 P6 v0;go_wp2_with fail
    refine (Hh ao cap ls w6 HZ6.o (by omega)).mono ?_
    rintro e w7 ⟨g7,c7,rfl,o7,b7⟩;have P7:=HP6.o.below b7;have r0:=P7.r0;have rf:=P7.rf;have HE:Hid _:=Gd (w:=w) (ok:=false) HNL.o o7 HP6.o.sz (next q6 b7);clear o7 b7 P7 j0;go_wp2
    refine bodyPost_ret (by simp [results,results220,go_sem,r0];try rfl) rfl ?_
    rw [HNO.o];exact HE.o
   ·have hyes:Cj ls (a,b,c,m)=true:=HPO.o.trans hLA
    have HNL:Hid (Gg ls (a,b,c,m)=A):=(N9 hyes).trans HPT.o;have HNO:Hid _:=hyes;rw [hLA] at HCL2;clear hyes hLA;go_wp2_with fail
    refine HCL2.o.mono ?_;rintro e w6 ⟨rfl,b6⟩;have P6:=HPV.o.below b6;have q6:=next qV b6;have v6:=(b6.cell (p:=⟨u.heap.size,0,none⟩) (World.block_lt_of_cell? V _ v0)).trans v0;have r0:=P6.r0;have rf:=P6.rf;have HE:Hid _:=Gd (w:=w) (ok:=true) HNL.o (Av HOV.o b6) hs2 q6;clear HCL2 b6 P6 v0;go_wp2
    refine bodyPost_ret (by simp [results,results220,go_sem,r0];try rfl) rfl ?_
    rw [HNO.o];exact HE.o
def Hv (ls:List Ln) (es:List En):List Ln:=(Ch ls es).getD ls
def allOk (ls:List Ln) (es:List En):Bool:=(Ch ls es).isSome
theorem Rb (uV:List Ln) (es:List En) (k:Nat) (h:k<es.length):Ch uV (es.drop k)=if Cj uV (I4 es k)=true then Ch (G5 uV (I4 es k)) (es.drop (k+1)) else none:=by
 rw [List.drop_eq_getElem_cons h,← bI h];rfl
theorem Te (uV:List Ln) (es:List En):Ch uV (es.drop es.length)=some uV:=by
 rw [List.drop_of_length_le nL];rfl
theorem Cq {x:Int} (h:-1000000000000≤x∧x≤1000000000000):Bf x:=WalkArith.wf_i64 (by omega)
theorem Vm {ls:List Ln} (h:At ls=true):∀ x ∈ ls,Hw x:=by
 intro x hx;obtain ⟨h1,h2,h3,_⟩:=Ig (Dv (Dq h).1 x hx)
 refine ⟨Cq (by omega),Cq ?_,Cq h3⟩
 have:=U2 h2
 simp [Gi] at this
 omega
theorem N1 {ls:List Ln} {e:En} (h:Cj ls e=true):Gg ls e=G5 ls e∧At (G5 ls e)=true:=by
 refine ⟨N9 h,?_⟩
 simp only [Cj,Bool.and_eq_true] at h
 exact h.2
structure PA (s B:Nat) (ao:Option Addr) (cap n:Nat) (uV:List Ln) (a2:Option Addr) (k2:Nat) (u:World):Prop where
 l0:u.cell? ⟨s,0,none⟩=some (.slice ao n cap)
 r0:u.cell? ⟨s+1,0,none⟩=some (.slice none 0 0)
 rf:u.frozen? ⟨s+1,0,none⟩=false
 c6:u.cell? ⟨B,0,none⟩=some (.slice a2 uV.length k2)
 f6:u.frozen? ⟨B,0,none⟩=false
 own:u.ownsRow (s+2) 113 3 (.slice a2 uV.length k2) uV.length (Ag uV)
 ne:∀ g,(Value.slice a2 uV.length k2).ownBlock=some g→g≠B
 hB:s+2≤B
theorem PA.below {s B:Nat} {ao:Option Addr} {cap n:Nat} {uV:List Ln} {a2:Option Addr} {k2:Nat} {u u':World} (h:PA s B ao cap n uV a2 k2 u) (b:BW u u'):PA s B ao cap n uV a2 k2 u':=by
 have h0:s<u.heap.size:=World.block_lt_of_cell? u _ h.l0;have h1:s+1<u.heap.size:=World.block_lt_of_cell? u _ h.r0;have h2:B<u.heap.size:=World.block_lt_of_cell? u _ h.c6;exact ⟨(b.cell (p:=⟨s,0,none⟩) h0).trans h.l0,(b.cell (p:=⟨s+1,0,none⟩) h1).trans h.r0,(b.frozen (p:=⟨s+1,0,none⟩) h1).trans h.rf,(b.cell (p:=⟨B,0,none⟩) h2).trans h.c6,(b.frozen (p:=⟨B,0,none⟩) h2).trans h.f6,Av h.own b,h.ne,h.hB⟩
theorem PA.put {s B base:Nat} {ao:Option Addr} {cap n:Nat} {uV nxt:List Ln} {a2 a3:Option Addr} {k2 k3:Nat} {u:World} (h:PA s B ao cap n uV a2 k2 u) (o:u.ownsRow base 113 3 (.slice a3 nxt.length k3) nxt.length (Ag nxt)) (hb:B<base) :
  PA s B ao cap n nxt a3 k3 (u.setCell ⟨B,0,none⟩ (.slice a3 nxt.length k3)):=by
 have hs:=h.hB
 have hne:∀ g,(Value.slice a3 nxt.length k3).ownBlock=some g→g≠B:=fun g hg=>by have:=(o.lt g hg).1;omega
 refine ⟨?_,?_,?_,by simp [go_sem,h.c6],?_,Bi (A5 o _ _ hne) (by omega),hne,hs⟩
 ·rw [World.cell?_setCell_far _ _ _ _ (by simp;omega)];exact h.l0
 ·rw [World.cell?_setCell_far _ _ _ _ (by simp;omega)];exact h.r0
 ·simp [go_sem,h.rf]
 ·simp [go_sem,h.f6]
theorem Vv {w w1:World} {ao a1:Option Addr} {cap k1 n:Nat} {ls:List Ln} {t:TypeId} (l0:w1.cell? ⟨w.heap.size,0,none⟩=some (.slice ao n cap)) (r0:w1.cell? ⟨w.heap.size+1,0,none⟩=some (.slice none 0 0)) (rf:w1.frozen? ⟨w.heap.size+1,0,none⟩=false)
  (o:w1.ownsRow (w.heap.size+2) 113 3 (.slice a1 ls.length k1) ls.length (Ag ls)):PA w.heap.size w1.heap.size ao cap n ls a1 k1 (w1.alloc (.cells #[.slice a1 ls.length k1] t)):=by
 have b:Below w1.heap.size w1 (w1.alloc (.cells #[.slice a1 ls.length k1] t)):=by go_grown
 have h0:w.heap.size<w1.heap.size:=World.block_lt_of_cell? w1 _ l0;have h1:w.heap.size+1<w1.heap.size:=World.block_lt_of_cell? w1 _ r0
 exact ⟨(b.cell (p:=⟨w.heap.size,0,none⟩) h0).trans l0,(b.cell (p:=⟨w.heap.size+1,0,none⟩) h1).trans r0,(b.frozen (p:=⟨w.heap.size+1,0,none⟩) h1).trans rf,by simp,by simp [go_sem],Av o b,fun g hg=>by have:=(o.lt g hg).2;omega,by omega⟩
theorem Pq {w u:World} {gs uV:List Ln} {ok:Bool} {ao:Option Addr} {cap base:Nat} (hg:gs=uV) (ho:u.ownsRow base 113 3 (.slice ao uV.length cap) uV.length (Ag uV)) (hb:w.heap.size+1<base) (bel:BW w u) :
  Jl w gs ok (.returned (.tuple #[.agg #[.slice ao uV.length cap],.bool ok])) (u.setCell ⟨w.heap.size+1,0,none⟩ (.slice ao uV.length cap)):=by
 subst hg
 exact ⟨ao,cap,rfl,Bi (A5 ho _ _ (fun g hg=>by have:=(ho.lt g hg).1;simp only;omega)) (by omega),bel.setCell (by show w.heap.size≤w.heap.size+1;omega) _⟩
structure ZB (W u:World) (ob:Option Nat) (K:World→Prop):Prop where
 bel:BW W u
 box:∀ B,ob=some B→W.heap.size≤B∧B<u.heap.size∧u.cell? ⟨B,0,none⟩=some (.slice none 0 0)∧u.frozen? ⟨B,0,none⟩=false
 kept:∀ v,BW u v→K v
theorem ZB.start {W:World} {K:World→Prop} (h:∀ v,BW W v→K v):ZB W W none K:=⟨bR,(fun B h=>by cases h),h⟩
theorem ZB.call {W u u':World} {ob:Option Nat} {K:World→Prop} (z:ZB W u ob K) (b:BW u u'):ZB W u' ob K :=
 ⟨next z.bel b,fun B h=>by
  obtain ⟨h1,h2,h3,h4⟩:=z.box B h
  exact ⟨h1,Nat.lt_of_lt_of_le h2 b.size,(b.cell (p:=⟨B,0,none⟩) h2).trans h3,(b.frozen (p:=⟨B,0,none⟩) h2).trans h4⟩,fun v hv=>z.kept v (b.trans (hv.mono b.size))⟩
theorem ZB.drew {W u:World} {ob:Option Nat} {K:World→Prop} (z:ZB W u ob K):ZB W u.drew ob K:=z.call (bR.drew)
theorem ZB.al {W u:World} {K:World→Prop} (z:ZB W u none K) (t:TypeId):ZB W (u.alloc (.cells #[.slice none 0 0] t)) (some u.heap.size) K:=by
 have b:Below u.heap.size u (u.alloc (.cells #[.slice none 0 0] t)):=by go_grown
 refine ⟨next z.bel b,fun B h=>?_,fun v hv=>z.kept v (b.trans (hv.mono b.size))⟩
 injection h with h
 subst h
 exact ⟨z.bel.size,by simp,by simp,by simp [go_sem]⟩
structure LB (W:World) (L:List Ln) (B:Nat) (ao:Option Addr) (cap:Nat) (u:World):Prop where
 c0:u.cell? ⟨B,0,none⟩=some (.slice ao L.length cap)
 own:u.ownsRow W.heap.size 113 3 (.slice ao L.length cap) L.length (Ag L)
 ge:W.heap.size≤B
 ne:∀ g,(Value.slice ao L.length cap).ownBlock=some g→g≠B
 bel:BW W u
theorem LB.new {W u u0:World} {L:List Ln} {ao:Option Addr} {cap:Nat} {ob:Option Nat} {K:World→Prop} {t:TypeId} (o:u.ownsRow u0.heap.size 113 3 (.slice ao L.length cap) L.length (Ag L)) (z0:ZB W u0 ob K) (z:ZB W u none K) :
  LB W L u.heap.size ao cap (u.alloc (.cells #[.slice ao L.length cap] t)):=by
 have b:Below u.heap.size u (u.alloc (.cells #[.slice ao L.length cap] t)):=by go_grown
 exact ⟨by simp,Bi (Av o b) z0.bel.size,z.bel.size,fun g hg=>by have:=(o.lt g hg).2;omega,next z.bel b⟩
theorem LB.set {W u u0:World} {L:List Ln} {B:Nat} {ao:Option Addr} {cap:Nat} {K:World→Prop} (o:u.ownsRow u0.heap.size 113 3 (.slice ao L.length cap) L.length (Ag L)) (z0:ZB W u0 (some B) K) (z:ZB W u (some B) K) :
  LB W L B ao cap (u.setCell ⟨B,0,none⟩ (.slice ao L.length cap)):=by
 obtain ⟨h1,h2,_,_⟩:=z0.box B rfl;obtain ⟨_,_,h3,_⟩:=z.box B rfl
 have hne:∀ g,(Value.slice ao L.length cap).ownBlock=some g→g≠B:=fun g hg=>by have:=(o.lt g hg).1;omega
 exact ⟨by simp [go_sem,h3],Bi (A5 o _ _ hne) z0.bel.size,h1,hne,z.bel.setCell h1 _⟩
def sY (W u:World) (ob:Option Nat) (K:World→Prop) (L:List Ln) (ok:Bool) (e:Ending) (u':World):Prop :=
 ∃ ao cap,e=.returned (.tuple #[.agg #[.slice ao L.length cap],.bool ok])∧u'.ownsRow u.heap.size 113 3 (.slice ao L.length cap) L.length (Ag L)∧ZB W u ob K∧ZB W u' ob K
theorem Xh {W u:World} {ob:Option Nat} {K:World→Prop} {f:FuncId} {args:Array Value} {L:List Ln} {ok:Bool} (z:ZB W u ob K) (h:Calls prog f args u (Jl u L ok)):Calls prog f args u (sY W u ob K L ok) :=
 h.mono fun _ _ ⟨ao,cap,he,ho,hb⟩=>⟨ao,cap,he,ho,z,z.call hb⟩
theorem ZB.now {W u:World} {ob:Option Nat} {K:World→Prop} (z:ZB W u ob K):K u:=z.kept u bR
theorem U3 (ao:Option Addr) (cap:Nat) (ls:List Ln) (eo:Option Addr) (ec:Nat) (es:List En) (w:World) (hz:Ai w ao ls) (hn:ls.length≤1048576) (hy:C8 w eo es) (hm:es.length≤1048576) :
  Calls prog 182 #[.agg #[.slice ao ls.length cap],.slice eo es.length ec] w (Jl w (Hv ls es) (allOk ls es)):=by
 obtain ⟨W,hW⟩:∃ W,W=(w.alloc (.cells #[.slice ao ls.length cap] 29)).alloc (.cells #[.slice none 0 0] 29):=⟨_,rfl⟩
 have bW:BW w W:=by rw [hW];go_grown
 have hWs:W.heap.size=w.heap.size+2:=by rw [hW];simp
 have l0:W.cell? ⟨w.heap.size,0,none⟩=some (.slice ao ls.length cap):=by rw [hW];simp [go_sem]
 have r0:W.cell? ⟨w.heap.size+1,0,none⟩=some (.slice none 0 0):=by rw [hW];simp [go_sem]
 have rf:W.frozen? ⟨w.heap.size+1,0,none⟩=false:=by rw [hW];simp [go_sem]
 have HL0:Hid _:=l0;have HR0:Hid _:=r0;have HRF:Hid _:=rf;have HZ:Hid (Ai w ao ls):=hz;have HY:Hid (C8 w eo es):=hy;have HBW:Hid (BW w W):=bW;have HWS:Hid _:=hWs;clear hz hy r0 rf bW hWs
 go_enter func182,ntmps182
 go_upto_region 1 with fail
 rw [← hW];clear hW;go_wp2_with fail
 refine (Hh ao cap ls W (HZ.o.below HBW.o) (by omega)).mono ?_
 rintro e w1 ⟨a1,k1,rfl,o1,b1⟩;have hws:=HWS.o
 have P1:PA w.heap.size w1.heap.size ao cap ls.length ls a1 k1 (w1.alloc (.cells #[.slice a1 ls.length k1] 29)):=Vv ((b1.cell (p:=⟨w.heap.size,0,none⟩) (by show w.heap.size<W.heap.size;omega)).trans HL0.o) ((b1.cell (p:=⟨w.heap.size+1,0,none⟩) (by show w.heap.size+1<W.heap.size;omega)).trans HR0.o) ((b1.frozen (p:=⟨w.heap.size+1,0,none⟩) (by show w.heap.size+1<W.heap.size;omega)).trans HRF.o) (Bi o1 (by omega))
 have q1:=next HBW.o b1;obtain ⟨V,hV⟩:∃ V,V=w1.alloc (.cells #[.slice a1 ls.length k1] 29):=⟨_,rfl⟩
 have qV:BW w V:=by rw [hV];exact q1.alloc q1.size _
 have HPV:Hid (PA w.heap.size w1.heap.size ao cap ls.length ls a1 k1 V):=by rw [Hid,hV];exact P1
 obtain ⟨B,hBe⟩:∃ B,B=w1.heap.size:=⟨_,rfl⟩;clear P1 q1 o1 b1 l0 hws;go_upto_region 2 with fail
 rw [← hV,← hBe];rw [← hBe] at HPV;clear hV hBe;go_wp2
 go_loopw [7] (fun i wr=>∃ (k:Nat) (uV:List Ln) (a2:Option Addr) (k2:Nat),k≤es.length∧i=.int .i64 k∧Ch ls es=Ch uV (es.drop k)∧PA w.heap.size B ao cap ls.length uV a2 k2 wr∧uV.length≤1048576∧BW w wr) (fun i _=>es.length - (intOf i).toNat)
 case atStart=>exact ⟨0,ls,a1,k1,Nat.zero_le _,rfl,rfl,HPV.o,hn,qV⟩
 case round =>
  obtain ⟨k,uV,a2,k2,hk,rfl,hps,hpa,hcl,hbr⟩:=hrel;have HPA:Hid (PA w.heap.size B ao cap ls.length uV a2 k2 wr):=hpa;have HPS:Hid (Ch ls es=Ch uV (es.drop k)):=hps;clear hpa hps HPV qV
  by_cases hlt:k<es.length
  ·have hki:(k:Int)<(es.length:Int):=by omega
   obtain ⟨b,off,rfl,hb2,y1,y2,y3,y4⟩:=(HY.o.below hbr).at hlt;have hst:=Rb uV es k hlt;obtain ⟨⟨a,a',c,m⟩,hx⟩:∃ x,I4 es k=x:=⟨_,rfl⟩;rw [hx] at y1 y2 y3 y4 hst
   simp only at y1 y2 y3 y4
   have HST:Hid _:=HPS.o.trans hst;have c6:=HPA.o.c6
   have HKP:Hid (∀ u,BW wr u→u.cell? ⟨B,0,none⟩=some (.slice a2 uV.length k2)∧u.cell? ⟨b,off+k*4,none⟩=some (.int .i64 a)∧u.cell? ⟨b,off+k*4+1,none⟩=some (.int .i64 a')∧u.cell? ⟨b,off+k*4+2,none⟩=some (.int .i64 c)∧u.cell? ⟨b,off+k*4+3,none⟩=some (.int .i64 m)):=fun u hu =>
    ⟨(HPA.o.below hu).c6,(hu.cell (p:=⟨b,off+k*4,none⟩) hb2).trans y1,(hu.cell (p:=⟨b,off+k*4+1,none⟩) hb2).trans y2,(hu.cell (p:=⟨b,off+k*4+2,none⟩) hb2).trans y3,(hu.cell (p:=⟨b,off+k*4+3,none⟩) hb2).trans y4⟩
   have HSP:Hid (∀ u,Ai u a2 uV→Calls prog 220 #[.agg #[.slice a2 uV.length k2],.agg #[.int .i64 a,.int .i64 a',.int .i64 c,.int .i64 m]] u (Jl u (Gg uV (a,a',c,m)) (Cj uV (a,a',c,m)))):=fun u h=>eE a2 k2 uV a a' c m u h hcl
   clear hst hx;go_upto_region 5 with fail
   have z:ZB wr wr none (fun v=>Ai v a2 uV):=ZB.start (fun v hv=>(Df HPA.o.own).below hv)
   obtain ⟨nx,hnx⟩:∃ nx,Gg uV (a,a',c,m)=nx:=⟨_,rfl⟩;obtain ⟨ok,hok⟩:∃ ok,Cj uV (a,a',c,m)=ok:=⟨_,rfl⟩;rw [hnx,hok] at HSP;have HNX:Hid _:=hnx;have HOK:Hid _:=hok;clear hnx hok
   go_cut [8,9] (fun v8 v9 wc=>∃ B8 a8 k8,v8=.pointer (some ⟨B8,0,none⟩)∧v9=.bool ok∧LB wr nx B8 a8 k8 wc)
   case first =>
    go_region_held3 (fun u=>u.cell? ⟨B,0,none⟩=some (.slice a2 uV.length k2)∧u.cell? ⟨b,off+k*4,none⟩=some (.int .i64 a)∧u.cell? ⟨b,off+k*4+1,none⟩=some (.int .i64 a')∧u.cell? ⟨b,off+k*4+2,none⟩=some (.int .i64 c)∧u.cell? ⟨b,off+k*4+3,none⟩=some (.int .i64 m)) (first | exact ⟨c6,y1,y2,y3,y4⟩ | exact HKP.o _ z.bel | exact HKP.o _ z.drew.bel | exact HKP.o _ (z.al _).bel | exact HKP.o _ (z.al _).drew.bel | exact HKP.o _ (z.drew.al _).bel | exact HKP.o _ (HF.o _).bel | exact HKP.o _ HF.o.bel) ((
     (go_at_call 220;(first | with_reducible refine (Xh z (HSP.o _ z.now)).mono ?_ | with_reducible refine (Xh z.drew (HSP.o _ z.drew.now)).mono ?_ | with_reducible refine (Xh (z.al _) (HSP.o _ (z.al _).now)).mono ?_ | with_reducible refine (Xh (z.al _).drew (HSP.o _ (z.al _).drew.now)).mono ?_ | with_reducible refine (Xh (z.drew.al _) (HSP.o _ (z.drew.al _).now)).mono ?_);rintro e v3 ⟨a3,k3,rfl,o3,z0,z⟩;(first | (have HF:Hid (∀ t,LB wr nx v3.heap.size a3 k3 (v3.alloc (.cells #[.slice a3 nx.length k3] t))):=(fun t=>LB.new o3 z0 z)) | (have HF:Hid _:=LB.set o3 z0 z;obtain ⟨_,_,n0,n1⟩:=z.box _ rfl));clear o3 z0)))
    all_goals
     go_wp2_with fail
     go_meet
     first
      | exact ⟨_,_,_,rfl,rfl,HF.o _⟩
      | exact ⟨_,_,_,rfl,rfl,HF.o⟩
   obtain ⟨B8,a3,k3,rfl,rfl,P8⟩:=hcut;obtain ⟨w2,hu⟩:∃ x,x=wc:=⟨_,rfl⟩;subst hu;have P3:=HPA.o.below P8.bel;have d6:=P3.c6;have f6:=P3.f6;have c8:=P8.c0;have q3:=next hbr P8.bel;have hBw:B<wr.heap.size:=World.block_lt_of_cell? wr _ HPA.o.c6;have HP4:Hid (PA w.heap.size B ao cap ls.length nx a3 k3 (w2.setCell ⟨B,0,none⟩ (.slice a3 nx.length k3))):=P3.put P8.own hBw;have hBs:=HPA.o.hB
   have q4:Below w.heap.size w (w2.setCell ⟨B,0,none⟩ (.slice a3 nx.length k3)):=q3.setCell (by show w.heap.size≤B;omega) _
   have HP3:Hid (PA w.heap.size B ao cap ls.length uV a2 k2 w2):=P3;clear P3 P8 hBw hBs z c6 y1 y2 y3 y4 HKP HSP hbr;have hok:=HOK.o
   cases ok
   ·rw [hok] at HST
    have HNO:Hid (Ch ls es=none):=HST.o;clear HST hok;have l4:=HP3.o.l0;have HZX:Hid (Ai w2 ao ls):=HZ.o.below q3;clear d6 f6 q4 HP4 c8;go_wp2_with fail
    refine (Hh ao cap ls w2 HZX.o (by omega)).mono ?_
    rintro e w5 ⟨a5,k5,rfl,o5,b5⟩;have P5:=HP3.o.below b5;have r5:=P5.r0;have rf5:=P5.rf
    have HE:Hid (Jl w (Hv ls es) (allOk ls es) (.returned (.tuple #[.agg #[.slice a5 ls.length k5],.bool false])) (w5.setCell ⟨w.heap.size+1,0,none⟩ (.slice a5 ls.length k5))):=by
     have h1:allOk ls es=false:=by unfold allOk;rw [HNO.o];rfl
     have h2:Hv ls es=ls:=by unfold Hv;rw [HNO.o];rfl
     rw [Hid,h1];exact Pq (w:=w) h2 o5 (World.block_lt_of_cell? w2 _ HP3.o.r0) (next q3 b5)
    clear o5 b5 P5 l4;go_wp2
    refine bodyPost_ret (by simp [results,results182,go_sem,r5];try rfl) rfl ?_
    exact HE.o
   ·have hpo:=N1 hok
    rw [hok] at HST;rw [HNX.o] at hpo
    have HN:Hid (Ch ls es=Ch nx (es.drop (k+1))):=by rw [Hid,HST.o,hpo.1];rfl
    have HB2:Hid (nx.length≤1048576):=by
     rw [hpo.1,Hid]
     have:=(Dq hpo.2).2.1;omega
    clear HST hok hpo HNX HOK HP3 q3;go_wp2
    go_roundw
    case rel=>exact ⟨k+1,nx,a3,k3,by omega,by go_num,HN.o,HP4.o,HB2.o,q4⟩
    case measure=>simp [intOf];omega
  ·have hke:k=es.length:=by omega
   subst hke
   have hki:¬ (es.length:Int)<(es.length:Int):=by omega
   have hsome:Ch ls es=some uV:=by rw [HPS.o,Te]
   have c6:=HPA.o.c6;have r0:=HPA.o.r0;have rf:=HPA.o.rf
   have HE:Hid (Jl w (Hv ls es) (allOk ls es) (.returned (.tuple #[.agg #[.slice a2 uV.length k2],.bool true])) (wr.setCell ⟨w.heap.size+1,0,none⟩ (.slice a2 uV.length k2))):=by
    have h1:allOk ls es=true:=by unfold allOk;rw [hsome];rfl
    have h2:Hv ls es=uV:=by unfold Hv;rw [hsome];rfl
    rw [Hid,h1]
    exact Pq (w:=w) h2 HPA.o.own (by omega) hbr
   clear hsome HPS;go_wp2
   refine bodyPost_ret (by simp [results,results182,go_sem,r0];try rfl) rfl ?_
   exact HE.o
structure FrB (q:Bp) (n:Nat):Prop where
 o:Cm q.o n
 a:Cm q.a n
 c:Cm q.c n
 l:Cm q.l n
 g:Cm q.g n
theorem Ey {a:Option Addr} {n m:Nat} (h:Cm a n) (hm:m≤n):Cm a m:=fun x hx=>by have:=h x hx;omega
theorem U7 {a a1:Option Addr} {n m:Nat} (h:a=a1∨Cm a n) (h1:Cm a1 m) (hm:m≤n):Cm a m:=by
 rcases h with rfl | h
 ·exact h1
 ·exact Ey h hm
def BoF (Rel:Bk→List UInt8→Bk×Int→Prop) (b:Bk) (line:List UInt8) (w:World) (e:Ending) (w':World):Prop :=
 ∃ r q,Fg Rel b line r∧e=.returned (.tuple #[C5 r.1 q,.int .i64 r.2])∧Aq w' r.1 q∧BW w w'∧FrB q w.heap.size
theorem T5 {Pre:Bk→Prop} {Rel:Bk→List UInt8→Bk×Int→Prop} (D:cB Pre Rel) (b:Bk) (p:Bp) (line:List UInt8) (w:World) (hx:Aq w b p) (hp:Pre b) (hl:line.length≤1048575) :
  Calls prog 31 #[C5 b p,.string ⟨line.toArray⟩] w (BoF Rel b line w):=by
 have hn:=D.small b hp;have HPRE:Hid (Pre b):=hp;clear hp
 have HX:Hid (∀ u,BW w u→Aq u b p):=fun u h=>hx.below h
 have HN:Hid (D0 b):=hn
 have HCP:Hid (∀ u,BW w u→Calls prog 71 #[C5 b p] u (CpR u b)):=fun u h=>Oq b p u (hx.below h) hn
 clear hx hn;obtain ⟨td,fo,az,cs,ls,lg⟩:=b;obtain ⟨o,oc,a,ac,c,cc,l,lc,g,gc⟩:=p;unfold C5 at HCP ⊢
 simp only at HCP ⊢
 obtain ⟨u0,hu0⟩:∃ u,u=((w.alloc (.cells #[.int .i64 td,.slice o fo.length oc,.slice a az.length ac,.slice c cs.length cc,.slice l ls.length lc,.slice g lg.length gc] 31))).alloc (.cells qzB 31):=⟨_,rfl⟩
 have HB0:Hid (BW w u0):=by rw [Hid,hu0];go_grown
 have HS0:Hid ((w.heap.size+1)<u0.heap.size):=by rw [Hid,hu0];simp
 have HZ0:Hid (Z6 w.heap.size (.int .i64 td) (.slice o fo.length oc) (.slice a az.length ac) (.slice c cs.length cc) (.slice l ls.length lc) (.slice g lg.length gc) u0):=by
  rw [Hid,hu0];exact ((Z6.new w (.int .i64 td) (.slice o fo.length oc) (.slice a az.length ac) (.slice c cs.length cc) (.slice l ls.length lc) (.slice g lg.length gc) 31)).below (bR.alloc nL _)
 have HR0:Hid (Z6 (w.heap.size+1) (.int .i64 0) (.slice none 0 0) (.slice none 0 0) (.slice none 0 0) (.slice none 0 0) (.slice none 0 0) u0):=by
  have h:=Z6.new ((w.alloc (.cells #[.int .i64 td,.slice o fo.length oc,.slice a az.length ac,.slice c cs.length cc,.slice l ls.length lc,.slice g lg.length gc] 31))) (.int .i64 0) (.slice none 0 0) (.slice none 0 0) (.slice none 0 0) (.slice none 0 0) (.slice none 0 0) 31
  rw [Hid,hu0];simpa using h
 have HU0:Hid _:=hu0;clear hu0
 go_enter func31,ntmps31
 go_upto_region 1 with fail
 rw [← HU0.o];clear HU0
 have hcn:lg.length≤1048576:=by have:=HN.o.2.2.2.2;simpa using this
 obtain ⟨t0,t1,t2,t3,t4,t5,s0,s1,s2,s3,s4,s5⟩:=HZ0.o;obtain ⟨q0,q1,q2,q3,q4,q5,p0,p1,p2,p3,p4,p5⟩:=HR0.o;go_wp2_with fail
 refine Calls.mono (HCP.o _ HB0.o) ?_;rintro e u1 ⟨⟨q1,base,rfl,hb1,ho1,hbs,hbz,hah,hfr⟩,b1⟩;obtain ⟨o1,oc1,a1,ac1,c1,cc1,l1,lc1,g1,gc1⟩:=q1;unfold C5
 simp only at ho1 hah hfr ⊢
 have HZ1:Hid _:=HZ0.o.below b1;have HR1:Hid _:=HR0.o.below b1;have HB1:Hid (BW w u1):=next HB0.o b1;have HK1:Hid (Aq u1 ⟨td,fo,az,cs,ls,lg⟩ ⟨o1,oc1,a1,ac1,c1,cc1,l1,lc1,g1,gc1⟩):=hb1;have HO1:Hid (u1.ownsRow base 9 1 (.slice g1 lg.length gc1) lg.length (Am lg)):=ho1;have hs0:=HS0.o
 have HOB:Hid (Wq ⟨o1,oc1,a1,ac1,c1,cc1,l1,lc1,g1,gc1⟩ w.heap.size):=⟨Bb hfr.1 (by omega),Bb hfr.2.1 (by omega),Bb hfr.2.2.1 (by omega),Bb hfr.2.2.2.1 (by omega),Bb hfr.2.2.2.2 (by omega)⟩
 have HOR:Hid (Wq ⟨o1,oc1,a1,ac1,c1,cc1,l1,lc1,g1,gc1⟩ (w.heap.size+1)):=⟨Bb hfr.1 hs0,Bb hfr.2.1 hs0,Bb hfr.2.2.1 hs0,Bb hfr.2.2.2.1 hs0,Bb hfr.2.2.2.2 hs0⟩;have HAH:Hid (Dt o1 base∧Dt a1 base∧Dt c1 base∧Dt l1 base):=hah
 have HFR:Hid (FrB ⟨o1,oc1,a1,ac1,c1,cc1,l1,lc1,g1,gc1⟩ w.heap.size):=⟨Ey hfr.1 (by omega),Ey hfr.2.1 (by omega),Ey hfr.2.2.1 (by omega),Ey hfr.2.2.2.1 (by omega),Ey hfr.2.2.2.2 (by omega)⟩
 have HBS:Hid (w.heap.size+1<base∧base≤u1.heap.size):=⟨by omega,hbz⟩
 clear t0 t1 t2 t3 t4 t5 s0 s1 s2 s3 s4 s5 q0 q1 q2 q3 q4 q5 p0 p1 p2 p3 p4 p5 HZ0 HR0 HB0 HS0 HCP b1 hb1 ho1 hah hfr hbs hbz hs0;obtain ⟨t0,t1,t2,t3,t4,t5,s0,s1,s2,s3,s4,s5⟩:=HZ1.o;obtain ⟨q0,q1,q2,q3,q4,q5,p0,p1,p2,p3,p4,p5⟩:=HR1.o;go_upto_region 2 with fail
 obtain ⟨u2,hu2⟩:∃ u,u=(((((u1.setCell ⟨w.heap.size,0,none⟩ (.int .i64 td)).setCell ⟨w.heap.size,1,none⟩ (.slice o1 fo.length oc1)).setCell ⟨w.heap.size,2,none⟩ (.slice a1 az.length ac1)).setCell ⟨w.heap.size,3,none⟩ (.slice c1 cs.length cc1)).setCell ⟨w.heap.size,4,none⟩ (.slice l1 ls.length lc1)).setCell ⟨w.heap.size,5,none⟩ (.slice g1 lg.length gc1):=⟨_,rfl⟩
 have HZ2:Hid (Z6 w.heap.size (.int .i64 td) (.slice o1 fo.length oc1) (.slice a1 az.length ac1) (.slice c1 cs.length cc1) (.slice l1 ls.length lc1) (.slice g1 lg.length gc1) u2):=by rw [Hid,hu2];exact HZ1.o.put6 _ _ _ _ _ _
 have HR2:Hid (Z6 (w.heap.size+1) (.int .i64 0) (.slice none 0 0) (.slice none 0 0) (.slice none 0 0) (.slice none 0 0) (.slice none 0 0) u2):=by rw [Hid,hu2];exact HR1.o.far6 (by omega) _ _ _ _ _ _
 have HB2:Hid (BW w u2):=by rw [Hid,hu2];exact Ax nL HB1.o _ _ _ _ _ _
 have HK2:Hid (Aq u2 ⟨td,fo,az,cs,ls,lg⟩ ⟨o1,oc1,a1,ac1,c1,cc1,l1,lc1,g1,gc1⟩):=by rw [Hid,hu2];exact HK1.o.put6 HOB.o _ _ _ _ _ _
 have HO2:Hid (u2.ownsRow base 9 1 (.slice g1 lg.length gc1) lg.length (Am lg)):=by rw [Hid,hu2];exact Ea HO1.o (by have:=HBS.o;omega) _ _ _ _ _ _
 have HB2S:Hid (w.heap.size+1<base∧base≤u2.heap.size):=by rw [Hid,hu2];simpa using HBS.o
 rw [← hu2];clear hu2 HZ1 HR1 HB1 HK1 HO1 HBS t0 t1 t2 t3 t4 t5 s0 s1 s2 s3 s4 s5 q0 q1 q2 q3 q4 q5 p0 p1 p2 p3 p4 p5;obtain ⟨t0,t1,t2,t3,t4,t5,s0,s1,s2,s3,s4,s5⟩:=HZ2.o;obtain ⟨q0,q1,q2,q3,q4,q5,p0,p1,p2,p3,p4,p5⟩:=HR2.o
 by_cases hfull:600≤lg.length
 ·have hf':(600:Int)≤(lg.length:Int):=by omega
  go_wp2
  refine bodyPost_ret (by simp [results,results31,go_sem,q0,q1,q2,q3,q4,q5];try rfl) rfl ?_
  exact ⟨(⟨td,fo,az,cs,ls,lg⟩,2),⟨o1,oc1,a1,ac1,c1,cc1,l1,lc1,g1,gc1⟩,.inl ⟨hfull,rfl⟩,rfl,HK2.o.put6 HOR.o _ _ _ _ _ _,Ax (by omega) HB2.o _ _ _ _ _ _,HFR.o⟩
 have hf':¬ (600:Int)≤(lg.length:Int):=by omega
 have HAB:Vb ⟨o1,oc1,a1,ac1,c1,cc1,l1,lc1,g1,gc1⟩ u2.heap.size:=⟨HAH.o.1.mono HB2S.o.2,HAH.o.2.1.mono HB2S.o.2,HAH.o.2.2.1.mono HB2S.o.2,HAH.o.2.2.2.mono HB2S.o.2,G8 HO2.o nL⟩;have HD:Hid _:=D.calls ⟨td,fo,az,cs,ls,lg⟩ ⟨o1,oc1,a1,ac1,c1,cc1,l1,lc1,g1,gc1⟩ line u2 HK2.o HAB HPRE.o hl;clear HAB;have HLOG:Hid _:=D.log ⟨td,fo,az,cs,ls,lg⟩ line;unfold C5 at HD
 simp only at HD
 go_wp2_with fail
 refine Calls.mono HD.o ?_;rintro e u3 ⟨⟨⟨td2,fo2,az2,cs2,ls2,lg2⟩,code⟩,hrel,q2,rfl,hb3,hg3,hgc3,hpt,b3⟩;obtain ⟨o2,oc2,a2,ac2,c2,cc2,l2,lc2,g2,gc2⟩:=q2
 simp only at hg3 hgc3 hpt hrel hb3
 obtain rfl:lg2=lg:=HLOG.o _ hrel;subst hg3;subst hgc3;unfold C5
 simp only
 have HREL:Hid _:=hrel;have HK3:Hid _:=hb3;have HPT:Hid _:=hpt;obtain ⟨V,hV⟩:∃ V,V=u3.alloc (.cells #[.int .i64 td2,.slice o2 fo2.length oc2,.slice a2 az2.length ac2,.slice c2 cs2.length cc2,.slice l2 ls2.length lc2,.slice g2 lg2.length gc2] 31):=⟨_,rfl⟩
 have bV:BW u3 V:=by rw [hV];exact bR.alloc nL _
 have HT:Hid (Z6 u3.heap.size (.int .i64 td2) (.slice o2 fo2.length oc2) (.slice a2 az2.length ac2) (.slice c2 cs2.length cc2) (.slice l2 ls2.length lc2) (.slice g2 lg2.length gc2) V):=by rw [Hid,hV];exact Z6.new u3 (.int .i64 td2) (.slice o2 fo2.length oc2) (.slice a2 az2.length ac2) (.slice c2 cs2.length cc2) (.slice l2 ls2.length lc2) (.slice g2 lg2.length gc2) 31
 have HTO:Hid (∃ uV,V.heap[u3.heap.size]?=some (.cells uV 31)):=by rw [Hid,hV];exact ⟨_,heap_alloc_new u3 _⟩
 have b23:=next b3 bV;have HZ3:Hid (Z6 w.heap.size (.int .i64 td) (.slice o1 fo.length oc1) (.slice a1 az.length ac1) (.slice c1 cs.length cc1) (.slice l1 ls.length lc1) (.slice g2 lg2.length gc2) V):=HZ2.o.below b23;have HR3:Hid (Z6 (w.heap.size+1) (.int .i64 0) (.slice none 0 0) (.slice none 0 0) (.slice none 0 0) (.slice none 0 0) (.slice none 0 0) V):=HR2.o.below b23;have HB3:Hid (BW w V):=next HB2.o b23;have HKB:Hid (Aq V ⟨td,fo,az,cs,ls,lg2⟩ ⟨o1,oc1,a1,ac1,c1,cc1,l1,lc1,g2,gc2⟩):=HK2.o.below b23;have HO3:Hid (V.ownsRow base 9 1 (.slice g2 lg2.length gc2) lg2.length (Am lg2)):=Av HO2.o b23
 have HLB:Hid (∀ B,(Value.slice g2 lg2.length gc2).ownBlock=some B→base≤B∧B<u2.heap.size):=fun B h=>HO2.o.lt B h
 have HG3:Hid (∀ row,u3.grownBy V row):=fun row=>by rw [hV];exact World.grownBy_alloc u3 _ row
 have HS3:Hid (w.heap.size+1<base∧base≤u2.heap.size∧u2.heap.size≤u3.heap.size∧u3.heap.size<V.heap.size):=⟨HB2S.o.1,HB2S.o.2,b3.size,HT.o.lt⟩;have HV:Hid _:=hV;clear hV bV b3 b23 hb3 hpt hrel HZ2 HR2 HB2 HK2 HO2 HB2S HD t0 t1 t2 t3 t4 t5 s0 s1 s2 s3 s4 s5 q0 q1 q2 q3 q4 q5 p0 p1 p2 p3 p4 p5;go_upto_region 5 with fail
 rw [← HV.o];clear HV
 by_cases hcode:code=0
 case neg =>
  have hcb:(code != 0)=true:=by simpa using hcode
  obtain ⟨t0,t1,t2,t3,t4,t5,s0,s1,s2,s3,s4,s5⟩:=HZ3.o;obtain ⟨q0,q1,q2,q3,q4,q5,p0,p1,p2,p3,p4,p5⟩:=HR3.o;go_wp2
  refine bodyPost_ret (by simp [results,results31,go_sem,q0,q1,q2,q3,q4,q5];try rfl) rfl ?_
  exact ⟨(⟨td,fo,az,cs,ls,lg2⟩,code),⟨o1,oc1,a1,ac1,c1,cc1,l1,lc1,g2,gc2⟩,.inr ⟨by show lg2.length<600;omega,_,HREL.o,.inl ⟨hcode,rfl⟩⟩,rfl,HKB.o.put6 HOR.o _ _ _ _ _ _,Ax (by omega) HB3.o _ _ _ _ _ _,HFR.o⟩
 subst hcode;obtain ⟨i0,hi,hz0,hz1,hz2⟩:=info_parts S1;have t5:=(HT.o.below (bR.alloc nL (.cells #[.string ⟨line.toArray⟩] 9))).c5;have t5':=HT.o.c5;obtain ⟨LL,hLL⟩:∃ L,lg2++[line]=L:=⟨_,rfl⟩;have HEQ:Hid (lg2++[line]=LL):=hLL;clear hLL
 have HP:Hid (∀ v5 w5,w5.ownsRow base 9 1 v5 (lg2.length+1) (Am lg2++[.string ⟨line.toArray⟩])→(V.alloc (.cells #[.string ⟨line.toArray⟩] 9)).grownBy w5 (Value.slice g2 lg2.length gc2).ownBlock →
   ∃ a5 k5,v5=.slice a5 LL.length k5∧w5.ownsRow base 9 1 (.slice a5 LL.length k5) LL.length (Am LL)∧Z6 u3.heap.size (.int .i64 td2) (.slice o2 fo2.length oc2) (.slice a2 az2.length ac2) (.slice c2 cs2.length cc2) (.slice l2 ls2.length lc2) (.slice g2 lg2.length gc2) w5∧Z6 (w.heap.size+1) (.int .i64 0) (.slice none 0 0) (.slice none 0 0) (.slice none 0 0) (.slice none 0 0) (.slice none 0 0) w5∧u3.grownBy w5 (Value.slice g2 lg2.length gc2).ownBlock∧BW w w5∧Im a5 u3.heap.size):=by
  intro v5 w5 o5 g5;have hs3:=HS3.o
  have hne:some u3.heap.size≠(Value.slice g2 lg2.length gc2).ownBlock:=fun e=>by have:=HLB.o _ e.symm;omega
  have hneR:some (w.heap.size+1)≠(Value.slice g2 lg2.length gc2).ownBlock:=fun e=>by have:=HLB.o _ e.symm;omega
  have ga:=World.grownBy_alloc V (.cells #[.string ⟨line.toArray⟩] 9) (Value.slice g2 lg2.length gc2).ownBlock;have gv:=ga.trans g5
  have e1:lg2.length+1=LL.length:=by rw [← HEQ.o];simp
  have e2:Am lg2++[.string ⟨line.toArray⟩]=Am LL:=by rw [← HEQ.o,F6];rfl
  rw [e1,e2] at o5;obtain ⟨a5,k5,hv⟩:=Hb o5;subst hv
  refine ⟨a5,k5,rfl,o5,HT.o.grown gv hne,HR3.o.grown gv hneR,(HG3.o _).trans gv,HB3.o.grown gv HB3.o.size (fun B hB=>by have:=HLB.o B hB;omega),?_⟩
  intro x hx e;subst hx;obtain ⟨uV,hcur⟩:=HTO.o;have hT:w5.heap[u3.heap.size]?=some (.cells uV 31):=(gv.block _ hs3.2.2.2 hne).trans hcur
  rcases o5.2 with ⟨h,_⟩ | ⟨g,cap,cr,h,_,hg,_⟩
  ·cases h
  ·have hxg:x.block=g:=by
     injection h with h _ _
     injection h with h
     rw [h]
   rw [← hxg,e,hT] at hg
   injection hg with hg
   injection hg with _ h2
   exact absurd h2 (by decide)
 have HOA:Hid ((V.alloc (.cells #[.string ⟨line.toArray⟩] 9)).ownsRow base 9 1 (.slice g2 lg2.length gc2) lg2.length (Am lg2)):=HO3.o.alloc _
 go_upto_region 8 with (at_builtin;refine wpList_append_own _ rfl (.tmp 26) (.tmp 28) 23 rfl base 9 i0 (.string ⟨#[]⟩) 1 16 underlying23 hi hz0 hz1 hz2 rfl (by decide) _ _ _ rfl HOA.o ⟨V.heap.size,0,none⟩ 1 1 [.string ⟨line.toArray⟩] rfl rfl (World.news_of_block (heap_alloc_new V _)) (Rf _) (by unfold maxLen;omega) (by omega) (by have:=HS3.o;simp;omega) ?_;intro v5 w5 o5 g5 _;obtain ⟨a5,k5,hv5,o6,zt,zr,gg,bb,hoff⟩:=HP.o v5 w5 o5 g5;subst hv5;have y5:=zt.c5;have f5:=zt.z5;have HO6:Hid _:=o6;have HZT:Hid _:=zt;have HZR:Hid _:=zr;have HGG:Hid _:=gg;have HBB:Hid _:=bb;have HOF:Hid _:=hoff;clear o5 g5 o6 zt zr gg bb hoff)
 obtain ⟨u6,hu6⟩:∃ u,u=w5.setCell ⟨u3.heap.size,5,none⟩ (.slice a5 LL.length k5):=⟨_,rfl⟩;have hs3:=HS3.o
 have HT6:Hid (Z6 u3.heap.size (.int .i64 td2) (.slice o2 fo2.length oc2) (.slice a2 az2.length ac2) (.slice c2 cs2.length cc2) (.slice l2 ls2.length lc2) (.slice a5 LL.length k5) u6):=by rw [Hid,hu6];exact HZT.o.set5 _
 have HR6:Hid (Z6 (w.heap.size+1) (.int .i64 0) (.slice none 0 0) (.slice none 0 0) (.slice none 0 0) (.slice none 0 0) (.slice none 0 0) u6):=by rw [Hid,hu6];exact HZR.o.far (by omega)
 have HB6:Hid (BW w u6):=by rw [Hid,hu6];exact HBB.o.setCell (show w.heap.size≤u3.heap.size by omega) _
 have HG6:Hid (u3.grownBy u6 (Value.slice g2 lg2.length gc2).ownBlock):=by rw [Hid,hu6];exact aC HGG.o nL
 have HL6:Hid (u6.ownsRow base 9 1 (.slice a5 LL.length k5) LL.length (Am LL)):=by
  rw [Hid,hu6];refine World.ownsRow.kept HO6.o (An _ _ _ _) ?_
  by_cases e:(Value.slice a5 LL.length k5).ownBlock=none
  ·exact .inl e
  ·refine .inr fun e2=>?_
   cases a5 with
   | none=>simp [Value.ownBlock] at e
   | some x =>
    have hx:x.block=u3.heap.size:=by simpa [Value.ownBlock] using e2
    exact HOF.o x rfl hx
 rw [← hu6];clear hu6 HZT HZR HBB HGG HO6 HOF HOA HP y5 f5 t5 t5' HT HTO HZ3 HR3 HB3 HKB HO3;obtain ⟨t0,t1,t2,t3,t4,t5,-,-,-,-,-,-⟩:=HT6.o;obtain ⟨q0,q1,q2,q3,q4,q5,p0,p1,p2,p3,p4,p5⟩:=HR6.o;go_wp2
 refine bodyPost_ret (by simp [results,results31,go_sem,q0,q1,q2,q3,q4,q5];try rfl) rfl ?_
 obtain ⟨pe,pa,pc,pl⟩:=HPT.o;have hK:=HK3.o;have hah:=HAH.o;have hor:=HOR.o;have hgg:=HG6.o;have hlb:=HLB.o
 have HF:Aq u6 ⟨td2,fo2,az2,cs2,ls2,LL⟩ ⟨o2,oc2,a2,ac2,c2,cc2,l2,lc2,a5,k5⟩ :=
  ⟨hK.off.far hgg (fun B e=>Mz (.inl pe) hah.1 (hlb B e).1 (hlb B e).2),hK.az.far hgg (fun B e=>Mz pa hah.2.1 (hlb B e).1 (hlb B e).2),hK.cs.far hgg (fun B e=>Mz pc hah.2.2.1 (hlb B e).1 (hlb B e).2),hK.ls.far hgg (fun B e=>Mz pl hah.2.2.2 (hlb B e).1 (hlb B e).2),Ep HL6.o⟩
 have HQ:Wq ⟨o2,oc2,a2,ac2,c2,cc2,l2,lc2,a5,k5⟩ (w.heap.size+1) :=
  ⟨Ky (n:=u2.heap.size) (.inl pe) hor.o (by omega),Ky pa hor.a (by omega),Ky pc hor.c (by omega),Ky pl hor.l (by omega),Bb (Cw HL6.o) (by omega)⟩
 refine ⟨(⟨td2,fo2,az2,cs2,ls2,LL⟩,0),⟨o2,oc2,a2,ac2,c2,cc2,l2,lc2,a5,k5⟩,.inr ⟨by show lg2.length<600;omega,_,HREL.o,.inr ⟨rfl,by rw [← HEQ.o]⟩⟩,rfl,HF.put6 HQ _ _ _ _ _ _,Ax (by omega) HB6.o _ _ _ _ _ _,?_⟩
 have hfr:=HFR.o
 exact ⟨pe ▸ hfr.o,U7 pa hfr.a (by omega),U7 pc hfr.c (by omega),U7 pl hfr.l (by omega),Ey (Cw HL6.o) (by omega)⟩
structure AB (h:Nat) (a:Ac) (u:World):Prop where
 c0:u.cell? ⟨h,0,none⟩=some (.int .i64 a.kind)
 c1:u.cell? ⟨h,1,none⟩=some (.int .i64 a.am)
 c2:u.cell? ⟨h,2,none⟩=some (.int .i64 a.rsn)
 z0:u.frozen? ⟨h,0,none⟩=false
 z1:u.frozen? ⟨h,1,none⟩=false
 z2:u.frozen? ⟨h,2,none⟩=false
theorem AB.lt {h:Nat} {a:Ac} {u:World} (x:AB h a u):h<u.heap.size:=World.block_lt_of_cell? u _ x.c0
theorem AB.grown {h:Nat} {a:Ac} {u u':World} {row:Option Nat} (x:AB h a u) (g:u.grownBy u' row) (hr:some h≠row):AB h a u':=by
 have l:=x.lt;exact ⟨(g.cell_far ⟨h,0,none⟩ l hr).trans x.c0,(g.cell_far ⟨h,1,none⟩ l hr).trans x.c1,(g.cell_far ⟨h,2,none⟩ l hr).trans x.c2,(g.frozen_far ⟨h,0,none⟩ l hr).trans x.z0,(g.frozen_far ⟨h,1,none⟩ l hr).trans x.z1,(g.frozen_far ⟨h,2,none⟩ l hr).trans x.z2⟩
theorem AB.new (w:World) (a:Ac) (t:TypeId):AB w.heap.size a (w.alloc (.cells #[.int .i64 a.kind,.int .i64 a.am,.int .i64 a.rsn] t)) :=
 ⟨by simp,by simp,by simp,by simp [go_sem],by simp [go_sem],by simp [go_sem]⟩
theorem AB.set0 {h:Nat} {a:Ac} {u:World} (q:AB h a u) (x:Int):AB h ⟨x,a.am,a.rsn⟩ (u.setCell ⟨h,0,none⟩ (.int .i64 x)):=by
 obtain ⟨c0,c1,c2,z0,z1,z2⟩:=q
 constructor<;>simp [go_sem, *]
theorem AB.set1 {h:Nat} {a:Ac} {u:World} (q:AB h a u) (x:Int):AB h ⟨a.kind,x,a.rsn⟩ (u.setCell ⟨h,1,none⟩ (.int .i64 x)):=by
 obtain ⟨c0,c1,c2,z0,z1,z2⟩:=q
 constructor<;>simp [go_sem, *]
theorem AB.set2 {h:Nat} {a:Ac} {u:World} (q:AB h a u) (x:Int):AB h ⟨a.kind,a.am,x⟩ (u.setCell ⟨h,2,none⟩ (.int .i64 x)):=by
 obtain ⟨c0,c1,c2,z0,z1,z2⟩:=q
 constructor<;>simp [go_sem, *]
structure AS (B g:Nat) (w:World) (k:Cs) (h:Nat) (a:Ac) (u:World):Prop where
 cb:CB w.heap.size 0 k u
 rb:AB (w.heap.size+1) ⟨0,0,0⟩ u
 ab:AB h a u
 cur:A2 B u g
 gr:w.grownBy u (some g)
 gl:g<w.heap.size
 hl:w.heap.size+1<h
 bl:B≤w.heap.size
theorem AS.call {B g:Nat} {w:World} {k:Cs} {h:Nat} {a:Ac} {u u':World} (q:AS B g w k h a u) (c:A2 B u' g) (r:u.grownBy u' (some g)):AS B g w k h a u' :=
 ⟨q.cb.grown r (by have:=q.gl;simp;omega),q.rb.grown r (by have:=q.gl;simp;omega),q.ab.grown r (by have:=q.gl;have:=q.hl;simp;omega),c,q.gr.trans r,q.gl,q.hl,q.bl⟩
theorem AS.alloc {B g:Nat} {w:World} {k:Cs} {h:Nat} {a:Ac} {u:World} (q:AS B g w k h a u) (o:Obj):AS B g w k h a (u.alloc o) :=
 q.call (A3 q.cur o) (World.grownBy_alloc u o _)
theorem AS.at {B g:Nat} {w:World} {k:Cs} {h:Nat} {a a':Ac} {u:World} (q:AS B g w k h a u) (i:Nat) (x:Value) (e:AB h a' (u.setCell ⟨h,i,none⟩ x)):AS B g w k h a' (u.setCell ⟨h,i,none⟩ x):=by
 have l:=q.hl;have gl:=q.gl;have b:Below h u (u.setCell ⟨h,i,none⟩ x):=Bn u h i x
 refine ⟨q.cb.under b (by omega),?_,e,B9 q.cur (b.mono (by have:=q.bl;omega)),⟨b.os.trans q.gr.os,b.tape.trans q.gr.tape,b.output.trans q.gr.output,Nat.le_trans q.gr.size b.size,fun j hj hne=>(b.block j (by omega)).trans (q.gr.block j hj hne)⟩,gl,l,q.bl⟩
 ·obtain ⟨c0,c1,c2,z0,z1,z2⟩:=q.rb
  exact ⟨(b.cell (p:=⟨w.heap.size+1,0,none⟩) l).trans c0,(b.cell (p:=⟨w.heap.size+1,1,none⟩) l).trans c1,(b.cell (p:=⟨w.heap.size+1,2,none⟩) l).trans c2,(b.frozen (p:=⟨w.heap.size+1,0,none⟩) l).trans z0,(b.frozen (p:=⟨w.heap.size+1,1,none⟩) l).trans z1,(b.frozen (p:=⟨w.heap.size+1,2,none⟩) l).trans z2⟩
structure AZ (B g:Nat) (w:World) (k:Cs) (u:World) (ob ol:Option Nat):Prop where
 cb:CB w.heap.size 0 k u
 rb:AB (w.heap.size+1) ⟨0,0,0⟩ u
 cur:A2 B u g
 gr:w.grownBy u (some g)
 gl:g<w.heap.size
 bl:B≤w.heap.size
 box:∀ h,ob=some h→w.heap.size+1<h∧AB h ⟨0,0,0⟩ u
 ls:∀ b,ol=some b→w.heap.size+1<b∧∀ i,i<6→u.cell? ⟨b,i,none⟩=some (.int .i64 (rL.getD i 0))
theorem AZ.call {B g:Nat} {w:World} {k:Cs} {u u':World} {ob ol:Option Nat} (q:AZ B g w k u ob ol) (c:A2 B u' g) (r:u.grownBy u' (some g)):AZ B g w k u' ob ol:=by
 have gl:=q.gl
 refine ⟨q.cb.grown r (by simp;omega),q.rb.grown r (by simp;omega),c,q.gr.trans r,gl,q.bl,fun h hh=>?_,fun b hb=>?_⟩
 ·obtain ⟨h1,h2⟩:=q.box h hh
  exact ⟨h1,h2.grown r (by simp;omega)⟩
 ·obtain ⟨h1,h2⟩:=q.ls b hb
  exact ⟨h1,fun i hi=>(r.cell_far ⟨b,i,none⟩ (World.block_lt_of_cell? u _ (h2 i hi)) (by simp;omega)).trans (h2 i hi)⟩
theorem AZ.drew {B g:Nat} {w:World} {k:Cs} {u:World} {ob ol:Option Nat} (q:AZ B g w k u ob ol):AZ B g w k u.drew ob ol:=q.call (A4 q.cur (bR.drew)) ⟨rfl,rfl,rfl,nL,fun _ _ _=>rfl⟩
theorem AZ.al {B g:Nat} {w:World} {k:Cs} {u:World} {ol:Option Nat} (q:AZ B g w k u none ol) (t:TypeId):AZ B g w k (u.alloc (.cells #[.int .i64 0,.int .i64 0,.int .i64 0] t)) (some u.heap.size) ol:=by
 have p:=q.call (A3 q.cur (.cells #[.int .i64 0,.int .i64 0,.int .i64 0] t)) (World.grownBy_alloc u _ _)
 refine ⟨p.cb,p.rb,p.cur,p.gr,p.gl,p.bl,fun h hh=>?_,p.ls⟩
 injection hh with hh
 subst hh;exact ⟨q.rb.lt,AB.new u ⟨0,0,0⟩ t⟩
theorem AZ.lit {B g:Nat} {w:World} {k:Cs} {u:World} {ob:Option Nat} (q:AZ B g w k u ob none) (t:TypeId):AZ B g w k (u.alloc (.cells #[.int .i64 4837,.int .i64 4855,.int .i64 4834,.int .i64 4831,.int .i64 4853,.int .i64 4841] t)) ob (some u.heap.size):=by
 have p:=q.call (A3 q.cur (.cells #[.int .i64 4837,.int .i64 4855,.int .i64 4834,.int .i64 4831,.int .i64 4853,.int .i64 4841] t)) (World.grownBy_alloc u _ _)
 refine ⟨p.cb,p.rb,p.cur,p.gr,p.gl,p.bl,p.box,fun b hb=>?_⟩
 injection hb with hb
 subst hb
 refine ⟨q.rb.lt,fun i hi=>?_⟩
 rcases (show i=0∨i=1∨i=2∨i=3∨i=4∨i=5 by omega) with rfl | rfl | rfl | rfl | rfl | rfl <;> simp [rL]
theorem L1 {B g:Nat} {w:World} {k:Cs} {u:World} {ob ol:Option Nat} (z:AZ B g w k u ob ol) (n:Int) (hn:n≤1099511627776) :
  Calls prog 79 #[.pointer (some ⟨g,0,none⟩),.int .i64 n] u fun e u'=>∃ x:Int,e=.returned (.int .i64 x)∧0≤x∧(1≤n→x<n)∧AZ B g w k u' ob ol :=
 (G4 g n u z.cur hn).mono fun _ _ ⟨x,he,h0,h1,hc,hg⟩=>⟨x,he,h0,h1,z.call hc hg⟩
theorem Aan {B g:Nat} {w:World} {k:Cs} {u:World} {ob:Option Nat} {b:Nat} (z:AZ B g w k u ob (some b)) :
  Calls prog 131 #[.pointer (some ⟨g,0,none⟩),.slice (some ⟨b,0,none⟩) 6 6] u fun e u'=>∃ x:Int,e=.returned (.int .i64 x)∧x ∈ rL∧AZ B g w k u' ob (some b):=by
 obtain ⟨h1,h2⟩:=z.ls b rfl
 exact (R2 g b 6 rL u z.cur (by have:=z.gl;omega) (fun i hi=>h2 i (by simpa [rL] using hi)) (by decide) (by decide)).mono fun _ _ ⟨x,he,hx,hc,hg⟩=>⟨x,he,hx,z.call hc hg⟩
theorem AZ.now3 {B g:Nat} {w:World} {k:Cs} {u:World} {ob ol:Option Nat} (z:AZ B g w k u ob ol):u.cell? ⟨w.heap.size,3,none⟩=some (.int .i64 k.am):=by have:=z.cb.f3;simpa using this
theorem AS.new {B g:Nat} {w:World} {k:Cs} {u:World} {ol:Option Nat} (z:AZ B g w k u none ol) (a:Ac) (t:TypeId):AS B g w k u.heap.size a (u.alloc (.cells #[.int .i64 a.kind,.int .i64 a.am,.int .i64 a.rsn] t)):=by
 have p:=z.call (A3 z.cur (.cells #[.int .i64 a.kind,.int .i64 a.am,.int .i64 a.rsn] t)) (World.grownBy_alloc u _ _);exact ⟨p.cb,p.rb,AB.new u a t,p.cur,p.gr,p.gl,z.rb.lt,p.bl⟩
theorem AS.of {B g:Nat} {w:World} {k:Cs} {u:World} {h:Nat} {ol:Option Nat} (z:AZ B g w k u (some h) ol) (a:Ac):AS B g w k h a (((u.setCell ⟨h,0,none⟩ (.int .i64 a.kind)).setCell ⟨h,1,none⟩ (.int .i64 a.am)).setCell ⟨h,2,none⟩ (.int .i64 a.rsn)):=by
 obtain ⟨h1,h2⟩:=z.box h rfl;have q:AS B g w k h ⟨0,0,0⟩ u:=⟨z.cb,z.rb,h2,z.cur,z.gr,z.gl,h1,z.bl⟩;have q0:=q.at 0 _ (q.ab.set0 a.kind);have q1:=q0.at 1 _ (q0.ab.set1 a.am);exact q1.at 2 _ (q1.ab.set2 a.rsn)
end Go.Proofs.YtomiclakhjncbaaGreatDoor
