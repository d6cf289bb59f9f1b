import Derived.Test.YtomiclakhjncbaaGreatDoorJL0a
import Derived.Test.YtomiclakhjncbaaGreatDoorKLAuLaw
import Derived.Test.YtomiclakhjncbaaGreatDoorJL1a
import Derived.Deep.DeepCutAuto
import Derived.Deep.AppendLies
import Derived.Test.YtomiclakhjncbaaGreatDoorKLOff
import Derived.RangeFuncNested
import Derived.RangeFuncBound
import Derived.RangeFuncCalls
import Derived.RangeFuncLeaves
import Derived.Shelf.Abstract
import Derived.Shelf.RegionOpen
import Derived.WalkKit
import Derived.OwnWalkIn
import Derived.TacticsInMore
import Derived.LoopNIn
import Derived.LoopIn
import Derived.Test.YtomiclakhjncbaaGreatDoorKLSLed
import Derived.Lib.SliceRun
import Derived.Test.YtomiclakhjncbaaGreatDoorKLHpOps
import Derived.Test.YtomiclakhjncbaaGreatDoorKLFLed2
import Derived.Sort.Grow
import Derived.Maps.RangeWalk
import Derived.Handy
namespace Go.Proofs.YtomiclakhjncbaaGreatDoor
open Go.RowKit Go.Proofs.Tryz
set_option maxRecDepth 100000
set_option maxHeartbeats 12800000
structure Bk where
 today:Int
 off:List Int
 az:List Au
 cs:List Cs
 ls:List Ln
 log:Be
structure Bp where
 o:Option Addr
 oc:Nat
 a:Option Addr
 ac:Nat
 c:Option Addr
 cc:Nat
 l:Option Addr
 lc:Nat
 g:Option Addr
 gc:Nat
def C5 (b:Bk) (p:Bp):Value:=.agg #[.int .i64 b.today,.slice p.o b.off.length p.oc,.slice p.a b.az.length p.ac,.slice p.c b.cs.length p.cc,.slice p.l b.ls.length p.lc,.slice p.g b.log.length p.gc]
structure Aq (u:World) (b:Bk) (p:Bp):Prop where
 off:Aw u p.o b.off
 az:Ar u p.a b.az
 cs:A0 u p.c b.cs
 ls:Ai u p.l b.ls
 log:Bh u p.g b.log
theorem Aq.below {u u':World} {b:Bk} {p:Bp} (h:Aq u b p) (hb:BW u u'):Aq u' b p:=⟨h.off.below hb,h.az.below hb,h.cs.below hb,h.ls.below hb,h.log.below hb⟩
def D0 (b:Bk):Prop:=b.off.length≤1048576∧b.az.length≤1048576∧b.cs.length≤1048576∧b.ls.length≤1048576∧b.log.length≤1048576
structure S6 (B:Nat) (b:Bk) (p:Bp) (u:World):Prop where
 c0:u.cell? ⟨B,0,none⟩=some (.int .i64 b.today)
 c1:u.cell? ⟨B,1,none⟩=some (.slice p.o b.off.length p.oc)
 c2:u.cell? ⟨B,2,none⟩=some (.slice p.a b.az.length p.ac)
 c3:u.cell? ⟨B,3,none⟩=some (.slice p.c b.cs.length p.cc)
 c4:u.cell? ⟨B,4,none⟩=some (.slice p.l b.ls.length p.lc)
 c5:u.cell? ⟨B,5,none⟩=some (.slice p.g b.log.length p.gc)
theorem S6.lt {B:Nat} {b:Bk} {p:Bp} {u:World} (h:S6 B b p u):B<u.heap.size:=World.block_lt_of_cell? u _ h.c0
theorem S6.below {B:Nat} {b:Bk} {p:Bp} {u u':World} (h:S6 B b p u) (hb:BW u u'):S6 B b p u':=by
 have l:=h.lt;exact ⟨(hb.cell (p:=⟨B,0,none⟩) l).trans h.c0,(hb.cell (p:=⟨B,1,none⟩) l).trans h.c1,(hb.cell (p:=⟨B,2,none⟩) l).trans h.c2,(hb.cell (p:=⟨B,3,none⟩) l).trans h.c3,(hb.cell (p:=⟨B,4,none⟩) l).trans h.c4,(hb.cell (p:=⟨B,5,none⟩) l).trans h.c5⟩
theorem S6.new (w:World) (b:Bk) (p:Bp) (ty:TypeId):S6 w.heap.size b p (w.alloc (.cells #[.int .i64 b.today,.slice p.o b.off.length p.oc,.slice p.a b.az.length p.ac,.slice p.c b.cs.length p.cc,.slice p.l b.ls.length p.lc,.slice p.g b.log.length p.gc] ty)):=⟨by simp,by simp,by simp,by simp,by simp,by simp⟩
structure Z6 (B:Nat) (v0 v1 v2 v3 v4 v5:Value) (u:World):Prop where
 c0:u.cell? ⟨B,0,none⟩=some v0
 c1:u.cell? ⟨B,1,none⟩=some v1
 c2:u.cell? ⟨B,2,none⟩=some v2
 c3:u.cell? ⟨B,3,none⟩=some v3
 c4:u.cell? ⟨B,4,none⟩=some v4
 c5:u.cell? ⟨B,5,none⟩=some v5
 z0:u.frozen? ⟨B,0,none⟩=false
 z1:u.frozen? ⟨B,1,none⟩=false
 z2:u.frozen? ⟨B,2,none⟩=false
 z3:u.frozen? ⟨B,3,none⟩=false
 z4:u.frozen? ⟨B,4,none⟩=false
 z5:u.frozen? ⟨B,5,none⟩=false
theorem Z6.lt {B:Nat} {v0 v1 v2 v3 v4 v5:Value} {u:World} (h:Z6 B v0 v1 v2 v3 v4 v5 u):B<u.heap.size:=World.block_lt_of_cell? u _ h.c0
theorem Z6.below {B:Nat} {v0 v1 v2 v3 v4 v5:Value} {u u':World} (h:Z6 B v0 v1 v2 v3 v4 v5 u) (b:BW u u'):Z6 B v0 v1 v2 v3 v4 v5 u':=by
 have l:=h.lt;exact ⟨(b.cell (p:=⟨B,0,none⟩) l).trans h.c0,(b.cell (p:=⟨B,1,none⟩) l).trans h.c1,(b.cell (p:=⟨B,2,none⟩) l).trans h.c2,(b.cell (p:=⟨B,3,none⟩) l).trans h.c3,(b.cell (p:=⟨B,4,none⟩) l).trans h.c4,(b.cell (p:=⟨B,5,none⟩) l).trans h.c5,(b.frozen (p:=⟨B,0,none⟩) l).trans h.z0,(b.frozen (p:=⟨B,1,none⟩) l).trans h.z1,(b.frozen (p:=⟨B,2,none⟩) l).trans h.z2,(b.frozen (p:=⟨B,3,none⟩) l).trans h.z3,(b.frozen (p:=⟨B,4,none⟩) l).trans h.z4,(b.frozen (p:=⟨B,5,none⟩) l).trans h.z5⟩
theorem Z6.far {B B' i:Nat} {v0 v1 v2 v3 v4 v5:Value} {u:World} {x:Value} (h:Z6 B v0 v1 v2 v3 v4 v5 u) (hne:B'≠B):Z6 B v0 v1 v2 v3 v4 v5 (u.setCell ⟨B',i,none⟩ x):=by
 have l:=h.lt
 have gr:u.grownBy (u.setCell ⟨B',i,none⟩ x) (some B'):=⟨rfl,rfl,rfl,by simp,fun j _ hj=>Below.heap_setCell _ _ _ _ (fun e=>hj (by rw [e]))⟩
 have hs:some B≠some B':=fun e=>hne (by injection e with e;exact e.symm)
 exact ⟨(gr.cell_far ⟨B,0,none⟩ l hs).trans h.c0,(gr.cell_far ⟨B,1,none⟩ l hs).trans h.c1,(gr.cell_far ⟨B,2,none⟩ l hs).trans h.c2,(gr.cell_far ⟨B,3,none⟩ l hs).trans h.c3,(gr.cell_far ⟨B,4,none⟩ l hs).trans h.c4,(gr.cell_far ⟨B,5,none⟩ l hs).trans h.c5,by simp [h.z0],by simp [h.z1],by simp [h.z2],by simp [h.z3],by simp [h.z4],by simp [h.z5]⟩
theorem Z6.set0 {B:Nat} {v0 v1 v2 v3 v4 v5:Value} {u:World} (h:Z6 B v0 v1 v2 v3 v4 v5 u) (x:Value):Z6 B x v1 v2 v3 v4 v5 (u.setCell ⟨B,0,none⟩ x):=by
 obtain ⟨c0,c1,c2,c3,c4,c5,z0,z1,z2,z3,z4,z5⟩:=h
 constructor<;>simp [go_sem, *]
theorem Z6.set1 {B:Nat} {v0 v1 v2 v3 v4 v5:Value} {u:World} (h:Z6 B v0 v1 v2 v3 v4 v5 u) (x:Value):Z6 B v0 x v2 v3 v4 v5 (u.setCell ⟨B,1,none⟩ x):=by
 obtain ⟨c0,c1,c2,c3,c4,c5,z0,z1,z2,z3,z4,z5⟩:=h
 constructor<;>simp [go_sem, *]
theorem Z6.set2 {B:Nat} {v0 v1 v2 v3 v4 v5:Value} {u:World} (h:Z6 B v0 v1 v2 v3 v4 v5 u) (x:Value):Z6 B v0 v1 x v3 v4 v5 (u.setCell ⟨B,2,none⟩ x):=by
 obtain ⟨c0,c1,c2,c3,c4,c5,z0,z1,z2,z3,z4,z5⟩:=h
 constructor<;>simp [go_sem, *]
theorem Z6.set3 {B:Nat} {v0 v1 v2 v3 v4 v5:Value} {u:World} (h:Z6 B v0 v1 v2 v3 v4 v5 u) (x:Value):Z6 B v0 v1 v2 x v4 v5 (u.setCell ⟨B,3,none⟩ x):=by
 obtain ⟨c0,c1,c2,c3,c4,c5,z0,z1,z2,z3,z4,z5⟩:=h
 constructor<;>simp [go_sem, *]
theorem Z6.set4 {B:Nat} {v0 v1 v2 v3 v4 v5:Value} {u:World} (h:Z6 B v0 v1 v2 v3 v4 v5 u) (x:Value):Z6 B v0 v1 v2 v3 x v5 (u.setCell ⟨B,4,none⟩ x):=by
 obtain ⟨c0,c1,c2,c3,c4,c5,z0,z1,z2,z3,z4,z5⟩:=h
 constructor<;>simp [go_sem, *]
theorem Z6.set5 {B:Nat} {v0 v1 v2 v3 v4 v5:Value} {u:World} (h:Z6 B v0 v1 v2 v3 v4 v5 u) (x:Value):Z6 B v0 v1 v2 v3 v4 x (u.setCell ⟨B,5,none⟩ x):=by
 obtain ⟨c0,c1,c2,c3,c4,c5,z0,z1,z2,z3,z4,z5⟩:=h
 constructor<;>simp [go_sem, *]
theorem Z6.new (w:World) (v0 v1 v2 v3 v4 v5:Value) (ty:TypeId):Z6 w.heap.size v0 v1 v2 v3 v4 v5 (w.alloc (.cells #[v0,v1,v2,v3,v4,v5] ty)) :=
 ⟨by simp,by simp,by simp,by simp,by simp,by simp,by simp [go_sem],by simp [go_sem],by simp [go_sem],by simp [go_sem],by simp [go_sem],by simp [go_sem]⟩
abbrev Z0(R:Nat)(u:World):Prop:=Z6 R (.int .i64 0) (.slice none 0 0) (.slice none 0 0) (.slice none 0 0) (.slice none 0 0) (.slice none 0 0) u
abbrev ZQ(X:Nat)(b:Bk)(q:Bp)(u:World):Prop:=Z6 X (.int .i64 b.today) (.slice q.o b.off.length q.oc) (.slice q.a b.az.length q.ac) (.slice q.c b.cs.length q.cc) (.slice q.l b.ls.length q.lc) (.slice q.g b.log.length q.gc) u
theorem S6.under {s B:Nat} {b:Bk} {p:Bp} {u u':World} (h:S6 s b p u) (hb:Below B u u') (l:s<B):S6 s b p u' :=
 ⟨(hb.cell (p:=⟨s,0,none⟩) l).trans h.c0,(hb.cell (p:=⟨s,1,none⟩) l).trans h.c1,(hb.cell (p:=⟨s,2,none⟩) l).trans h.c2,(hb.cell (p:=⟨s,3,none⟩) l).trans h.c3,(hb.cell (p:=⟨s,4,none⟩) l).trans h.c4,(hb.cell (p:=⟨s,5,none⟩) l).trans h.c5⟩
theorem Z6.under {s B:Nat} {v0 v1 v2 v3 v4 v5:Value} {u u':World} (h:Z6 s v0 v1 v2 v3 v4 v5 u) (hb:Below B u u') (l:s<B):Z6 s v0 v1 v2 v3 v4 v5 u' :=
 ⟨(hb.cell (p:=⟨s,0,none⟩) l).trans h.c0,(hb.cell (p:=⟨s,1,none⟩) l).trans h.c1,(hb.cell (p:=⟨s,2,none⟩) l).trans h.c2,(hb.cell (p:=⟨s,3,none⟩) l).trans h.c3,(hb.cell (p:=⟨s,4,none⟩) l).trans h.c4,(hb.cell (p:=⟨s,5,none⟩) l).trans h.c5,(hb.frozen (p:=⟨s,0,none⟩) l).trans h.z0,(hb.frozen (p:=⟨s,1,none⟩) l).trans h.z1,(hb.frozen (p:=⟨s,2,none⟩) l).trans h.z2,(hb.frozen (p:=⟨s,3,none⟩) l).trans h.z3,(hb.frozen (p:=⟨s,4,none⟩) l).trans h.z4,(hb.frozen (p:=⟨s,5,none⟩) l).trans h.z5⟩
theorem Ad {u:World} {base n size B i:Nat} {t:TypeId} {v x:Value} {xs:List Value} (o:u.ownsRow base t size v n xs) (hB:B<base):(u.setCell ⟨B,i,none⟩ x).ownsRow base t size v n xs :=
 o.kept (row:=some B) ⟨rfl,rfl,rfl,by simp,fun j _ hj=>Below.heap_setCell _ _ _ _ (fun e=>hj (by rw [e]))⟩ (.inr fun h=>by have:=(o.lt _ h).1;omega)
theorem Xi (x:Int) (w:World):Calls prog 361 #[.int .i64 x] w fun e w'=>e=.returned (.bool false)∧w'=w:=by
 have h:(x != x)=false:=by simp
 go_enter func361,ntmps361
 go_wp2;go_ret
 exact ⟨Aa (by simp),rfl⟩
theorem lL (x:Int) (w:World):Calls prog 187 #[.int .i64 x] w fun e w'=>e=.returned (.bool false)∧w'=w:=by
 go_enter func187,ntmps187
 go_wp2;go_ret
 exact ⟨Aa (by simp),rfl⟩
theorem Wp (x y:Int) (w:World):Calls prog 360 #[.int .i64 x,.int .i64 y] w fun e w'=>e=.returned (.bool (decide (x<y)))∧w'=w:=by
 go_enter func360,ntmps360
 go_wp2_with (go_at_call 187;refine (lL _ _).mono ?_;rintro e w' ⟨rfl,rfl⟩)
 go_ret;exact ⟨rfl,rfl⟩
theorem bB (t:Int) (b off c:Nat) (zs:List Int) (w:World) (hcx:∀ i,i<zs.length→w.cell? ⟨b,off+i,none⟩=some (.int .i64 (zs.getD i 0))) (h1:zs.length≤400) (ha:Er (-1) zs=true) :
  Calls prog 359 #[.slice (some ⟨b,off,none⟩) zs.length c,.int .i64 t] w fun e w'=>(∃ i:Int,e=.returned (.tuple #[.int .i64 i,.bool (decide (t ∈ zs))]))∧w'=w:=by
 have HA:Hid _:=ha;clear ha
 go_enter func359,ntmps359
 go_wp2
 go_loop [7,8,9] (fun i j _=>∃ (m n:Nat),m≤n∧n≤zs.length∧i=.int .i64 m∧j=.int .i64 n∧(∀ k,k<m→zs.getD k 0<t)∧(∀ k,n≤k→k<zs.length→t≤zs.getD k 0)) (fun i j _=>(intOf j - intOf i).toNat)
 case atStart=>exact ⟨0,zs.length,Nat.zero_le _,nL,rfl,rfl,fun k hk=>by omega,fun k h1 h2=>by omega⟩
 case round =>
  obtain ⟨m,n,hmn,hn,rfl,rfl,hlo,hhi⟩:=hrel;have HL:Hid _:=hlo;have HH:Hid _:=hhi;clear hlo hhi
  by_cases hlt:m<n
  ·have hlti:(m:Int)<(n:Int):=by omega
   have e1:=hcx ((m+n) / 2) (by omega)
   obtain ⟨x,hxk⟩:∃ x,zs.getD ((m+n) / 2) 0=x:=⟨_,rfl⟩;rw [hxk] at e1;have HX:Hid _:=hxk;clear hxk hcx
   by_cases hxt:x<t
   ·have HL2:Hid (∀ k,k<(m+n) / 2+1→zs.getD k 0<t):=fun k hk=>by
      rcases (show k<(m+n) / 2∨k=(m+n) / 2 from by omega) with h | h
      ·have:=Ye zs _ HA.o k ((m+n) / 2) h (by omega)
       rw [HX.o] at this;omega
      ·rw [h,HX.o];exact hxt
    go_wp2_with (go_at_call 360;refine (Wp _ _ _).mono ?_;rintro e w' ⟨rfl,rfl⟩)
    go_round
    case rel=>exact ⟨(m+n) / 2+1,n,by omega,hn,by go_num,rfl,HL2.o,HH.o⟩
    case measure=>simp [intOf];omega
   ·have hxt':t≤x:=by omega
    have HH2:Hid (∀ k,(m+n) / 2≤k→k<zs.length→t≤zs.getD k 0):=fun k hk hkl=>by
     rcases (show (m+n) / 2<k∨k=(m+n) / 2 from by omega) with h | h
     ·have:=Ye zs _ HA.o ((m+n) / 2) k h hkl
      rw [HX.o] at this;omega
     ·rw [h,HX.o];exact hxt'
    go_wp2_with (go_at_call 360;refine (Wp _ _ _).mono ?_;rintro e w' ⟨rfl,rfl⟩)
    go_round
    case rel=>exact ⟨m,(m+n) / 2,by omega,by omega,rfl,by go_num,HL.o,HH2.o⟩
    case measure=>simp [intOf];omega
  ·have hmn':m=n:=by omega
   subst hmn';have HE:Hid _:=Yl HA.o HL.o HH.o
   by_cases hml:m<zs.length
   ·have hmli:(m:Int)<(zs.length:Int):=by omega
    have e1:=hcx m hml;obtain ⟨x,hxk⟩:∃ x,zs.getD m 0=x:=⟨_,rfl⟩;rw [hxk] at e1;have HX:Hid _:=hxk;clear hxk hcx
    cases he:(x == t)
    ·have HR:Hid (decide (t ∈ zs)=false):=decide_eq_false (fun hm=>by
       have:=(HE.o.1 hm).2
       rw [HX.o] at this;subst this;simp at he)
     go_wp2_with (go_at_call 361;refine (Xi _ _).mono ?_;rintro e w' ⟨rfl,rfl⟩)
     go_ret2;exact ⟨⟨m,Ji rfl HR.o.symm⟩,rfl⟩
    ·have HR:Hid (decide (t ∈ zs)=true):=decide_eq_true (HE.o.2 ⟨hml,by rw [HX.o];simpa using he⟩)
     go_wp2_with (go_at_call 361;refine (Xi _ _).mono ?_;rintro e w' ⟨rfl,rfl⟩)
     go_ret2;exact ⟨⟨m,Ji rfl HR.o.symm⟩,rfl⟩
   ·have hmli:¬ (m:Int)<(zs.length:Int):=by omega
    have HR:Hid (decide (t ∈ zs)=false):=decide_eq_false (fun hm=>hml (HE.o.1 hm).1)
    clear hcx;go_wp2_with fail
    go_ret2;exact ⟨⟨m,Ji rfl HR.o.symm⟩,rfl⟩
theorem Y6 (t:Int) (ao:Option Addr) (c:Nat) (w:World) :
  Calls prog 359 #[.slice ao 0 c,.int .i64 t] w fun e w'=>(∃ i:Int,e=.returned (.tuple #[.int .i64 i,.bool false]))∧w'=w:=by
 go_enter func359,ntmps359
 go_wp2;refine wp_loop_rounds 1 ?_;rw [rounds_succ];go_wp2;go_ret2;exact ⟨⟨0,Ji rfl rfl⟩,rfl⟩
theorem cI (d:Int) (ao:Option Addr) (c:Nat) (zs:List Int) (w:World) (hx:Aw w ao zs) (h1:zs.length≤400) (ha:Er (-1) zs=true) :
  Calls prog 356 #[.slice ao zs.length c,.int .i64 d] w fun e w'=>e=.returned (.bool (decide (d ∈ zs)))∧w'=w:=by
 rcases hx with rfl | ⟨b,off,rfl,hb,hcx⟩
 ·go_enter func356,ntmps356
  go_wp2_with fail
  refine (Y6 _ _ _ _).mono ?_;rintro e w' ⟨⟨i,rfl⟩,hw⟩;subst hw;go_wp2;go_ret
  exact ⟨Aa (by simp),rfl⟩
 ·go_enter func356,ntmps356
  go_wp2_with fail
  refine (bB _ _ _ _ zs _ hcx h1 ha).mono ?_;rintro e w' ⟨⟨i,rfl⟩,hw⟩;subst hw;go_wp2;go_ret;exact ⟨rfl,rfl⟩
theorem Jv (x:Int) (w:World) (hd:Dn x=true) :
  Calls prog 355 #[.int .i64 x] w fun e w'=>e=.returned (.bool (!decide ((x+5) % 7<5)))∧w'=w:=by
 have hv:=Pt hd
 have HB:Hid (decide (4<(x+5) % 7) = !decide ((x+5) % 7<5)):=by
  by_cases h:(x+5) % 7<5
  ·rw [Hid,decide_eq_true h,decide_eq_false (by omega)];rfl
  ·rw [Hid,decide_eq_false h,decide_eq_true (by omega)];rfl
 clear hd
 go_enter func355,ntmps355
 go_wp2_with (go_at_call 358;refine (Ur _ _).mono ?_;rintro e w' ⟨rfl,rfl⟩;rw [hv])
 go_ret;exact ⟨Aa HB.o,rfl⟩
end Go.Proofs.YtomiclakhjncbaaGreatDoor
namespace Go.Proofs.YtomiclakhjncbaaGreatDoor
open Go.RowKit Go.Shelf Go.Proofs.Tryz
set_option maxRecDepth 100000
set_option maxHeartbeats 12800000
def Il (N:Nat) (w:World) (ao:Option Addr) (zs:List Int):Prop :=
 zs=[]∨∃ b off,ao=some ⟨b,off,none⟩∧b<N∧∀ i,i<zs.length→w.cell? ⟨b,off+i,none⟩=some (.int .i64 (zs.getD i 0))
theorem Il.keep {N:Nat} {w w':World} {ao:Option Addr} {zs:List Int} (h:Il N w ao zs) (hb:Below N w w'):Il N w' ao zs:=by
 rcases h with h | ⟨b,off,h1,h2,h3⟩
 ·exact .inl h
 ·exact .inr ⟨b,off,h1,h2,fun i hi=>(hb.cell (p:=⟨b,off+i,none⟩) h2).trans (h3 i hi)⟩
theorem Il.at {N:Nat} {w:World} {ao:Option Addr} {zs:List Int} (h:Il N w ao zs) (hN:N≤w.heap.size):Aw w ao zs:=by
 rcases h with h | ⟨b,off,h1,h2,h3⟩
 ·exact .inl h
 ·exact .inr ⟨b,off,h1,by omega,h3⟩
theorem Aw.in {w:World} {ao:Option Addr} {zs:List Int} (h:Aw w ao zs):Il w.heap.size w ao zs:=h
def Vu (N Bo:Nat) (W W':World):Prop:=Below N W W'∧∀ v,W.cell? ⟨Bo,0,none⟩=some v→W'.cell? ⟨Bo,0,none⟩=some v
theorem kS {N Bo:Nat} {A B C:World} (h:Vu N Bo A B) (k:Vu N Bo B C):Vu N Bo A C:=⟨h.1.trans k.1,fun v hv=>k.2 v (h.2 v hv)⟩
theorem rT {N Bo:Nat} {w:World} (hn:N≤w.heap.size) (W:World) (l:Nat) (o o':Obj) (hl:w.heap.size≤l) (h:W.heap[l]?=some o) (hc:o.isCells=false) (hw:o.isWalk=false):Vu N Bo W (W.putObj l o') :=
 ⟨belowK_b hn W l o o' hl h hc hw,fun _ hv=>cell_kept hv (grownBy_putObj' W l o') (fun r e=>by cases e;exact ⟨o,h,hc⟩)⟩
theorem G6 {k:IntKind} {a b:Int} (h:a=b):Value.int k a=Value.int k b:=by rw [h]
theorem rZ (zs:List Int) (y:Int):wk zs y=(decide ((y+5) % 7<5) && !decide (y ∈ zs)):=rfl
theorem fI (n:Nat) (hn:1≤n) (l Bd Bo N c:Nat) (ao:Option Addr) (zs:List Int) (d:Int) (hd:Dn d=true) (ho:Ct zs=true) (J Jx:List Int→World→Prop)
  (hY:∀ pre x W,J pre W→pre.length<(wd zs (80000 - d).toNat).length→YieldAt Fence.wide (n - 1) prog l #[.int .i64 x] W fun e W' =>
   (e=.returned (.bool true)∧J (pre++[x]) W'∧Vu N Bo W W')∨(e=.returned (.bool false)∧Jx (pre++[x]) W'))
  (W:World) (hN:N≤W.heap.size) (cd:W.cell? ⟨Bd,0,none⟩=some (.int .i64 d)) (co:W.cell? ⟨Bo,0,none⟩=some (.slice ao zs.length c)) (hz:Il N W ao zs) (h0:J [] W) :
  CallsIn Fence.wide n prog 354 #[.func (.yield l) #[] #[],.pointer (some ⟨Bd,0,none⟩),.pointer (some ⟨Bo,0,none⟩)] W fun e W'=>(∃ v,e=.returned v) ∧
   ((∃ ys,ys=wd zs (80000 - d).toNat∧J ys W')∨(∃ pre,pre <+: wd zs (80000 - d).toNat∧Jx pre W')):=by
 have hb:=Ei hd;have HL:Hid _:=pF ho;have HA:Hid _:=pD ho;clear hd ho;refine callsIn_of_wp func354 rfl trivial ?_ rfl
 simp only [ntmps354,List.size_toArray,List.length_cons,List.length_nil,Nat.reduceAdd,Nat.reduceSub,Array.replicate_succ,Array.replicate_zero,List.push_toArray,List.append_toArray,List.nil_append,List.cons_append]
 gi_wp2
 gi_loopw [4] (fun p wr=>∃ (f:Nat) (pre:List Int),f≤80000∧p=.int .i64 (80001 - f)∧pre++wd zs f=wd zs (80000 - d).toNat∧J pre wr∧Vu N Bo W wr) (fun p _=>(80001 - intOf p).toNat)
 case atStart=>exact ⟨(80000 - d).toNat,[],by omega,G6 (by omega),rfl,h0,bR,fun _ h=>h⟩
 case round =>
  obtain ⟨f,pre,hf,rfl,hx,hJs,hk⟩:=hrel;have HX:Hid _:=hx;clear hx;obtain ⟨y,hy⟩:∃ y:Int,80001 - (f:Int)=y:=⟨_,rfl⟩;rw [hy];have HY:Hid _:=hy
  by_cases hyl:y≤80000
  ·obtain ⟨g,rfl⟩:∃ g,f=g+1:=⟨f - 1,by omega⟩
   have hyg:80000 - (g:Int)=y:=by omega
   have hyd:Dn y=true:=Nq (by omega) hyl
   have HG:Hid _:=hyg
   have hy0:0≤y:=by omega
   clear hy hyg;have hwe:=rZ zs y;have HW:Hid _:=hwe;clear hwe;have co':wr.cell? ⟨Bo,0,none⟩=some (.slice ao zs.length c):=hk.2 _ co;have HZ:Hid (Aw wr ao zs):=(hz.keep hk.1).at (Nat.le_trans hN hk.1.size);have hn':1≤n:=hn
   by_cases h5:(y+5) % 7<5
   ·have hdec:decide ((y+5) % 7<5)=true:=decide_eq_true h5
    by_cases hin:y ∈ zs
    ·have hdin:decide (y ∈ zs)=true:=decide_eq_true hin
     have HN:Hid (wk zs y=false):=by rw [Hid,HW.o,hdec,hdin];rfl
     clear h5 hin
     gi_wp2_with fail
     refine ⟨trivial,(callsIn_wide.2 (Jv _ _ hyd)).mono ?_⟩;rintro e w1 ⟨rfl,hw1⟩;subst hw1;rw [hdec]
     gi_wp2_with fail
     refine ⟨trivial,(callsIn_wide.2 (cI _ _ _ zs _ HZ.o HL.o HA.o)).mono ?_⟩;rintro e w1 ⟨rfl,hw1⟩;subst hw1;rw [hdin]
     gi_wp2
     go_roundw
     case rel=>exact ⟨g,pre,by omega,G6 (by have:=HG.o;omega),by rw [← HX.o,kN (by rw [HG.o];exact HN.o)],hJs,hk⟩
     case measure=>simp [intOf];have:=HG.o;omega
    ·have hdin:decide (y ∈ zs)=false:=decide_eq_false hin
     have HN:Hid (wk zs y=true):=by rw [Hid,HW.o,hdec,hdin];rfl
     have HX2:Hid (wd zs (80000 - d).toNat=(pre++[y])++wd zs g):=by rw [Hid,← HX.o,mN (by rw [HG.o];exact HN.o),HG.o];simp
     clear h5 hin
     obtain ⟨fn,tmps,assign,body,hyy,hR⟩:=hY pre y wr hJs (by rw [HX2.o];simp)
     gi_wp2_with fail
     refine ⟨trivial,(callsIn_wide.2 (Jv _ _ hyd)).mono ?_⟩;rintro e w1 ⟨rfl,hw1⟩;subst hw1;rw [hdec]
     gi_wp2_with fail
     refine ⟨trivial,(callsIn_wide.2 (cI _ _ _ zs _ HZ.o HL.o HA.o)).mono ?_⟩;rintro e w1 ⟨rfl,hw1⟩;subst hw1;rw [hdin]
     gi_wp2
     refine hR.mono ?_
     rintro e W3 (⟨rfl,hJ3,hk3⟩ | ⟨rfl,hJx3⟩)
     ·gi_wp2
      go_roundw
      case rel=>exact ⟨g,pre++[y],by omega,G6 (by have:=HG.o;omega),HX2.o.symm,hJ3,kS hk hk3⟩
      case measure=>simp [intOf];have:=HG.o;omega
     ·gi_wp2
      refine bodyPost_ret (results_none rfl _ _ _) rfl ?_;exact ⟨⟨_,rfl⟩,.inr ⟨pre++[y],⟨wd zs g,HX2.o.symm⟩,hJx3⟩⟩
   ·have hdec:decide ((y+5) % 7<5)=false:=decide_eq_false h5
    have HN:Hid (wk zs y=false):=by rw [Hid,HW.o,hdec];rfl
    clear h5
    gi_wp2_with fail
    refine ⟨trivial,(callsIn_wide.2 (Jv _ _ hyd)).mono ?_⟩;rintro e w1 ⟨rfl,hw1⟩;subst hw1;rw [hdec]
    gi_wp2
    refine ⟨trivial,?_⟩
    gi_wp2
    go_roundw
    case rel=>exact ⟨g,pre,by omega,G6 (by have:=HG.o;omega),by rw [← HX.o,kN (by rw [HG.o];exact HN.o)],hJs,hk⟩
    case measure=>simp [intOf];have:=HG.o;omega
  ·have hf0:f=0:=by omega
   subst hf0;clear hy
   gi_wp2
   go_end0
   exact ⟨⟨_,rfl⟩,.inl (by rw [← HX.o];simpa [wd] using hJs)⟩
theorem Un (n:Nat) (hn:1≤n) (Bd Bo N c:Nat) (ao:Option Addr) (zs:List Int) (d:Int) (w:World) (hd:Dn d=true) (ho:Ct zs=true) (hBd:Bd<w.heap.size) (hBo:Bo<w.heap.size) (hN:N≤w.heap.size)
  (cd:w.cell? ⟨Bd,0,none⟩=some (.int .i64 d)) (co:w.cell? ⟨Bo,0,none⟩=some (.slice ao zs.length c)) (hz:Il N w ao zs) :
  SeqStopsK Fence.wide n prog 354 #[.pointer (some ⟨Bd,0,none⟩),.pointer (some ⟨Bo,0,none⟩)] (fun x:Int=>#[Value.int .i64 x]) (Vu N Bo)
   (fun ys=>ys=wd zs (80000 - d).toNat) (fun pre=>pre <+: wd zs (80000 - d).toNat) (wd zs (80000 - d).toNat).length w:=fun l J Jx W hW _ _ hY h0 =>
 fI n hn l Bd Bo N c ao zs d hd ho J Jx hY W (Nat.le_trans hN hW.size) ((hW.cell (p:=⟨Bd,0,none⟩) hBd).trans cd) ((hW.cell (p:=⟨Bo,0,none⟩) hBo).trans co) (hz.keep (hW.mono hN)) h0
theorem Re (ao:Option Addr) (m c:Nat) (d:Int) (w:World) :
  Calls prog 348 #[.slice ao m c,.int .i64 d] w fun e w' =>
   e=.returned (.func (.func 354) #[] #[.pointer (some ⟨w.heap.size+1,0,none⟩),.pointer (some ⟨w.heap.size,0,none⟩)]) ∧
   w'=(w.alloc (.cells #[.slice ao m c] 120)).alloc (.cells #[.int .i64 d] 3):=by
 go_enter func348,ntmps348
 go_wp2;go_ret;exact ⟨rfl,rfl⟩
theorem Ps {d n:Int} {zs:List Int} (h:Dn d=false∨n<0∨400<n∨Ct zs=false):Lh d n zs=none:=by
 unfold Lh;rw [if_neg];rintro ⟨a,b,c,e⟩
 rcases h with h | h | h | h
 ·rw [a] at h;cases h
 ·omega
 ·omega
 ·rw [e] at h;cases h
theorem V6 {d n:Int} {zs:List Int} (a:Dn d=true) (b:0≤n) (c:n≤400) (e:Ct zs=true):Lh d n zs=Pk zs (80000 - d).toNat n.toNat:=by
 unfold Lh;rw [if_pos ⟨a,b,c,e⟩]
theorem Si (w:World) (x:Int) (y:Bool):((w.alloc (.cells #[.int .i64 x] 3)).alloc (.cells #[.bool y] 4)).cell? ⟨w.heap.size,0,none⟩=some (.int .i64 x) ∧
  ((w.alloc (.cells #[.int .i64 x] 3)).alloc (.cells #[.bool y] 4)).cell? ⟨w.heap.size+1,0,none⟩=some (.bool y):=by
 refine ⟨?_,?_⟩
 ·rw [World.cell?_alloc_lt _ _ _ (by simp)];simp
 ·rw [← World.size_alloc w (.cells #[.int .i64 x] 3)];simp
theorem Hi (w:World) (o o':Obj):Below w.heap.size w ((w.alloc o).alloc o'):=((Below.refl _ w).alloc nL _).alloc (by simp) _
theorem oH (d n:Int) (ao:Option Addr) (c:Nat) (zs:List Int) (w:World) (hx:Aw w ao zs) (h1:zs.length≤1099511627776) (h:Dn d=false∨n<0∨400<n∨Ct zs=false) :
  Calls prog 338 #[.int .i64 d,.int .i64 n,.slice ao zs.length c] w fun e w'=>e=.returned (.tuple #[.int .i64 0,.bool false])∧BW w w':=by
 have HX:Hid (Aw w ao zs):=hx;clear hx;have tc:=Si w 0 false;have HB:Hid _:=Hi w (.cells #[.int .i64 0] 3) (.cells #[.bool false] 4)
 cases hd:Dn d
 ·go_enter func338,ntmps338
  go_wp2_with fail
  refine (Bm _ _).mono ?_;rintro e w' ⟨rfl,hw⟩;subst hw;go_wp2
  refine bodyPost_ret (v:=.tuple #[.int .i64 0,.bool false]) (by simp [results,Tryz.f338,go_sem]) rfl ⟨rfl,HB.o⟩
 ·by_cases hn0:n<0
  ·go_enter func338,ntmps338
   go_wp2_with fail
   refine (Bm _ _).mono ?_;rintro e w' ⟨rfl,hw⟩;subst hw;go_wp2
   refine bodyPost_ret (v:=.tuple #[.int .i64 0,.bool false]) (by simp [results,Tryz.f338,go_sem]) rfl ⟨rfl,HB.o⟩
  ·by_cases hn4:400<n
   ·go_enter func338,ntmps338
    go_wp2_with fail
    refine (Bm _ _).mono ?_;rintro e w' ⟨rfl,hw⟩;subst hw;go_wp2
    refine bodyPost_ret (v:=.tuple #[.int .i64 0,.bool false]) (by simp [results,Tryz.f338,go_sem]) rfl ⟨rfl,HB.o⟩
   ·have ho:Ct zs=false:=by
      rcases h with h | h | h | h
      ·rw [hd] at h;cases h
      ·omega
      ·omega
      ·exact h
    clear h
    go_enter func338,ntmps338
    go_wp2_with fail
    refine (Bm _ _).mono ?_;rintro e w' ⟨rfl,hw⟩;subst hw;go_wp2_with fail
    refine (Pp _ _ zs _ (Aw.below HX.o HB.o) h1).mono ?_;rintro e w' ⟨rfl,hw⟩;subst hw;go_wp2
    refine bodyPost_ret (v:=.tuple #[.int .i64 0,.bool false]) (by simp [results,Tryz.f338,go_sem]) rfl ⟨rfl,HB.o⟩
theorem gN (d:Int) (ao:Option Addr) (c:Nat) (zs:List Int) (w:World) (hx:Aw w ao zs) (h1:zs.length≤1099511627776) (hd:Dn d=true) (ho:Ct zs=true) :
  Calls prog 338 #[.int .i64 d,.int .i64 0,.slice ao zs.length c] w fun e w'=>e=.returned (.tuple #[.int .i64 d,.bool true])∧BW w w':=by
 have HX:Hid (Aw w ao zs):=hx;clear hx;have tc:=Si w d true;have HB0:Hid _:=Hi w (.cells #[.int .i64 0] 3) (.cells #[.bool false] 4);have HB:Hid _:=Hi w (.cells #[.int .i64 d] 3) (.cells #[.bool true] 4)
 go_enter func338,ntmps338
 go_wp2_with fail
 refine (Bm _ _).mono ?_;rintro e w' ⟨rfl,hw⟩;subst hw;go_wp2_with fail
 refine (Pp _ _ zs _ (Aw.below HX.o HB0.o) h1).mono ?_;rintro e w' ⟨rfl,hw⟩;subst hw;go_wp2
 refine bodyPost_ret (v:=.tuple #[.int .i64 d,.bool true]) (by simp [results,Tryz.f338,go_sem]) rfl ⟨rfl,HB.o⟩
def Cl (W:World) (k:Nat) (v:Value):Prop:=W.cell? ⟨k,0,none⟩=some v∧W.frozen? ⟨k,0,none⟩=false
theorem Cl.kept {W W':World} {row:Option Nat} {k:Nat} {v:Value} (h:Cl W k v) (hg:W.grownBy W' row) (hr:∀ r,row=some r→∃ o:Obj,W.heap[r]?=some o∧o.isCells=false):Cl W' k v :=
 ⟨cell_kept h.1 hg hr,(frozen_kept h.1 hg hr).trans h.2⟩
theorem Cl.new (W:World) (v:Value) (t:TypeId):Cl (W.alloc (.cells #[v] t)) W.heap.size v:=by
 have h:=World.alloc_heap_new W (.cells #[v] t)
 constructor
 ·unfold World.cell?
  simp only [h]
  rfl
 ·unfold World.frozen?
  simp only [h]
  rfl
theorem Cl.alloc {W:World} {k:Nat} {v:Value} (h:Cl W k v) (o:Obj):Cl (W.alloc o) k v:=h.kept (World.grownBy_alloc W o none) (fun r e=>by cases e)
theorem Cl.other {W:World} {k j:Nat} {v u:Value} (h:Cl W k v) (hj:j≠k):Cl (W.setCell ⟨j,0,none⟩ u) k v:=by
 refine ⟨?_,by rw [World.frozen?_setCell];exact h.2⟩
 rw [World.cell?_setCell_other W ⟨j,0,none⟩ u (b:=⟨k,0,none⟩) (fun e=>by injection e with e1;exact hj e1)];exact h.1
theorem Cl.same {W:World} {k:Nat} {v u:Value} (h:Cl W k v):Cl (W.setCell ⟨k,0,none⟩ u) k u :=
 ⟨World.cell?_setCell_same W ⟨k,0,none⟩ u h.1,by rw [World.frozen?_setCell];exact h.2⟩
theorem Cl.put {W:World} {k D:Nat} {v:Value} {o o':Obj} (h:Cl W k v) (hD:W.heap[D]?=some o) (ho:o.isCells=false):Cl (W.putObj D o') k v :=
 h.kept (grownBy_putObj' W D o') (fun r e=>by cases e;exact ⟨_,hD,ho⟩)
theorem Ld {N j:Nat} {w W:World} (h:Below N w W) (hj:N≤j) (u:Value):Below N w (W.setCell ⟨j,0,none⟩ u):=h.setCell (p:=⟨j,0,none⟩) hj u
theorem mF {N Bo j:Nat} (W:World) (u:Value) (hN:N≤j) (hj:j≠Bo):Vu N Bo W (W.setCell ⟨j,0,none⟩ u) :=
 ⟨(Below.refl N W).setCell (p:=⟨j,0,none⟩) hN _,fun v hv=>by
  rw [World.cell?_setCell_other W ⟨j,0,none⟩ u (b:=⟨Bo,0,none⟩) (fun e=>by injection e with e1;exact hj e1)];exact hv⟩
theorem mE {zs:List Int} {f m:Nat} (hm:1≤m) (h:(wd zs f).length<m):Pk zs f m=none:=by
 obtain ⟨k,rfl⟩:∃ k,m=k+1:=⟨m - 1,by omega⟩
 rw [Pk];exact List.getElem?_eq_none (by omega)
theorem nJ {zs:List Int} {f m:Nat} {pre:List Int} {x:Int} (hp:pre++[x] <+: wd zs f) (hm:(pre++[x]).length=m):Pk zs f m=some x:=by
 obtain ⟨t,ht⟩:=hp
 simp at hm
 subst hm
 rw [Pk,← ht];simp
theorem tJ (w:World) (m:Nat) (ao:Option Addr) (k c:Nat) (d:Int):∀ W0,W0=(((((w.alloc (.cells #[.int .i64 0] 3)).alloc (.cells #[.bool false] 4)).alloc (.cells #[.int .i64 m] 3)).alloc (.cells #[.slice ao k c] 120)).alloc (.cells #[.int .i64 d] 3)) →
  W0.heap.size=w.heap.size+5∧BW w W0∧Cl W0 w.heap.size (.int .i64 0)∧Cl W0 (w.heap.size+1) (.bool false)∧Cl W0 (w.heap.size+1+1) (.int .i64 m)∧Cl W0 (w.heap.size+1+1+1) (.slice ao k c)∧Cl W0 (w.heap.size+1+1+1+1) (.int .i64 d):=by
 rintro _ rfl;have z1:=World.size_alloc w (.cells #[.int .i64 0] 3);have z2:=World.size_alloc (w.alloc (.cells #[.int .i64 0] 3)) (.cells #[.bool false] 4);have z3:=World.size_alloc ((w.alloc (.cells #[.int .i64 0] 3)).alloc (.cells #[.bool false] 4)) (.cells #[.int .i64 m] 3);have z4:=World.size_alloc (((w.alloc (.cells #[.int .i64 0] 3)).alloc (.cells #[.bool false] 4)).alloc (.cells #[.int .i64 m] 3)) (.cells #[.slice ao k c] 120);have k1:=Cl.new w (.int .i64 0) 3;have k2:=Cl.new (w.alloc (.cells #[.int .i64 0] 3)) (.bool false) 4;have k3:=Cl.new ((w.alloc (.cells #[.int .i64 0] 3)).alloc (.cells #[.bool false] 4)) (.int .i64 m) 3;have k4:=Cl.new (((w.alloc (.cells #[.int .i64 0] 3)).alloc (.cells #[.bool false] 4)).alloc (.cells #[.int .i64 m] 3)) (.slice ao k c) 120;have k5:=Cl.new ((((w.alloc (.cells #[.int .i64 0] 3)).alloc (.cells #[.bool false] 4)).alloc (.cells #[.int .i64 m] 3)).alloc (.cells #[.slice ao k c] 120)) (.int .i64 d) 3;rw [z4,z3,z2,z1] at k5;rw [z3,z2,z1] at k4;rw [z2,z1] at k3;rw [z1] at k2;refine ⟨?_,?_,(((k1.alloc _).alloc _).alloc _).alloc _,((k2.alloc _).alloc _).alloc _,(k3.alloc _).alloc _,k4.alloc _,k5⟩
 ·rw [World.size_alloc,z4,z3,z2,z1]
 ·exact (((Hi w _ _).alloc (by rw [z2,z1];omega) _).alloc (by rw [z3,z2,z1];omega) _).alloc (by rw [z4,z3,z2,z1];omega) _
theorem gO (d:Int) (m:Nat) (ao:Option Addr) (c:Nat) (zs:List Int) (w:World) (hx:Aw w ao zs) (h1:zs.length≤1099511627776) (hd:Dn d=true) (ho:Ct zs=true) (hm0:1≤m) (hm:m≤400) :
  CallsIn Fence.wide 6 prog 338 #[.int .i64 d,.int .i64 m,.slice ao zs.length c] w fun e w'=>e=.returned (.tuple #[.int .i64 ((Pk zs (80000 - d).toNat m).getD 0),.bool (Pk zs (80000 - d).toNat m).isSome])∧BW w w':=by
 have HX:Hid (Aw w ao zs):=hx;clear hx
 have hm1:¬ (m:Int)<0:=by omega
 have hm2:¬ (400:Int)<(m:Int):=by omega
 have hm3:((m:Int) == 0)=false:=by simp;omega
 refine callsIn_of_wp_marks func338 rfl trivial ?_ rfl
 simp only [ntmps338,List.size_toArray,List.length_cons,List.length_nil,Nat.reduceAdd,Nat.reduceSub,Array.replicate_succ,Array.replicate_zero,List.push_toArray,List.append_toArray,List.nil_append,List.cons_append]
 gi_wp2_with fail
 refine ⟨trivial,(callsIn_wide.2 (Bm _ _)).mono ?_⟩;rintro e w1 ⟨rfl,hw1⟩;subst hw1
 gi_wp2_with fail
 refine ⟨trivial,(callsIn_wide.2 (Pp _ _ zs _ (Aw.below HX.o (Hi w _ _)) h1)).mono ?_⟩;rintro e w1 ⟨rfl,hw1⟩;subst hw1
 gi_wp2_with fail
 refine ⟨trivial,(callsIn_wide.2 (Re _ _ _ _ _)).mono ?_⟩;rintro e w1 ⟨rfl,hw1⟩;subst hw1
 gi_wp2_with fail
 obtain ⟨W0,hW0⟩:∃ W0,(((((w.alloc (.cells #[.int .i64 0] 3)).alloc (.cells #[.bool false] 4)).alloc (.cells #[.int .i64 m] 3)).alloc (.cells #[.slice ao zs.length c] 120)).alloc (.cells #[.int .i64 d] 3))=W0:=⟨_,rfl⟩;obtain ⟨hsz,hB0,k1,k2,k3,k4,k5⟩:=tJ w m ao zs.length c d W0 hW0.symm;rw [hW0];clear hW0;have HZ:Il w.heap.size W0 ao zs:=(Aw.in HX.o).keep hB0
 refine wpIn_rangeFunc_ownF (α:=Int) rfl (by omega) (gf:=354) (lb:=#[.pointer (some ⟨w.heap.size+1+1+1+1,0,none⟩),.pointer (some ⟨w.heap.size+1+1+1,0,none⟩)]) rfl trivial (enters_of func354 (by kernel_rfl) rfl)
  (Un 5 (by omega) (w.heap.size+1+1+1+1) (w.heap.size+1+1+1) w.heap.size c ao zs d W0 hd ho (by omega) (by omega) (by omega) k5.1 k4.1 HZ) kS (rT (by omega)) bR (fun _=>rfl)
  (fun pre W=>(pre.length<m∧Cl W (w.heap.size+1+1) (.int .i64 ((m:Int) - pre.length))∧Cl W w.heap.size (.int .i64 0)∧Cl W (w.heap.size+1) (.bool false))∧BW w W)
  (fun cd pre W=>(cd=.ret∧∃ (p:List Int) (x:Int),pre=p++[x]∧pre.length=m∧Cl W w.heap.size (.int .i64 x)∧Cl W (w.heap.size+1) (.bool true))∧BW w W)
  (OwnFrom.and (Own.from (fun s A B row hs hg hr=>⟨hs.1,hs.2.1.kept hg hr,hs.2.2.1.kept hg hr,hs.2.2.2.kept hg hr⟩) _) (ownFrom_below nL (by omega)))
  (fun cd=>OwnFrom.and (Own.from (fun s A B row hs hg hr=>by obtain ⟨e1,p,x,e2,e3,e4,e5⟩:=hs;exact ⟨e1,p,x,e2,e3,e4.kept hg hr,e5.kept hg hr⟩) _) (ownFrom_below nL (by omega)))
  ⟨⟨by simp;omega,by simpa using k3,k1,k2⟩,hB0⟩
  (fun x=>{ tmps:=#[.int .i64 d,.int .i64 m,.slice ao zs.length c,undef,undef,undef,.pointer (some ⟨w.heap.size,0,none⟩),.pointer (some ⟨w.heap.size+1,0,none⟩),.slice ao zs.length c,.pointer (some ⟨w.heap.size+1+1,0,none⟩),.int .i64 x,.slice ao zs.length c,.int .i64 d,.bool true,.bool false,.bool false,.int .i64 m,.bool (decide ((m:Int)<0)),.bool (decide ((m:Int)<0)),.bool (decide ((m:Int)<0)),.int .i64 m,.bool (decide ((400:Int)<(m:Int))),.bool (decide ((m:Int)<0) || decide ((400:Int)<(m:Int))),.bool (decide ((m:Int)<0) || decide ((400:Int)<(m:Int))),.slice ao zs.length c,.bool true,.bool false,.bool (decide ((m:Int)<0) || decide ((400:Int)<(m:Int))),.int .i64 m,.bool false,undef,.int .i64 m,.slice ao zs.length c,.int .i64 d,.func (.func 354) #[] #[.pointer (some ⟨w.heap.size+1+1+1+1,0,none⟩),.pointer (some ⟨w.heap.size+1+1+1,0,none⟩)],.int .i64 x,undef,undef,undef,undef,undef],defers:=[] }) ?assign ?body ?done ?stop
 case assign =>
  intro l x W K hK;have hsm:=Oper.semAt_some
  gi_wp2
  exact hK
 case body =>
  rintro l pre x W ⟨⟨hlen,kl,ka,kb⟩,hB⟩ _;obtain ⟨v,hv⟩:∃ v:Int,(m:Int) - pre.length=v:=⟨_,rfl⟩;rw [hv] at kl
  have hv1:1≤v:=by omega
  have hv2:v≤400:=by omega
  have HV:Hid _:=hv;have kl1:=kl.1;have kl2:=kl.2;have ka1:=ka.1;have ka2:=ka.2;have kb1:=kb.1;have kb2:=kb.2;clear hv
  cases he:(v - 1 == 0)
  ·have hne:v≠1:=by intro h;subst h;simp at he
   have hsm:=Oper.semAt_some
   gi_wp2
   exact ⟨KeepsOthers.setCell _ _ _,mF W _ (by omega) (by omega),⟨by have:=HV.o;simp;omega,by rw [show (m:Int) - (pre++[x]).length=v - 1 from by have:=HV.o;simp;omega];exact kl.same,ka.other (by omega),kb.other (by omega)⟩,Ld hB (by omega) _⟩
  ·have hve0:v - 1=0:=by simpa using he
   have hve:v=1:=by omega
   have hsm:=Oper.semAt_some
   gi_wp2
   refine ⟨((KeepsOthers.setCell _ _ _).trans (KeepsOthers.setCell _ _ _)).trans (KeepsOthers.setCell _ _ _),⟨rfl,pre,x,rfl,by have:=HV.o;simp;omega,((ka.other (by omega)).same).other (by omega),((kb.other (by omega)).other (by omega)).same⟩,?_⟩
   exact Ld (Ld (Ld hB (by omega) _) nL _) (by omega) _
 case done =>
  rintro D ys W hD rfl ⟨⟨hlen,kl,ka,kb⟩,hB⟩ hK;have HN:Hid _:=mE hm0 hlen;have ka1:=ka.1;have ka2:=ka.2;have kb1:=kb.1;have kb2:=kb.2
  gi_wp2
  have hK':=(KeepsOthers.setCell (W.setCell ⟨w.heap.size,0,none⟩ (.int .i64 0)) ⟨w.heap.size+1,0,none⟩ (.bool false)).same D _ ((KeepsOthers.setCell W ⟨w.heap.size,0,none⟩ (.int .i64 0)).same D _ hK rfl) rfl
  refine ⟨by simp,.inl ⟨_,_,rfl,run_takeDeferred hK',?_⟩⟩
  have qa:=(((ka.same (u:=.int .i64 0)).other (j:=w.heap.size+1) (u:=.bool false) (by omega)).put (o':=.deferred none) hK' rfl).1
  have qb:=(((kb.other (j:=w.heap.size) (u:=.int .i64 0) (by omega)).same (u:=.bool false)).put (o':=.deferred none) hK' rfl).1
  refine ⟨.tuple #[.int .i64 0,.bool false],?_,by rw [HN.o];rfl,(Ld (Ld hB nL _) (by omega) _).trans (belowK_b (w:=w) nL _ D _ _ (by omega) hK' rfl rfl)⟩
  simp [results,Tryz.f338,go_sem,qa,qb]
 case stop =>
  rintro D cd pre W hD hpre ⟨⟨rfl,p,x,rfl,hlen,ka,kb⟩,hB⟩ hK;have HN:Hid _:=nJ hpre hlen
  gi_wp2
  refine ⟨by simp,.inl ⟨_,_,rfl,run_takeDeferred hK,?_⟩⟩
  have qa:=(ka.put (o':=.deferred none) hK rfl).1;have qb:=(kb.put (o':=.deferred none) hK rfl).1
  refine ⟨.tuple #[.int .i64 x,.bool true],?_,by rw [HN.o];rfl,hB.trans (belowK_b (w:=w) nL W D _ _ (by omega) hK rfl rfl)⟩
  simp [results,Tryz.f338,go_sem,qa,qb]
theorem V1 (d n:Int) (ao:Option Addr) (c:Nat) (zs:List Int) (w:World) (hx:Aw w ao zs) (h1:zs.length≤1099511627776) :
  Calls prog 338 #[.int .i64 d,.int .i64 n,.slice ao zs.length c] w fun e w'=>e=.returned (.tuple #[.int .i64 ((Lh d n zs).getD 0),.bool (Lh d n zs).isSome])∧BW w w':=by
 by_cases h:Dn d=false∨n<0∨400<n∨Ct zs=false
 ·rw [Ps h];exact oH d n ao c zs w hx h1 h
 ·have hd:Dn d=true:=by cases e:Dn d;exact absurd (.inl e) h;rfl
  have ho:Ct zs=true:=by cases e:Ct zs;exact absurd (.inr (.inr (.inr e))) h;rfl
  obtain ⟨m,rfl⟩:=Int.eq_ofNat_of_zero_le (show 0≤n by omega)
  rw [V6 hd (by omega) (by omega) ho,show ((m:Int)).toNat=m from by omega]
  cases m with
  | zero =>
   have hb:=Ei hd
   rw [Wb,show 80000 - (((80000 - d).toNat:Nat):Int)=d from by omega]
   exact gN d ao c zs w hx h1 hd ho
  | succ m=>exact callsIn_wide.1 (gO d (m+1) ao c zs w hx h1 hd ho (by omega) (by omega))
theorem nP (w:World) (b:Int) (ao:Option Addr) (k c:Nat) (d:Int):∀ W0,W0=((((w.alloc (.cells #[.int .i64 b] 3)).alloc (.cells #[.int .i64 0] 3)).alloc (.cells #[.slice ao k c] 120)).alloc (.cells #[.int .i64 d] 3)) →
  W0.heap.size=w.heap.size+4∧BW w W0∧Cl W0 w.heap.size (.int .i64 b)∧Cl W0 (w.heap.size+1) (.int .i64 0)∧Cl W0 (w.heap.size+1+1) (.slice ao k c)∧Cl W0 (w.heap.size+1+1+1) (.int .i64 d):=by
 rintro _ rfl;have z1:=World.size_alloc w (.cells #[.int .i64 b] 3);have z2:=World.size_alloc (w.alloc (.cells #[.int .i64 b] 3)) (.cells #[.int .i64 0] 3);have z3:=World.size_alloc ((w.alloc (.cells #[.int .i64 b] 3)).alloc (.cells #[.int .i64 0] 3)) (.cells #[.slice ao k c] 120);have k1:=Cl.new w (.int .i64 b) 3;have k2:=Cl.new (w.alloc (.cells #[.int .i64 b] 3)) (.int .i64 0) 3;have k3:=Cl.new ((w.alloc (.cells #[.int .i64 b] 3)).alloc (.cells #[.int .i64 0] 3)) (.slice ao k c) 120;have k4:=Cl.new (((w.alloc (.cells #[.int .i64 b] 3)).alloc (.cells #[.int .i64 0] 3)).alloc (.cells #[.slice ao k c] 120)) (.int .i64 d) 3;rw [z3,z2,z1] at k4;rw [z2,z1] at k3;rw [z1] at k2;refine ⟨?_,?_,((k1.alloc _).alloc _).alloc _,(k2.alloc _).alloc _,k3.alloc _,k4⟩
 ·rw [World.size_alloc,z3,z2,z1]
 ·exact ((Hi w _ _).alloc (by rw [z2,z1];omega) _).alloc (by rw [z3,z2,z1];omega) _
end Go.Proofs.YtomiclakhjncbaaGreatDoor
namespace Go.Proofs.YtomiclakhjncbaaGreatDoor
open Go.RowKit Go.Proofs.Tryz
set_option maxRecDepth 100000
set_option maxHeartbeats 12800000
theorem V0 (d n:Int) (ao:Option Addr) (c:Nat) (zs:List Int) (w:World) (hx:Aw w ao zs) (h1:zs.length≤1099511627776) :
  Calls prog 264 #[.int .i64 d,.int .i64 n,.slice ao zs.length c] w fun e w'=>e=.returned (.tuple #[.int .i64 ((Lh d n zs).getD 0),.bool (Lh d n zs).isSome])∧BW w w':=by
 have HX:Hid (Aw w ao zs):=hx;clear hx
 cases hd:Dn d
 ·have HN:Hid _:=Ps (n:=n) (zs:=zs) (.inl hd)
  go_enter func264,ntmps264
  go_wp2_with fail
  refine (A9 _ _).mono ?_;rintro e w' ⟨rfl,hw⟩;subst hw;go_wp2;go_ret2
  exact ⟨Ji (by rw [HN.o];rfl) (by rw [HN.o];rfl),bR⟩
 ·cases hn:Gk n 0 400
  ·have HN:Hid (Lh d n zs=none):=by
     refine Ps ?_
     by_cases h0:n<0
     ·exact .inr (.inl h0)
     ·by_cases h4:400<n
      ·exact .inr (.inr (.inl h4))
      ·rw [Uh (by omega) (by omega)] at hn;cases hn
   go_enter func264,ntmps264
   go_wp2_with fail
   refine (A9 _ _).mono ?_;rintro e w' ⟨rfl,hw⟩;subst hw;go_wp2_with fail
   refine (Dl _ _ _ _).mono ?_;rintro e w' ⟨rfl,hw⟩;subst hw;go_wp2;go_ret2
   exact ⟨Ji (by rw [HN.o];rfl) (by rw [HN.o];rfl),bR⟩
  ·have hnb:0≤n∧n≤400:=by simpa [Gk] using hn
   cases ho:Ct zs
   ·have HN:Hid _:=Ps (d:=d) (n:=n) (.inr (.inr (.inr ho)))
    go_enter func264,ntmps264
    go_wp2_with fail
    refine (A9 _ _).mono ?_;rintro e w' ⟨rfl,hw⟩;subst hw;go_wp2_with fail
    refine (Dl _ _ _ _).mono ?_;rintro e w' ⟨rfl,hw⟩;subst hw;go_wp2_with fail
    refine (Rk _ _ zs _ HX.o h1).mono ?_;rintro e w1 ⟨rfl,b1⟩;go_wp2;go_ret2
    exact ⟨Ji (by rw [HN.o];rfl) (by rw [HN.o];rfl),b1⟩
   ·have HV:Hid _:=V6 hd hnb.1 hnb.2 ho
    have hdb:=Ei hd
    go_enter func264,ntmps264
    go_wp2_with fail
    refine (A9 _ _).mono ?_;rintro e w' ⟨rfl,hw⟩;subst hw;go_wp2_with fail
    refine (Dl _ _ _ _).mono ?_;rintro e w' ⟨rfl,hw⟩;subst hw;go_wp2_with fail
    refine (Rk _ _ zs _ HX.o h1).mono ?_;rintro e w1 ⟨rfl,b1⟩;have HX1:Hid (Aw w1 ao zs):=Aw.below HX.o b1;go_wp2
    go_loop [0,1] (fun p q=>∃ (f m:Nat),f≤80000∧m≤400∧p=.int .i64 (80000 - f)∧q=.int .i64 m∧Pk zs f m=Pk zs (80000 - d).toNat n.toNat) (fun p _=>(80000 - intOf p).toNat)
    case atStart=>exact ⟨(80000 - d).toNat,n.toNat,by omega,by omega,G6 (by omega),G6 (by omega),rfl⟩
    case round =>
     obtain ⟨f,m,hf,hm,rfl,rfl,ht⟩:=hrel;have HT:Hid _:=ht;clear ht;obtain ⟨y,hy⟩:∃ y:Int,80000 - (f:Int)=y:=⟨_,rfl⟩;rw [hy]
     have hy1:0≤y:=by omega
     have hy2:y≤80000:=by omega
     have HY:Hid _:=hy
     cases m with
     | zero =>
      have HE:Hid (Lh d n zs=some y):=by rw [Hid,HV.o,← HT.o,Wb,hy]
      clear hy;go_wp2;go_ret2
      exact ⟨Ji (by rw [HE.o];rfl) (by rw [HE.o];rfl),b1⟩
     | succ m =>
      have hmp:(0:Int)<((m+1:Nat):Int):=by omega
      cases f with
      | zero =>
       have hye:y=80000:=by omega
       have HE:Hid (Lh d n zs=none):=by rw [Hid,HV.o,← HT.o,pC]
       have hdk:Dn (y+1)=false:=pI (by omega)
       clear hy;go_wp2_with fail
       refine (A9 _ _).mono ?_;rintro e w' ⟨rfl,hw⟩;subst hw;go_wp2;go_ret2
       exact ⟨Ji (by rw [HE.o];rfl) (by rw [HE.o];rfl),b1⟩
      | succ f =>
       have HF:Hid (80000 - (f:Int)=y+1):=by rw [Hid];omega
       have hye:y≤79999:=by omega
       have hdk:Dn (y+1)=true:=Nq (by omega) (by omega)
       cases hw2:wk zs (y+1)
       ·have HR:Hid (Pk zs f (m+1)=Pk zs (80000 - d).toNat n.toNat):=by rw [Hid,← HT.o,qO (by rw [HF.o];exact hw2)]
        clear hy;go_wp2_with fail
        refine (A9 _ _).mono ?_;rintro e w' ⟨rfl,hw⟩;subst hw;go_wp2_with fail
        refine (Oh _ _ _ zs _ HX1.o h1 hdk).mono ?_;rintro e w' ⟨rfl,hw⟩;subst hw;go_wp2
        go_round
        case rel=>exact ⟨f,m+1,by omega,hm,G6 HF.o.symm,rfl,HR.o⟩
        case measure=>simp [intOf];omega
       ·have HR:Hid (Pk zs f m=Pk zs (80000 - d).toNat n.toNat):=by rw [Hid,← HT.o,oO (by rw [HF.o];exact hw2)]
        clear hy;go_wp2_with fail
        refine (A9 _ _).mono ?_;rintro e w' ⟨rfl,hw⟩;subst hw;go_wp2_with fail
        refine (Oh _ _ _ zs _ HX1.o h1 hdk).mono ?_;rintro e w' ⟨rfl,hw⟩;subst hw;go_wp2
        go_round
        case rel=>exact ⟨f,m,by omega,by omega,G6 HF.o.symm,G6 (by omega),HR.o⟩
        case measure=>simp [intOf];omega
def C6 (d n:Int) (zs:List Int):Int:=(Lh d n zs).getD (-1)
theorem bO {d n:Int} {zs:List Int} (h:Lh d n zs=none):C6 d n zs = -1:=by rw [C6,h];rfl
theorem Vz {d n y:Int} {zs:List Int} (h:Lh d n zs=some y):C6 d n zs=y:=by rw [C6,h];rfl
theorem Wi (d n:Int) (ao:Option Addr) (c:Nat) (zs:List Int) (w:World) (hx:Aw w ao zs) (h1:zs.length≤1099511627776) :
  Calls prog 330 #[.int .i64 d,.int .i64 n,.slice ao zs.length c] w fun e w'=>e=.returned (.int .i64 (C6 d n zs))∧BW w w':=by
 cases h:Lh d n zs with
 | none =>
  have HV:Hid _:=bO h
  have HC:Hid (Calls prog 338 #[.int .i64 d,.int .i64 n,.slice ao zs.length c] w fun e w'=>e=.returned (.tuple #[.int .i64 0,.bool false])∧BW w w'):=by
   have g:=V1 d n ao c zs w hx h1;rw [h] at g;exact g
  clear hx
  go_enter func330,ntmps330
  go_wp2_with fail
  refine Calls.mono HC.o ?_;rintro e w1 ⟨rfl,b1⟩;go_wp2;go_ret;exact ⟨Af HV.o.symm,b1⟩
 | some y =>
  have HV:Hid _:=Vz h
  have HC:Hid (Calls prog 338 #[.int .i64 d,.int .i64 n,.slice ao zs.length c] w fun e w'=>e=.returned (.tuple #[.int .i64 y,.bool true])∧BW w w'):=by
   have g:=V1 d n ao c zs w hx h1;rw [h] at g;exact g
  clear hx
  go_enter func330,ntmps330
  go_wp2_with fail
  refine Calls.mono HC.o ?_;rintro e w1 ⟨rfl,b1⟩;go_wp2;go_ret;exact ⟨Af HV.o.symm,b1⟩
theorem Ir (d n:Int) (ao:Option Addr) (c:Nat) (zs:List Int) (w:World) (hx:Aw w ao zs) (h1:zs.length≤1099511627776) :
  Calls prog 222 #[.int .i64 d,.int .i64 n,.slice ao zs.length c] w fun e w'=>e=.returned (.int .i64 (C6 d n zs))∧BW w w':=by
 cases h:Lh d n zs with
 | none =>
  have HV:Hid _:=bO h
  have HC:Hid (Calls prog 264 #[.int .i64 d,.int .i64 n,.slice ao zs.length c] w fun e w'=>e=.returned (.tuple #[.int .i64 0,.bool false])∧BW w w'):=by
   have g:=V0 d n ao c zs w hx h1;rw [h] at g;exact g
  clear hx
  go_enter func222,ntmps222
  go_wp2_with fail
  refine Calls.mono HC.o ?_;rintro e w1 ⟨rfl,b1⟩;go_wp2;go_ret;exact ⟨Af HV.o.symm,b1⟩
 | some y =>
  have HV:Hid _:=Vz h
  have HC:Hid (Calls prog 264 #[.int .i64 d,.int .i64 n,.slice ao zs.length c] w fun e w'=>e=.returned (.tuple #[.int .i64 y,.bool true])∧BW w w'):=by
   have g:=V0 d n ao c zs w hx h1;rw [h] at g;exact g
  clear hx
  go_enter func222,ntmps222
  go_wp2_with fail
  refine Calls.mono HC.o ?_;rintro e w1 ⟨rfl,b1⟩;go_wp2;go_ret;exact ⟨Af HV.o.symm,b1⟩
end Go.Proofs.YtomiclakhjncbaaGreatDoor
namespace Go.Proofs.YtomiclakhjncbaaGreatDoor
open Go.Proofs.Tryz
set_option maxRecDepth 100000
set_option maxHeartbeats 12800000
def Bg (c:Cs) (x:Int):List En:=if x=0 then [] else [(c.acq,c.iss,c.cur,x)]
def Dw (c:Cs) (x:Int):List En:=if x=0 then [] else [(c.iss,c.acq,c.cur,x)]
def I5 (c:Cs) (x:Int):Cs:=⟨c.iss,c.acq,c.cur,c.am,7,c.rsn,0,c.bk+x,c.fee,c.cop,c.sta,-1⟩
def Oo (c:Cs) (x:Int):Int:=if c.cl≤2*x then c.acq else c.iss
def Es (c:Cs) (x:Int):Cs:=⟨c.iss,c.acq,c.cur,c.am,7,c.rsn,0,c.bk+x,c.fee+50000,c.cop,c.sta,-1⟩
def Dg (c:Cs) (x:Int):List En:=Bg c x++[(Oo c x,9999,c.cur,50000)]
def J9 (c:Cs):Cs:=⟨c.iss,c.acq,c.cur,c.am,2,c.rsn,c.cl,c.bk,c.fee,true,c.sta,-1⟩
def Dx (st k:Int):Bool :=
 if k=0 then decide (st=0) else if k=1 then decide (st=1) else if k=2 then decide (0≤st∧st≤2) else if k=3 then decide (st=3) else if k=4 then decide (st=4)
 else if k=5 then decide (st=5) else if k=6 then decide (st=5) else if k=7 then decide (st=6) else if k=8 then decide (st=1∨3≤st∧st≤6) else if k=9 then decide (st=0∨st=2) else false
theorem Jt {st k:Int} (h:Dx st k=true):(k=0∧st=0)∨(k=1∧st=1)∨(k=2∧(st=0∨st=1∨st=2))∨(k=3∧st=3)∨(k=4∧st=4)∨(k=5∧st=5)∨(k=6∧st=5)∨(k=7∧st=6)∨(k=8∧(st=1∨st=3∨st=4∨st=5∨st=6))∨(k=9∧(st=0∨st=2)):=by
 unfold Dx at h
 repeat' split at h
 all_goals simp at h
 all_goals omega
def E4 (c:Cs) (t:Int):Bool:=c.cop || (decide (c.st=1) && Bv t c.due)
def Bs (c:Cs) (a:Ac) (t:Int) (zs:List Int):Int :=
 if Oy a.rsn=false∨(E8 a.rsn=true∧E4 c t=false) then 3
 else if ¬ (1≤a.am∧a.am≤c.am)∨(a.am<c.am∧Gb a.rsn=false) then 2
 else if Bv t (C6 c.sta (Fs a.rsn) zs)=true then 4 else 0
def B4 (c:Cs) (a:Ac) (t:Int) (zs:List Int):Int :=
 if a.kind=2 then Bs c a t zs
 else if a.kind=1∨a.kind=6 then (if Bv t c.due=true then 4 else 0)
 else if a.kind=3∨a.kind=4 then (if Bv t c.due=true then 4 else if 1≤a.am∧a.am≤c.cl then 0 else 2)
 else if a.kind=7 then (if 0≤a.am∧a.am≤c.cl then 0 else 2)
 else if a.kind=8 then (if Bv t c.due=true then 0 else 4) else 0
def Cx (c:Cs):Cs:=if c.st=1 then J9 c else if c.st=5 then I5 c c.cl else if c.st=6 then Es c (c.cl / 2) else I5 c 0
def Ck (c:Cs):List En:=if c.st=1 then [] else if c.st=5 then Bg c c.cl else if c.st=6 then Dg c (c.cl / 2) else []
def Bx (c:Cs) (a:Ac) (t:Int) (zs:List Int):Cs :=
 if a.kind=0 then ⟨c.iss,c.acq,c.cur,c.am,1,c.rsn,c.cl,c.bk,c.fee,c.cop,c.sta,C6 t 20 zs⟩
 else if a.kind=1 then J9 c
 else if a.kind=2 then ⟨c.iss,c.acq,c.cur,c.am,3,a.rsn,a.am,a.am,c.fee,c.cop,c.sta,C6 t 30 zs⟩
 else if a.kind=3 then ⟨c.iss,c.acq,c.cur,c.am,4,c.rsn,a.am,c.bk - a.am,c.fee,c.cop,c.sta,C6 t 30 zs⟩
 else if a.kind=4 then ⟨c.iss,c.acq,c.cur,c.am,5,c.rsn,a.am,c.bk,c.fee,c.cop,c.sta,C6 t 15 zs⟩
 else if a.kind=5 then I5 c c.cl
 else if a.kind=6 then ⟨c.iss,c.acq,c.cur,c.am,6,c.rsn,c.cl,c.bk,c.fee,c.cop,c.sta,C6 t 60 zs⟩
 else if a.kind=7 then Es c a.am
 else if a.kind=8 then Cx c
 else ⟨c.iss,c.acq,c.cur,c.am,7,c.rsn,c.cl,c.bk,c.fee,c.cop,c.sta,-1⟩
def Bw (c:Cs) (a:Ac):List En :=
 if a.kind=2 then Bg c a.am else if a.kind=3 then Dw c a.am else if a.kind=5 then Bg c c.cl else if a.kind=7 then Dg c a.am else if a.kind=8 then Ck c else []
def D7 (c:Cs) (t:Int) (zs:List Int):Bool:=Ao c && (Dn t && (decide (c.sta≤t) && Ct zs))
def doV (c:Cs) (a:Ac) (t:Int) (zs:List Int):Int :=
 if D7 c t zs=false then 5 else if Dx c.st a.kind=false then 1 else if B4 c a t zs≠0 then B4 c a t zs else if Ao (Bx c a t zs)=true then 0 else 1
def doC (c:Cs) (a:Ac) (t:Int) (zs:List Int):Cs:=if doV c a t zs=0 then Bx c a t zs else c
def doE (c:Cs) (a:Ac) (t:Int) (zs:List Int):List En:=if doV c a t zs=0 then Bw c a else []
theorem Lc (c:Cs) (n:Int):(Bg c n).length≤1:=by unfold Bg;split <;> simp
theorem Xq (c:Cs) (n:Int):(Dw c n).length≤1:=by unfold Dw;split <;> simp
theorem S3 (c:Cs) (n:Int):(Dg c n).length≤2:=by
 have:=Lc c n
 unfold Dg;simp;omega
theorem Xb (c:Cs):(Ck c).length≤2:=by
 have h1:=Lc c c.cl;have h2:=S3 c (c.cl / 2);unfold Ck
 split
 ·simp
 ·split
  ·omega
  ·split
   ·omega
   ·simp
theorem dZ (c:Cs) (a:Ac):(Bw c a).length≤2:=by
 have h1:=Lc c a.am;have h2:=Xq c a.am;have h3:=Lc c c.cl;have h4:=S3 c a.am;have h5:=Xb c;unfold Bw
 split
 ·omega
 ·split
  ·omega
  ·split
   ·omega
   ·split
    ·omega
    ·split
     ·omega
     ·simp
theorem bM (c:Cs) (a:Ac) (t:Int) (zs:List Int):(doE c a t zs).length≤2:=by
 unfold doE;split
 ·exact dZ c a
 ·simp
def ofC (c:Cs) (x:Int):Prop:=x=c.iss∨x=c.acq∨x=9999
theorem tV {c:Cs} {n:Int} {e:En} (h:e ∈ Bg c n):ofC c e.1∧ofC c e.2.1:=by
 unfold Bg at h
 split at h
 ·cases h
 ·simp at h;subst h;exact ⟨.inr (.inl rfl),.inl rfl⟩
theorem wD {c:Cs} {n:Int} {e:En} (h:e ∈ Dw c n):ofC c e.1∧ofC c e.2.1:=by
 unfold Dw at h
 split at h
 ·cases h
 ·simp at h;subst h;exact ⟨.inl rfl,.inr (.inl rfl)⟩
theorem vK {c:Cs} {n:Int} {e:En} (h:e ∈ Dg c n):ofC c e.1∧ofC c e.2.1:=by
 unfold Dg at h
 rcases List.mem_append.1 h with h | h
 ·exact tV h
 ·simp at h;subst h
  refine ⟨?_,.inr (.inr rfl)⟩
  show ofC c (Oo c n)
  unfold Oo;split
  ·exact .inr (.inl rfl)
  ·exact .inl rfl
theorem wI {c:Cs} {e:En} (h:e ∈ Ck c):ofC c e.1∧ofC c e.2.1:=by
 unfold Ck at h
 split at h
 ·cases h
 ·split at h
  ·exact tV h
  ·split at h
   ·exact vK h
   ·cases h
theorem Aak {c:Cs} {a:Ac} {t:Int} {zs:List Int} {e:En} (h:e ∈ doE c a t zs):ofC c e.1∧ofC c e.2.1:=by
 unfold doE at h
 split at h
 ·unfold Bw at h
  split at h
  ·exact tV h
  ·split at h
   ·exact wD h
   ·split at h
    ·exact tV h
    ·split at h
     ·exact vK h
     ·split at h
      ·exact wI h
      ·cases h
 ·cases h
theorem vW (c:Cs):(Cx c).iss=c.iss∧(Cx c).acq=c.acq:=by
 unfold Cx
 split
 ·exact ⟨rfl,rfl⟩
 ·split
  ·exact ⟨rfl,rfl⟩
  ·split <;> exact ⟨rfl,rfl⟩
theorem yA (c:Cs) (a:Ac) (t:Int) (zs:List Int):(doC c a t zs).iss=c.iss∧(doC c a t zs).acq=c.acq:=by
 unfold doC
 split
 ·unfold Bx
  by_cases h0:a.kind=0
  ·rw [if_pos h0];exact ⟨rfl,rfl⟩
  rw [if_neg h0]
  by_cases h1:a.kind=1
  ·rw [if_pos h1];exact ⟨rfl,rfl⟩
  rw [if_neg h1]
  by_cases h2:a.kind=2
  ·rw [if_pos h2];exact ⟨rfl,rfl⟩
  rw [if_neg h2]
  by_cases h3:a.kind=3
  ·rw [if_pos h3];exact ⟨rfl,rfl⟩
  rw [if_neg h3]
  by_cases h4:a.kind=4
  ·rw [if_pos h4];exact ⟨rfl,rfl⟩
  rw [if_neg h4]
  by_cases h5:a.kind=5
  ·rw [if_pos h5];exact ⟨rfl,rfl⟩
  rw [if_neg h5]
  by_cases h6:a.kind=6
  ·rw [if_pos h6];exact ⟨rfl,rfl⟩
  rw [if_neg h6]
  by_cases h7:a.kind=7
  ·rw [if_pos h7];exact ⟨rfl,rfl⟩
  rw [if_neg h7]
  by_cases h8:a.kind=8
  ·rw [if_pos h8];exact vW c
  rw [if_neg h8];exact ⟨rfl,rfl⟩
 ·exact ⟨rfl,rfl⟩
theorem Zn (c:Cs) (a:Ac) (t:Int) (zs:List Int):0≤Bs c a t zs∧Bs c a t zs≤4:=by
 unfold Bs
 split
 ·omega
 ·split
  ·omega
  ·split <;> omega
theorem iL (c:Cs) (a:Ac) (t:Int) (zs:List Int):0≤B4 c a t zs∧B4 c a t zs≤4:=by
 have h:=Zn c a t zs;unfold B4
 split
 ·exact h
 ·split
  ·split <;> omega
  ·split
   ·split
    ·omega
    ·split <;> omega
   ·split
    ·split <;> omega
    ·split
     ·split <;> omega
     ·omega
theorem kB (c:Cs) (a:Ac) (t:Int) (zs:List Int):0≤doV c a t zs∧doV c a t zs≤5:=by
 have h:=iL c a t zs;unfold doV
 split
 ·omega
 ·split
  ·omega
  ·split
   ·omega
   ·split <;> omega
end Go.Proofs.YtomiclakhjncbaaGreatDoor
namespace Go.Proofs.YtomiclakhjncbaaGreatDoor
open Go.RowKit Go.Proofs.Tryz
set_option maxRecDepth 100000
set_option maxHeartbeats 12800000
theorem T7 {x a b:Int} {q:Bool} (h:Gk x a b=q) (w:World):Calls prog 134 #[.int .i64 x,.int .i64 a,.int .i64 b] w fun e w'=>e=.returned (.bool q)∧w'=w:=by rw [← h];exact Dl x a b w
theorem Pe (a:Au) (w:World) (hl:a.ref.length≤1099511627776) :
  Calls prog 179 #[Fe a] w fun e w'=>e=.returned (.bool (Gy a))∧BW w w':=by
 obtain ⟨r,i,c,m,d,u⟩:=a
 simp only [Fe] at hl ⊢
 have HV:Hid (Gy ⟨r,i,c,m,d,u⟩=((decide (r.length=12) && A6 33 126 r) && (Cb i && (decide (0≤Dc c) && (decide (1≤m∧m≤100000000000) && Dn d))))):=rfl;obtain ⟨W,hW⟩:∃ W,w.alloc (.cells #[.string ⟨r.toArray⟩,.int .i64 i,.int .i64 c,.int .i64 m,.int .i64 d,.bool u] 107)=W:=⟨_,rfl⟩;have bW:BW w W:=hW ▸ bR.alloc nL _;have HBW:Hid (BW w W):=bW
 have c0:W.cell? ⟨w.heap.size,0,none⟩=some (.string ⟨r.toArray⟩):=by rw [← hW];simp
 have c1:W.cell? ⟨w.heap.size,1,none⟩=some (.int .i64 i):=by rw [← hW];simp
 have c2:W.cell? ⟨w.heap.size,2,none⟩=some (.int .i64 c):=by rw [← hW];simp
 have c3:W.cell? ⟨w.heap.size,3,none⟩=some (.int .i64 m):=by rw [← hW];simp
 have c4:W.cell? ⟨w.heap.size,4,none⟩=some (.int .i64 d):=by rw [← hW];simp
 have lW:w.heap.size<W.heap.size:=by rw [← hW];simp
 have HW:Hid _:=hW;clear hW bW
 go_enter func179,ntmps179
 go_wp2;rw [HW.o];clear HW
 go_loopw [3] (fun i wr=>∃ k:Nat,k≤r.length∧i=.int .i64 k∧A6 33 126 r=A6 33 126 (r.drop k)∧wr=W) (fun i _=>r.length - (intOf i).toNat)
 case atStart=>exact ⟨0,Nat.zero_le _,rfl,rfl,rfl⟩
 case round =>
  obtain ⟨k,hk,rfl,ht,hwr⟩:=hrel;subst hwr
  by_cases hlt:k<r.length
  ·have hki:(k:Int)<(r.length:Int):=by omega
   have hs:=Ic 33 126 r k hlt
   obtain ⟨b,hb⟩:∃ b,(⟨r.toArray⟩:ByteArray)[k]'(by rw [Fo];exact hlt)=b:=⟨_,rfl⟩
   rw [(Je r k hlt).trans hb,← Uu b 33 126] at hs;have HS:Hid _:=ht.trans hs;have hwc:=Su b;clear hs ht
   cases hin:Gk (b.toNat:Int) 33 126
   ·have HN:Hid (A6 33 126 r=false):=by rw [Hid,HS.o];simp [hin]
    clear HS;go_wp2_with fail
    refine (T7 hin _).mono ?_;rintro e w1 ⟨rfl,hw1⟩;subst hw1;go_wp2;go_ret
    exact ⟨Aa (by rw [HV.o,HN.o];simp),HBW.o⟩
   ·have HY:Hid (A6 33 126 r=A6 33 126 (r.drop (k+1))):=by rw [Hid,HS.o];simp [hin]
    clear HS;go_wp2_with fail
    refine (T7 hin _).mono ?_;rintro e w1 ⟨rfl,hw1⟩;subst hw1;go_wp2
    go_roundw
    case rel=>exact ⟨k+1,by omega,by go_num,HY.o,trivial⟩
    case measure=>simp [intOf];omega
  ·have hke:k=r.length:=by omega
   subst hke
   have HE:Hid (A6 33 126 r=true):=by rw [Hid,ht,I9]
   clear ht
   by_cases h12:r.length=12
   ·have hq:((r.length:Int) == 12)=true:=by simp [h12]
    have HV1:Hid (Gy ⟨r,i,c,m,d,u⟩=(Cb i && (decide (0≤Dc c) && (decide (1≤m∧m≤100000000000) && Dn d)))):=by rw [Hid,HV.o,HE.o,decide_eq_true h12];rfl
    clear h12 HV HE
    cases hi:Cb i
    ·go_wp2_with fail
     refine (Do hi _).mono ?_;rintro e w1 ⟨rfl,hw1⟩;subst hw1;go_wp2;go_ret
     exact ⟨Aa (by rw [HV1.o,hi];rfl),HBW.o⟩
    ·go_wp2_with fail
     refine (Do hi _).mono ?_;rintro e w1 ⟨rfl,hw1⟩;subst hw1;go_wp2_with fail
     refine (Ga c _).mono ?_;rintro e w2 ⟨rfl,b2⟩;have e3:w2.cell? ⟨w.heap.size,3,none⟩=some (.int .i64 m):=(b2.cell (p:=⟨w.heap.size,3,none⟩) lW).trans c3;have e4:w2.cell? ⟨w.heap.size,4,none⟩=some (.int .i64 d):=(b2.cell (p:=⟨w.heap.size,4,none⟩) lW).trans c4;have HB:Hid (BW w w2):=HBW.o.trans (b2.mono HBW.o.size);rw [hi] at HV1;clear c0 c1 c2 c3 c4 b2 HBW
     by_cases hd:0≤Dc c
     ·cases hin:Gk m 1 100000000000
      ·have HVV:Hid (Gy ⟨r,i,c,m,d,u⟩=false):=by
         have:decide (1≤m∧m≤100000000000)=false:=hin
         rw [Hid,HV1.o,decide_eq_true hd,this];rfl
       clear HV1
       generalize Dc c=g at hd
       go_wp2_with fail
       refine (T7 hin _).mono ?_;rintro e w3 ⟨rfl,hw3⟩;subst hw3;go_wp2;go_ret;exact ⟨Aa HVV.o.symm,HB.o⟩
      ·have HVV:Hid (Gy ⟨r,i,c,m,d,u⟩=Dn d):=by
         have:decide (1≤m∧m≤100000000000)=true:=hin
         rw [Hid,HV1.o,decide_eq_true hd,this];rfl
       clear HV1
       generalize Dc c=g at hd
       go_wp2_with fail
       refine (T7 hin _).mono ?_;rintro e w3 ⟨rfl,hw3⟩;subst hw3;go_wp2_with fail
       refine (A9 d _).mono ?_;rintro e w3 ⟨rfl,hw3⟩;subst hw3
       generalize Dn d=q at HVV
       go_wp2;go_ret;exact ⟨Aa HVV.o.symm,HB.o⟩
     ·have HVV:Hid (Gy ⟨r,i,c,m,d,u⟩=false):=by rw [Hid,HV1.o,decide_eq_false hd];rfl
      clear HV1
      generalize Dc c=g at hd
      go_wp2;go_ret;exact ⟨Aa HVV.o.symm,HB.o⟩
   ·have hq:((r.length:Int) == 12)=false:=by simp;omega
    have HV1:Hid (Gy ⟨r,i,c,m,d,u⟩=false):=by rw [Hid,HV.o,decide_eq_false h12];rfl
    clear h12 HV HE;go_wp2;go_ret;exact ⟨Aa HV1.o.symm,HBW.o⟩
theorem X6 (a:Au) (iss cur am day:Int) (w:World) (hl:a.ref.length≤1099511627776) (_w3:(Lit.int .i64 am).wf=true) (w4:(Lit.int .i64 day).wf=true) :
  Calls prog 218 #[Fe a,.int .i64 iss,.int .i64 cur,.int .i64 am,.int .i64 day] w fun e w'=>e=.returned (.int .i64 (Co a iss cur am day))∧BW w w':=by
 have hday:=cL w4;have HV:=lP a iss cur am day;obtain ⟨q,hq⟩:∃ q,Gy a=q:=⟨_,rfl⟩
 have HO:Hid (∀ u,Calls prog 179 #[Fe a] u fun e w'=>e=.returned (.bool q)∧BW u w'):=fun u=>by rw [← hq];exact Pe a u hl
 have HN:Hid (Xr a iss cur am day=false→Co a iss cur am day = -1):=Vt;have HY:Hid (Xr a iss cur am day=true→Co a iss cur am day=8*Ue (am - a.am)+day - a.day):=Tj;obtain ⟨W,hW⟩:∃ W,W=w.alloc (.cells #[.string ⟨a.ref.toArray⟩,.int .i64 a.iss,.int .i64 a.cur,.int .i64 a.am,.int .i64 a.day,.bool a.used] 107):=⟨_,rfl⟩
 have B:Jo w.heap.size a W:=by rw [hW];exact Jo.new w a _
 have HBB:Hid (Jo w.heap.size a W):=B
 have bW:BW w W:=by rw [hW];exact bR.alloc nL _
 have HBW:Hid (BW w W):=bW;clear bW _w3 w4
 cases q
 ·have HE:Hid (Co a iss cur am day = -1):=HN.o (by rw [HV,hq];rfl)
  clear HV HN HY hq;obtain ⟨r,i,c,m,d,u⟩:=a;unfold Fe at HO ⊢
  simp only at hW HO  ⊢
  have HW:Hid _:=hW;obtain ⟨f0,f1,f2,f3,f4,f5⟩:=B;clear hW
  go_enter func218,ntmps218
  go_upto_region 1 with fail
  rw [← HW.o];go_wp2_with fail
  refine (HO.o _).mono ?_;rintro e u1 ⟨rfl,b1⟩;have B1:=HBB.o.below b1;have HB1:Hid (BW w u1):=next HBW.o b1;clear b1 f0 f1 f2 f3 f4 f5;obtain ⟨f0,f1,f2,f3,f4,f5⟩:=B1
  simp only at f0 f1 f2 f3 f4 f5
  go_wp2;go_ret;exact ⟨Af HE.o.symm,HB1.o⟩
 obtain ⟨-,-,-,hmm,hdd⟩:=L0 hq;have hdb:=Ei hdd
 have HTB:Hid (E9 a day=true→a.day≤day∧day≤a.day+7):=fun h=>of_decide_eq_true h
 have HSB:Hid (Ia a am=true→1≤am∧am≤a.am+a.am / 10):=fun h=>of_decide_eq_true h
 have HT:Hid (∀ u,Calls prog 134 #[.int .i64 day,.int .i64 a.day,.int .i64 (a.day+7)] u fun e w'=>e=.returned (.bool (E9 a day))∧w'=u):=fun u=>Dl day a.day (a.day+7) u
 have HS:Hid (∀ u,Calls prog 134 #[.int .i64 am,.int .i64 1,.int .i64 (a.am+a.am / 10)] u fun e w'=>e=.returned (.bool (Ia a am))∧w'=u):=fun u=>Dl am 1 (a.am+a.am / 10) u
 have hq10:a.am.tdiv 10=a.am / 10:=Int.tdiv_eq_ediv_of_nonneg (by omega)
 rw [hq,Bool.true_and] at HV;clear hq hdd
 cases hu:a.used
 ·rw [hu,Bool.not_false,Bool.true_and] at HV
  cases hi:(a.iss != iss)
  ·have hi':decide (a.iss=iss)=true:=decide_eq_true (by simpa using hi)
   rw [hi',Bool.true_and] at HV
   cases hcu:(a.cur != cur)
   ·have hc':decide (a.cur=cur)=true:=decide_eq_true (by simpa using hcu)
    rw [hc',Bool.true_and] at HV
    cases ht:E9 a day
    ·have HE:Hid (Co a iss cur am day = -1):=HN.o (by rw [HV,ht];rfl)
     rw [ht] at HT;clear HV HN HY ht HS HTB HSB hi' hc' hq10;obtain ⟨r,i,c,m,d,u⟩:=a;unfold Fe at HO ⊢
     simp only at hW HO HT hu hi hcu hmm hdb ⊢
     subst hu;have HW:Hid _:=hW;obtain ⟨f0,f1,f2,f3,f4,f5⟩:=B;clear hW
     go_enter func218,ntmps218
     go_upto_region 1 with fail
     rw [← HW.o];go_wp2_with fail
     refine (HO.o _).mono ?_;rintro e u1 ⟨rfl,b1⟩;have B1:=HBB.o.below b1;have HB1:Hid (BW w u1):=next HBW.o b1;clear b1 f0 f1 f2 f3 f4 f5;obtain ⟨f0,f1,f2,f3,f4,f5⟩:=B1
     simp only at f0 f1 f2 f3 f4 f5
     go_wp2_with fail
     refine (HT.o _).mono ?_;rintro e u2 ⟨rfl,hu2⟩;subst hu2;go_wp2;go_ret;exact ⟨Af HE.o.symm,HB1.o⟩
    ·rw [ht,Bool.true_and] at HV
     rw [ht] at HT;have htb:=HTB.o ht
     cases hs:Ia a am
     ·have HE:Hid (Co a iss cur am day = -1):=HN.o (by rw [HV,hs])
      rw [hs] at HS;clear HV HN HY ht HTB HSB hi' hc' hs htb;obtain ⟨tt,htt⟩:∃ t,a.am / 10=t:=⟨_,rfl⟩
      have ht1:0≤tt∧tt≤10000000000:=by omega
      rw [htt] at HS hq10;clear htt;obtain ⟨r,i,c,m,d,u⟩:=a;unfold Fe at HO ⊢
      simp only at hW HO HT HS hu hi hcu hmm hdb hq10 ⊢
      subst hu;have HW:Hid _:=hW;obtain ⟨f0,f1,f2,f3,f4,f5⟩:=B;clear hW
      go_enter func218,ntmps218
      go_upto_region 1 with fail
      rw [← HW.o];go_wp2_with fail
      refine (HO.o _).mono ?_;rintro e u1 ⟨rfl,b1⟩;have B1:=HBB.o.below b1;have HB1:Hid (BW w u1):=next HBW.o b1;clear b1 f0 f1 f2 f3 f4 f5;obtain ⟨f0,f1,f2,f3,f4,f5⟩:=B1
      simp only at f0 f1 f2 f3 f4 f5
      go_wp2_with fail
      refine (HT.o _).mono ?_;rintro e u2 ⟨rfl,hu2⟩;subst hu2;go_wp2_with fail
      refine (HS.o _).mono ?_;rintro e u2 ⟨rfl,hu2⟩;subst hu2;go_wp2;go_ret;exact ⟨Af HE.o.symm,HB1.o⟩
     ·have hsb:=HSB.o hs
      rw [hs] at HS
      have HEE:Hid (Co a iss cur am day=8*Ue (am - a.am)+day - a.day):=by rw [Hid,HY.o (by rw [HV,hs])]
      clear HV HN HY ht HTB HSB hi' hc' hs;obtain ⟨tt,htt⟩:∃ t,a.am / 10=t:=⟨_,rfl⟩
      have ht1:0≤tt∧tt≤10000000000:=by omega
      rw [htt] at HS hq10 hsb;clear htt
      by_cases hng:am - a.am<0
      ·have HE:Hid (Co a iss cur am day=8 * (-(am - a.am))+day - a.day):=by rw [Hid,HEE.o,Ue,if_pos hng]
       clear HEE;obtain ⟨r,i,c,m,d,u⟩:=a;unfold Fe at HO ⊢
       simp only at hW HO HT HS HE hu hi hcu hmm hdb htb hsb hq10 hng ⊢
       subst hu;have HW:Hid _:=hW;obtain ⟨f0,f1,f2,f3,f4,f5⟩:=B;clear hW
       go_enter func218,ntmps218
       go_upto_region 1 with fail
       rw [← HW.o];go_wp2_with fail
       refine (HO.o _).mono ?_;rintro e u1 ⟨rfl,b1⟩;have B1:=HBB.o.below b1;have HB1:Hid (BW w u1):=next HBW.o b1;clear b1 f0 f1 f2 f3 f4 f5;obtain ⟨f0,f1,f2,f3,f4,f5⟩:=B1
       simp only at f0 f1 f2 f3 f4 f5
       go_wp2_with fail
       refine (HT.o _).mono ?_;rintro e u2 ⟨rfl,hu2⟩;subst hu2;go_wp2_with fail
       refine (HS.o _).mono ?_;rintro e u2 ⟨rfl,hu2⟩;subst hu2;go_wp2;go_ret;exact ⟨Af HE.o.symm,HB1.o⟩
      ·have HE:Hid (Co a iss cur am day=8 * (am - a.am)+day - a.day):=by rw [Hid,HEE.o,Ue,if_neg hng]
       clear HEE;obtain ⟨r,i,c,m,d,u⟩:=a;unfold Fe at HO ⊢
       simp only at hW HO HT HS HE hu hi hcu hmm hdb htb hsb hq10 hng ⊢
       subst hu;have HW:Hid _:=hW;obtain ⟨f0,f1,f2,f3,f4,f5⟩:=B;clear hW
       go_enter func218,ntmps218
       go_upto_region 1 with fail
       rw [← HW.o];go_wp2_with fail
       refine (HO.o _).mono ?_;rintro e u1 ⟨rfl,b1⟩;have B1:=HBB.o.below b1;have HB1:Hid (BW w u1):=next HBW.o b1;clear b1 f0 f1 f2 f3 f4 f5;obtain ⟨f0,f1,f2,f3,f4,f5⟩:=B1
       simp only at f0 f1 f2 f3 f4 f5
       go_wp2_with fail
       refine (HT.o _).mono ?_;rintro e u2 ⟨rfl,hu2⟩;subst hu2;go_wp2_with fail
       refine (HS.o _).mono ?_;rintro e u2 ⟨rfl,hu2⟩;subst hu2;go_wp2;go_ret;exact ⟨Af HE.o.symm,HB1.o⟩
   ·have hc':decide (a.cur=cur)=false:=decide_eq_false (by simpa using hcu)
    have HE:Hid (Co a iss cur am day = -1):=HN.o (by rw [HV,hc'];rfl)
    clear HV HN HY HT HS HTB HSB hi' hc' hq10;obtain ⟨r,i,c,m,d,u⟩:=a;unfold Fe at HO ⊢
    simp only at hW HO hu hi hcu hmm hdb ⊢
    subst hu;have HW:Hid _:=hW;obtain ⟨f0,f1,f2,f3,f4,f5⟩:=B;clear hW
    go_enter func218,ntmps218
    go_upto_region 1 with fail
    rw [← HW.o];go_wp2_with fail
    refine (HO.o _).mono ?_;rintro e u1 ⟨rfl,b1⟩;have B1:=HBB.o.below b1;have HB1:Hid (BW w u1):=next HBW.o b1;clear b1 f0 f1 f2 f3 f4 f5;obtain ⟨f0,f1,f2,f3,f4,f5⟩:=B1
    simp only at f0 f1 f2 f3 f4 f5
    go_wp2;go_ret;exact ⟨Af HE.o.symm,HB1.o⟩
  ·have hi':decide (a.iss=iss)=false:=decide_eq_false (by simpa using hi)
   have HE:Hid (Co a iss cur am day = -1):=HN.o (by rw [HV,hi'];rfl)
   clear HV HN HY HT HS HTB HSB hi' hq10;obtain ⟨r,i,c,m,d,u⟩:=a;unfold Fe at HO ⊢
   simp only at hW HO hu hi hmm hdb ⊢
   subst hu;have HW:Hid _:=hW;obtain ⟨f0,f1,f2,f3,f4,f5⟩:=B;clear hW
   go_enter func218,ntmps218
   go_upto_region 1 with fail
   rw [← HW.o];go_wp2_with fail
   refine (HO.o _).mono ?_;rintro e u1 ⟨rfl,b1⟩;have B1:=HBB.o.below b1;have HB1:Hid (BW w u1):=next HBW.o b1;clear b1 f0 f1 f2 f3 f4 f5;obtain ⟨f0,f1,f2,f3,f4,f5⟩:=B1
   simp only at f0 f1 f2 f3 f4 f5
   go_wp2;go_ret;exact ⟨Af HE.o.symm,HB1.o⟩
 ·have HE:Hid (Co a iss cur am day = -1):=HN.o (by rw [HV,hu];rfl)
  clear HV HN HY HT HS HTB HSB hq10;obtain ⟨r,i,c,m,d,u⟩:=a;unfold Fe at HO ⊢
  simp only at hW HO hu hmm hdb ⊢
  subst hu;have HW:Hid _:=hW;obtain ⟨f0,f1,f2,f3,f4,f5⟩:=B;clear hW
  go_enter func218,ntmps218
  go_upto_region 1 with fail
  rw [← HW.o];go_wp2_with fail
  refine (HO.o _).mono ?_;rintro e u1 ⟨rfl,b1⟩;have B1:=HBB.o.below b1;have HB1:Hid (BW w u1):=next HBW.o b1;clear b1 f0 f1 f2 f3 f4 f5;obtain ⟨f0,f1,f2,f3,f4,f5⟩:=B1
  simp only at f0 f1 f2 f3 f4 f5
  go_wp2;go_ret;exact ⟨Af HE.o.symm,HB1.o⟩
def scA (az:List Au) (iss cur am day:Int) (k:Nat):Int:=Co (Ak az k) iss cur am day
def Gm (az:List Au) (iss cur am day x:Int):Prop:=(az.length≤100∧Io (scA az iss cur am day) az.length x)∨(100<az.length∧x = -1)
theorem Zr {az:List Au} {iss cur am day x y:Int} (h:Gm az iss cur am day x) (g:Gm az iss cur am day y):x=y:=by
 rcases h with ⟨h1,h⟩ | ⟨h1,rfl⟩
 ·rcases g with ⟨_,g⟩ | ⟨g1,_⟩
  ·exact kD h g
  ·omega
 ·rcases g with ⟨g1,_⟩ | ⟨_,rfl⟩
  ·omega
  ·rfl
theorem eR (ao:Option Addr) (cap:Nat) (az:List Au) (iss cur am day:Int) (w:World) (hz:Ar w ao az) (hn:az.length≤1048576) (hd:∀ a ∈ az,a.ref.length≤1099511627776) (w3:(Lit.int .i64 am).wf=true) (w4:(Lit.int .i64 day).wf=true) :
  Calls prog 180 #[.slice ao az.length cap,.int .i64 iss,.int .i64 cur,.int .i64 am,.int .i64 day] w fun e w'=>∃ x,e=.returned (.int .i64 x)∧Gm az iss cur am day x∧BW w w':=by
 by_cases hb:100<az.length
 ·have hb':(100:Int)<(az.length:Int):=by omega
  have h0:(0:Int)<(az.length:Int):=by omega
  go_enter func180,ntmps180
  go_wp2;refine wp_loop_rounds 1 ?_;rw [rounds_succ];go_wp2;go_ret;exact ⟨_,rfl,.inr ⟨hb,rfl⟩,bR⟩
 have hb':(az.length:Int)≤100:=by omega
 have HSC:Hid (∀ k,k<az.length→∀ u,Calls prog 218 #[Fe (Ak az k),.int .i64 iss,.int .i64 cur,.int .i64 am,.int .i64 day] u fun e w'=>e=.returned (.int .i64 (scA az iss cur am day k))∧BW u w'):=fun k hk u=>X6 _ iss cur am day u (hd _ (J8 hk)) w3 w4
 obtain ⟨sc,hsc⟩:∃ f,scA az iss cur am day=f:=⟨_,rfl⟩
 have HBA:Hid (∀ x,Io sc az.length x→Gm az iss cur am day x):=fun x hx=>.inl ⟨by omega,by rw [hsc];exact hx⟩
 rw [hsc] at HSC;clear hsc hd w3 w4
 go_enter func180,ntmps180
 go_wp2
 go_loopw [11,12,13,14] (fun b t i _ wr=>∃ (k:Nat) (x y:Int),k≤az.length∧i=.int .i64 k∧t=.int .i64 x∧b=.int .i64 y∧Io sc k x∧(x = -1∨∃ j:Nat,x=(j:Int)∧y=sc j)∧BW w wr) (fun _ _ i _ _=>az.length - (intOf i).toNat)
 case atStart=>exact ⟨0,-1,-1,Nat.zero_le _,rfl,rfl,rfl,.inl ⟨rfl,fun k hk=>by omega⟩,.inl rfl,bR⟩
 case round =>
  obtain ⟨k,x,y,hk,rfl,rfl,rfl,hbest,hxy,hbr⟩:=hrel;have HBE:Hid (Io sc k x):=hbest;have HB:Hid (BW w wr):=hbr;have HXY:Hid (x = -1∨∃ j:Nat,x=(j:Int)∧y=sc j):=hxy;clear hbest hxy
  by_cases hlt:k<az.length
  ·rcases hz with h0 | ⟨b,off,rfl,hbz,hcell⟩
   ·rw [h0] at hlt;simp at hlt
   have HCL:Hid (∀ i,i<az.length→w.cell? ⟨b,off+i*6,none⟩=some (.string ⟨(Ak az i).ref.toArray⟩)∧w.cell? ⟨b,off+i*6+1,none⟩=some (.int .i64 (Ak az i).iss)∧w.cell? ⟨b,off+i*6+2,none⟩=some (.int .i64 (Ak az i).cur)∧w.cell? ⟨b,off+i*6+3,none⟩=some (.int .i64 (Ak az i).am)∧w.cell? ⟨b,off+i*6+4,none⟩=some (.int .i64 (Ak az i).day)∧w.cell? ⟨b,off+i*6+5,none⟩=some (.bool (Ak az i).used)):=hcell;have x0:wr.cell? ⟨b,off+k*6,none⟩=some (.string ⟨(Ak az k).ref.toArray⟩):=(hbr.cell (p:=⟨b,off+k*6,none⟩) hbz).trans (HCL.o k hlt).1;have x1:wr.cell? ⟨b,off+k*6+1,none⟩=some (.int .i64 (Ak az k).iss):=(hbr.cell (p:=⟨b,off+k*6+1,none⟩) hbz).trans (HCL.o k hlt).2.1;have x2:wr.cell? ⟨b,off+k*6+2,none⟩=some (.int .i64 (Ak az k).cur):=(hbr.cell (p:=⟨b,off+k*6+2,none⟩) hbz).trans (HCL.o k hlt).2.2.1;have x3:wr.cell? ⟨b,off+k*6+3,none⟩=some (.int .i64 (Ak az k).am):=(hbr.cell (p:=⟨b,off+k*6+3,none⟩) hbz).trans (HCL.o k hlt).2.2.2.1;have x4:wr.cell? ⟨b,off+k*6+4,none⟩=some (.int .i64 (Ak az k).day):=(hbr.cell (p:=⟨b,off+k*6+4,none⟩) hbz).trans (HCL.o k hlt).2.2.2.2.1;have x5:wr.cell? ⟨b,off+k*6+5,none⟩=some (.bool (Ak az k).used):=(hbr.cell (p:=⟨b,off+k*6+5,none⟩) hbz).trans (HCL.o k hlt).2.2.2.2.2
   have hki:(k:Int)<(az.length:Int):=by omega
   have HSK:Hid (∀ u,Calls prog 218 #[Fe (Ak az k),.int .i64 iss,.int .i64 cur,.int .i64 am,.int .i64 day] u fun e w'=>e=.returned (.int .i64 (sc k))∧BW u w'):=HSC.o k hlt
   obtain ⟨⟨r,i,c,m,d,u⟩,hf⟩:∃ a,Ak az k=a:=⟨_,rfl⟩;rw [hf] at x0 x1 x2 x3 x4 x5 HSK;unfold Fe at HSK
   simp only at x0 x1 x2 x3 x4 x5 HSK
   clear hf hcell hbr;go_wp2_with fail
   refine (HSK.o _).mono ?_;rintro e u2 ⟨rfl,b2⟩;have HB2:Hid (BW w u2):=HB.o.trans (b2.mono HB.o.size);clear b2 x0 x1 x2 x3 x4 x5 HSK
   by_cases hs:0≤sc k
   ·rcases HXY.o with hx | ⟨j,hx,hy⟩
    ·subst hx
     have HN:Hid (Io sc (k+1) (k:Int)):=Yv HBE.o hs;have HSE:Hid (∃ j:Nat,(k:Int)=(j:Int)∧sc k=sc j):=⟨k,rfl,rfl⟩
     generalize sc k=s at hs HSE
     go_wp2
     go_roundw
     case rel=>exact ⟨k+1,k,s,by omega,by go_num,rfl,rfl,HN.o,.inr HSE.o,HB2.o⟩
     case measure=>simp [intOf];omega
    ·subst hx
     have hj0:¬ (j:Int)<0:=by omega
     by_cases hl:sc k<y
     ·have HN:Hid (Io sc (k+1) (k:Int)):=mK HBE.o hs (by rw [← hy];exact hl)
      have HSE:Hid (∃ j:Nat,(k:Int)=(j:Int)∧sc k=sc j):=⟨k,rfl,rfl⟩;clear hy
      generalize sc k=s at hs HSE hl
      go_wp2
      go_roundw
      case rel=>exact ⟨k+1,k,s,by omega,by go_num,rfl,rfl,HN.o,.inr HSE.o,HB2.o⟩
      case measure=>simp [intOf];omega
     ·have HN:Hid (Io sc (k+1) (j:Int)):=jH HBE.o (by rw [← hy];exact hl)
      have HSE:Hid (∃ i:Nat,(j:Int)=(i:Int)∧y=sc i):=⟨j,rfl,hy⟩;clear hy
      generalize sc k=s at hs hl
      go_wp2
      go_roundw
      case rel=>exact ⟨k+1,j,y,by omega,by go_num,rfl,rfl,HN.o,.inr HSE.o,HB2.o⟩
      case measure=>simp [intOf];omega
   ·have HN:Hid (Io sc (k+1) x):=gK HBE.o (by omega)
    generalize sc k=s at hs
    go_wp2
    go_roundw
    case rel=>exact ⟨k+1,x,y,by omega,by go_num,rfl,rfl,HN.o,HXY.o,HB2.o⟩
    case measure=>simp [intOf];omega
  ·have hke:k=az.length:=by omega
   subst hke;have HR:Hid (Gm az iss cur am day x):=HBA.o _ HBE.o;go_wp2;go_ret;exact ⟨_,rfl,HR.o,HB.o⟩
theorem Dj (ao:Option Addr) (cap:Nat) (az:List Au) (w:World) (hz:Ar w ao az) (hn:az.length≤4194304) (hd:∀ a ∈ az,a.ref.length≤1099511627776) :
  Calls prog 110 #[.slice ao az.length cap] w fun e w'=>e=.returned (.slice (some ⟨w.heap.size,0,none⟩) az.length az.length) ∧
   w'.ownsRow w.heap.size 107 6 (.slice (some ⟨w.heap.size,0,none⟩) az.length az.length) az.length (Ah az)∧BW w w':=by
 obtain ⟨i0,hi,hz0,hz1,hz2⟩:=info_parts cF;have hm0:=Qx az.length
 rcases hz with rfl | ⟨b,off,rfl,hb,hcell⟩
 ·go_enter func110,ntmps110
  go_wp2_with (refine wpList_make_full _ rfl (.tmp 7) (.tmp 7) 132 rfl w.heap.size 107 i0 _ 6 underlying132 hi hz0 hz1 .i64 .i64 _ _ 0 rfl rfl rfl rfl (by rw [hz2];omega) (by unfold maxLen;omega) nL ?_;intro w1 hown hg)
  refine wp_loop_rounds 1 ?_;rw [rounds_succ];go_wp2;go_ret
  exact ⟨rfl,by simpa [madeCells,Ah] using hown,bR.grown hg nL (fun k hk=>by cases hk)⟩
 rw [← Pz az] at hm0;have HC:Hid (∀ i,i<az.length→w.cell? ⟨b,off+i*6,none⟩=some (.string ⟨(Ak az i).ref.toArray⟩)∧w.cell? ⟨b,off+i*6+1,none⟩=some (.int .i64 (Ak az i).iss)∧w.cell? ⟨b,off+i*6+2,none⟩=some (.int .i64 (Ak az i).cur)∧w.cell? ⟨b,off+i*6+3,none⟩=some (.int .i64 (Ak az i).am)∧w.cell? ⟨b,off+i*6+4,none⟩=some (.int .i64 (Ak az i).day)∧w.cell? ⟨b,off+i*6+5,none⟩=some (.bool (Ak az i).used)):=hcell;clear hcell
 go_enter func110,ntmps110
 go_wp2_with (refine wpList_make_full _ rfl (.tmp 7) (.tmp 7) 132 rfl w.heap.size 107 i0 _ 6 underlying132 hi hz0 hz1 .i64 .i64 _ _ az.length rfl rfl rfl rfl (by rw [hz2];omega) (by unfold maxLen;omega) nL ?_;intro w1 hown hg)
 rw [hm0] at hown
 have hb1:BW w w1:=bR.grown hg nL (fun k hk=>by cases hk)
 clear hm0 hg
 go_loopw [4,5,11] (fun _ _ i wr=>∃ k:Nat,k≤az.length∧i=.int .i64 k∧wr.ownsRow w.heap.size 107 6 (.slice (some ⟨w.heap.size,0,none⟩) az.length az.length) az.length (Ah (Du az k))∧BW w wr) (fun _ _ i _=>az.length - (intOf i).toNat)
 case atStart=>exact ⟨0,Nat.zero_le _,rfl,hown,hb1⟩
 case round =>
  obtain ⟨k,hk,rfl,ho,hbr⟩:=hrel;clear hown hb1
  by_cases hlt:k<az.length
  ·have x0:wr.cell? ⟨b,off+k*6,none⟩=some (.string ⟨(Ak az k).ref.toArray⟩):=(hbr.cell (p:=⟨b,off+k*6,none⟩) hb).trans (HC.o k hlt).1
   have x1:wr.cell? ⟨b,off+k*6+1,none⟩=some (.int .i64 (Ak az k).iss):=(hbr.cell (p:=⟨b,off+k*6+1,none⟩) hb).trans (HC.o k hlt).2.1;have x2:wr.cell? ⟨b,off+k*6+2,none⟩=some (.int .i64 (Ak az k).cur):=(hbr.cell (p:=⟨b,off+k*6+2,none⟩) hb).trans (HC.o k hlt).2.2.1;have x3:wr.cell? ⟨b,off+k*6+3,none⟩=some (.int .i64 (Ak az k).am):=(hbr.cell (p:=⟨b,off+k*6+3,none⟩) hb).trans (HC.o k hlt).2.2.2.1;have x4:wr.cell? ⟨b,off+k*6+4,none⟩=some (.int .i64 (Ak az k).day):=(hbr.cell (p:=⟨b,off+k*6+4,none⟩) hb).trans (HC.o k hlt).2.2.2.2.1;have x5:wr.cell? ⟨b,off+k*6+5,none⟩=some (.bool (Ak az k).used):=(hbr.cell (p:=⟨b,off+k*6+5,none⟩) hb).trans (HC.o k hlt).2.2.2.2.2
   have hki:(k:Int)<(az.length:Int):=by omega
   have hdk:=hd _ (J8 hlt);have HS:Hid _:=Ly az k hlt
   have HT:Hid _:=Hu (Du az k) (Ak az k) k (by rw [Iu az k hk];exact hlt)
   have HFL:Hid (k<(Du az k).length):=by rw [Hid,Iu az k hk];exact hlt
   have HFL2:Hid (k<(Du az (k+1)).length):=by rw [Hid,Iu az (k+1) hlt];exact hlt
   have HAT:Hid (Ak (Du az (k+1)) k=Ak az k):=by
    rw [Hid,← Ly az k hlt,Gw (by rw [List.length_set];exact HFL.o),List.getElem_set_self]
   obtain ⟨⟨r,i,c,m,d,u⟩,hf⟩:∃ f,Ak az k=f:=⟨_,rfl⟩;rw [hf] at x0 x1 x2 x3 x4 x5 HS HT hdk HAT
   simp only at x0 x1 x2 x3 x4 x5 HT hdk
   have HO:Hid (wr.ownsRow w.heap.size 107 6 (.slice (some ⟨w.heap.size,0,none⟩) az.length az.length) az.length (Ah (Du az k))):=ho;have HA:Hid _:=Wu az k hlt;have HBR:Hid (BW w wr):=hbr;have hws:w.heap.size<wr.heap.size:=(ho.lt _ rfl).2;clear hf ho hbr;go_upto_region 5 with fail
   clear x0 x1 x2 x3 x4 x5;obtain ⟨W,hW⟩:∃ W,wr.alloc (.cells #[.string ⟨r.toArray⟩,.int .i64 i,.int .i64 c,.int .i64 m,.int .i64 d,.bool u] 107)=W:=⟨_,rfl⟩;have bW:BW wr W:=hW ▸ bR.alloc nL _;have BX:Jo wr.heap.size ⟨r,i,c,m,d,u⟩ W:=hW ▸ Jo.new wr ⟨r,i,c,m,d,u⟩ _;rw [hW];clear hW;have oW:=Iw HO.o bW;have hat:=De (Du az k) k HFL.o;rw [HA.o] at hat;have HBX:Hid (Jo wr.heap.size ⟨r,i,c,m,d,u⟩ W):=BX
   have y0:W.cell? ⟨w.heap.size,k*6,none⟩=some (.string ⟨#[]⟩):=by rw [oW.cellAt (k*6) (by omega)];exact hat.1
   have z0:W.frozen? ⟨w.heap.size,k*6,none⟩=false:=oW.frozenAt _
   have y1:W.cell? ⟨w.heap.size,k*6+1,none⟩=some (.int .i64 0):=by rw [oW.cellAt (k*6+1) (by omega)];exact hat.2.1
   have z1:W.frozen? ⟨w.heap.size,k*6+1,none⟩=false:=oW.frozenAt _
   have y2:W.cell? ⟨w.heap.size,k*6+2,none⟩=some (.int .i64 0):=by rw [oW.cellAt (k*6+2) (by omega)];exact hat.2.2.1
   have z2:W.frozen? ⟨w.heap.size,k*6+2,none⟩=false:=oW.frozenAt _
   have y3:W.cell? ⟨w.heap.size,k*6+3,none⟩=some (.int .i64 0):=by rw [oW.cellAt (k*6+3) (by omega)];exact hat.2.2.2.1
   have z3:W.frozen? ⟨w.heap.size,k*6+3,none⟩=false:=oW.frozenAt _
   have y4:W.cell? ⟨w.heap.size,k*6+4,none⟩=some (.int .i64 0):=by rw [oW.cellAt (k*6+4) (by omega)];exact hat.2.2.2.2.1
   have z4:W.frozen? ⟨w.heap.size,k*6+4,none⟩=false:=oW.frozenAt _
   have y5:W.cell? ⟨w.heap.size,k*6+5,none⟩=some (.bool false):=by rw [oW.cellAt (k*6+5) (by omega)];exact hat.2.2.2.2.2
   have z5:W.frozen? ⟨w.heap.size,k*6+5,none⟩=false:=oW.frozenAt _
   have HR:Hid ((((((((W.setCell ⟨w.heap.size,k*6,none⟩ (.string ⟨r.toArray⟩)).setCell ⟨w.heap.size,k*6+1,none⟩ (.int .i64 i)).setCell ⟨w.heap.size,k*6+2,none⟩ (.int .i64 c)).setCell ⟨w.heap.size,k*6+3,none⟩ (.int .i64 m)).setCell ⟨w.heap.size,k*6+4,none⟩ (.int .i64 d)).setCell ⟨w.heap.size,k*6+5,none⟩ (.bool u))).ownsRow w.heap.size 107 6 (.slice (some ⟨w.heap.size,0,none⟩) az.length az.length) az.length (Ah (Du az (k+1)))):=by
    have R:=(((((((oW.stored (k*6) (.string ⟨r.toArray⟩)).1.stored (k*6+1) (.int .i64 i)).1.stored (k*6+2) (.int .i64 c)).1.stored (k*6+3) (.int .i64 m)).1.stored (k*6+4) (.int .i64 d)).1.stored (k*6+5) (.bool u))).1;rw [HT.o,HS.o] at R;exact R
   have HBW:Hid (Below w.heap.size w (((((((W.setCell ⟨w.heap.size,k*6,none⟩ (.string ⟨r.toArray⟩)).setCell ⟨w.heap.size,k*6+1,none⟩ (.int .i64 i)).setCell ⟨w.heap.size,k*6+2,none⟩ (.int .i64 c)).setCell ⟨w.heap.size,k*6+3,none⟩ (.int .i64 m)).setCell ⟨w.heap.size,k*6+4,none⟩ (.int .i64 d)).setCell ⟨w.heap.size,k*6+5,none⟩ (.bool u)))):=(((((((HBR.o.trans (bW.mono HBR.o.size)).setCell nL _).setCell nL _).setCell nL _).setCell nL _).setCell nL _).setCell nL _)
   have HBOX:Hid ((((((((W.setCell ⟨w.heap.size,k*6,none⟩ (.string ⟨r.toArray⟩)).setCell ⟨w.heap.size,k*6+1,none⟩ (.int .i64 i)).setCell ⟨w.heap.size,k*6+2,none⟩ (.int .i64 c)).setCell ⟨w.heap.size,k*6+3,none⟩ (.int .i64 m)).setCell ⟨w.heap.size,k*6+4,none⟩ (.int .i64 d)).setCell ⟨w.heap.size,k*6+5,none⟩ (.bool u))).cell? ⟨wr.heap.size,0,none⟩=some (.string ⟨r.toArray⟩)):=(World.grownBy.cell_far (row:=some w.heap.size) (((((((oW.stored (k*6) (.string ⟨r.toArray⟩)).2).trans ((oW.stored (k*6) (.string ⟨r.toArray⟩)).1.stored (k*6+1) (.int .i64 i)).2).trans (((oW.stored (k*6) (.string ⟨r.toArray⟩)).1.stored (k*6+1) (.int .i64 i)).1.stored (k*6+2) (.int .i64 c)).2).trans ((((oW.stored (k*6) (.string ⟨r.toArray⟩)).1.stored (k*6+1) (.int .i64 i)).1.stored (k*6+2) (.int .i64 c)).1.stored (k*6+3) (.int .i64 m)).2).trans (((((oW.stored (k*6) (.string ⟨r.toArray⟩)).1.stored (k*6+1) (.int .i64 i)).1.stored (k*6+2) (.int .i64 c)).1.stored (k*6+3) (.int .i64 m)).1.stored (k*6+4) (.int .i64 d)).2).trans ((((((oW.stored (k*6) (.string ⟨r.toArray⟩)).1.stored (k*6+1) (.int .i64 i)).1.stored (k*6+2) (.int .i64 c)).1.stored (k*6+3) (.int .i64 m)).1.stored (k*6+4) (.int .i64 d)).1.stored (k*6+5) (.bool u)).2) ⟨wr.heap.size,0,none⟩ BX.lt (by simp;omega)).trans BX.c0
   obtain ⟨q0,q1,q2,q3,q4,q5⟩:=BX
   simp only at q0 q1 q2 q3 q4 q5
   clear oW hat bW HO HA HS HT;go_upto_region 6 with fail
   clear q0 q1 q2 q3 q4 q5 y0 z0 y1 z1 y2 z2 y3 z3 y4 z4 y5 z5;obtain ⟨V,hV⟩:∃ V,(((((((W.setCell ⟨w.heap.size,k*6,none⟩ (.string ⟨r.toArray⟩)).setCell ⟨w.heap.size,k*6+1,none⟩ (.int .i64 i)).setCell ⟨w.heap.size,k*6+2,none⟩ (.int .i64 c)).setCell ⟨w.heap.size,k*6+3,none⟩ (.int .i64 m)).setCell ⟨w.heap.size,k*6+4,none⟩ (.int .i64 d)).setCell ⟨w.heap.size,k*6+5,none⟩ (.bool u)))=V:=⟨_,rfl⟩;rw [hV] at HR HBW HBOX ⊢;clear hV;have v0:=HBOX.o;have lb:wr.heap.size<V.heap.size:=World.block_lt_of_cell? V _ v0;go_wp2_with fail
   refine (Sm r _ hdk).mono ?_;rintro e w2 ⟨rfl,b2⟩;have o2:=Iw HR.o b2;have hat:=De (Du az (k+1)) k HFL2.o;rw [HAT.o] at hat
   have t0:w2.cell? ⟨w.heap.size,k*6,none⟩=some (.string ⟨r.toArray⟩):=by rw [o2.cellAt (k*6) (by omega)];exact hat.1
   have t1:w2.frozen? ⟨w.heap.size,k*6,none⟩=false:=o2.frozenAt _
   have HR2:Hid ((w2.setCell ⟨w.heap.size,k*6,none⟩ (.string ⟨r.toArray⟩)).ownsRow w.heap.size 107 6 (.slice (some ⟨w.heap.size,0,none⟩) az.length az.length) az.length (Ah (Du az (k+1)))):=by
    have R:=(o2.stored (k*6) (.string ⟨r.toArray⟩)).1;rw [G9 hat.1] at R;exact R
   have HB2:Hid (Below w.heap.size w (w2.setCell ⟨w.heap.size,k*6,none⟩ (.string ⟨r.toArray⟩))):=(HBW.o.trans (b2.mono HBW.o.size)).setCell nL _;clear o2 hat b2 HR HBW v0 HBOX HBX HAT;go_wp2
   go_roundw
   case rel=>exact ⟨k+1,by omega,by go_num,HR2.o,HB2.o⟩
   case measure=>simp [intOf];omega
  ·have hke:k=az.length:=by omega
   subst hke;rw [Sv] at ho;have HO:Hid _:=ho;clear ho;go_wp2;go_ret;exact ⟨rfl,HO.o,hbr⟩
def Gl (l:List UInt8) (a:Au):Bool:=a.ref == l
def addOk (az:List Au) (a:Au):Bool:=Gy a && (!az.any (Gl a.ref) && decide (az.length<100))
def Hp (az:List Au) (a:Au):List Au:=if addOk az a=true then az++[a] else az
theorem cZ {az:List Au} {a:Au} (h:addOk az a=false):Hp az a=az:=by rw [Hp,if_neg (by rw [h];decide)]
theorem Nk {az:List Au} {a:Au} (h:addOk az a=true):Hp az a=az++[a]:=by rw [Hp,if_pos h]
theorem jO (az:List Au) (a:Au):(Hp az a).length≤az.length+1:=by unfold Hp;split <;> simp
theorem Wr (p:Au→Bool) (az:List Au) (k:Nat) (h:k<az.length):(az.drop k).any p=(p (Ak az k) || (az.drop (k+1)).any p):=by
 rw [List.drop_eq_getElem_cons h,Gw h,List.any_cons]
theorem bP {w:World} {g:Nat} {a:Au} (h:Jo g a w):Ar w (some ⟨g,0,none⟩) [a] :=
 .inr ⟨g,0,rfl,h.lt,fun i hi=>by
  obtain rfl:i=0:=by simpa using hi
  exact ⟨h.c0,h.c1,h.c2,h.c3,h.c4,h.c5⟩⟩
theorem fA (a:Au) (l:List UInt8) (g:Nat) (w:World) (hc:w.cell? ⟨g,0,none⟩=some (.string ⟨l.toArray⟩)) :
  Calls prog 278 #[Fe a,.pointer (some ⟨g,0,none⟩)] w fun e w'=>e=.returned (.bool (Gl l a))∧BW w w':=by
 have hg:g<w.heap.size:=World.block_lt_of_cell? w _ hc;obtain ⟨r,i,c,m,d,u⟩:=a;have HQ:Hid (Gl l ⟨r,i,c,m,d,u⟩=(r == l)):=rfl
 simp only [Fe]
 have hc2:(w.alloc (.cells #[.string ⟨r.toArray⟩,.int .i64 i,.int .i64 c,.int .i64 m,.int .i64 d,.bool u] 107)).cell? ⟨g,0,none⟩=some (.string ⟨l.toArray⟩):=by rw [World.cell?_alloc_lt _ _ _ hg];exact hc
 go_enter func278,ntmps278
 go_wp2;go_ret;exact ⟨Aa HQ.o.symm,bR.alloc nL _⟩
theorem iA (ao:Option Addr) (cap:Nat) (az:List Au) (l:List UInt8) (g:Nat) (w:World) (hz:Ar w ao az) (hn:az.length≤4194304) (hc:w.cell? ⟨g,0,none⟩=some (.string ⟨l.toArray⟩)) :
  Calls prog 309 #[.slice ao az.length cap,.func (.func 278) #[] #[.pointer (some ⟨g,0,none⟩)]] w fun e w'=>∃ x:Int,e=.returned (.int .i64 x)∧decide (0≤x)=az.any (Gl l)∧BW w w':=by
 have hg:g<w.heap.size:=World.block_lt_of_cell? w _ hc
 rcases hz with rfl | ⟨b,off,rfl,hb,hcell⟩
 ·go_enter func309,ntmps309
  go_wp2;refine wp_loop_rounds 1 ?_;rw [rounds_succ];go_wp2;go_ret
  exact ⟨_,rfl,by simp,bR⟩
 have HC:Hid (∀ i,i<az.length→w.cell? ⟨b,off+i*6,none⟩=some (.string ⟨(Ak az i).ref.toArray⟩)∧w.cell? ⟨b,off+i*6+1,none⟩=some (.int .i64 (Ak az i).iss)∧w.cell? ⟨b,off+i*6+2,none⟩=some (.int .i64 (Ak az i).cur)∧w.cell? ⟨b,off+i*6+3,none⟩=some (.int .i64 (Ak az i).am)∧w.cell? ⟨b,off+i*6+4,none⟩=some (.int .i64 (Ak az i).day)∧w.cell? ⟨b,off+i*6+5,none⟩=some (.bool (Ak az i).used)):=hcell;have HG:Hid _:=hc;clear hcell hc
 go_enter func309,ntmps309
 go_wp2
 go_loopw [5,8] (fun _ i wr=>∃ k:Nat,k≤az.length∧i=.int .i64 k∧az.any (Gl l)=(az.drop k).any (Gl l)∧BW w wr) (fun _ i _=>az.length - (intOf i).toNat)
 case atStart=>exact ⟨0,Nat.zero_le _,rfl,rfl,bR⟩
 case round =>
  obtain ⟨k,hk,rfl,hany,hbr⟩:=hrel
  by_cases hlt:k<az.length
  ·have x0:wr.cell? ⟨b,off+k*6,none⟩=some (.string ⟨(Ak az k).ref.toArray⟩):=(hbr.cell (p:=⟨b,off+k*6,none⟩) hb).trans (HC.o k hlt).1
   have x1:wr.cell? ⟨b,off+k*6+1,none⟩=some (.int .i64 (Ak az k).iss):=(hbr.cell (p:=⟨b,off+k*6+1,none⟩) hb).trans (HC.o k hlt).2.1;have x2:wr.cell? ⟨b,off+k*6+2,none⟩=some (.int .i64 (Ak az k).cur):=(hbr.cell (p:=⟨b,off+k*6+2,none⟩) hb).trans (HC.o k hlt).2.2.1;have x3:wr.cell? ⟨b,off+k*6+3,none⟩=some (.int .i64 (Ak az k).am):=(hbr.cell (p:=⟨b,off+k*6+3,none⟩) hb).trans (HC.o k hlt).2.2.2.1;have x4:wr.cell? ⟨b,off+k*6+4,none⟩=some (.int .i64 (Ak az k).day):=(hbr.cell (p:=⟨b,off+k*6+4,none⟩) hb).trans (HC.o k hlt).2.2.2.2.1;have x5:wr.cell? ⟨b,off+k*6+5,none⟩=some (.bool (Ak az k).used):=(hbr.cell (p:=⟨b,off+k*6+5,none⟩) hb).trans (HC.o k hlt).2.2.2.2.2
   have hki:(k:Int)<(az.length:Int):=by omega
   have HST:Hid _:=hany.trans (Wr (Gl l) az k hlt);have hgr:=(hbr.cell (p:=⟨g,0,none⟩) hg).trans HG.o
   have HCL:Hid (Calls prog 278 #[Fe (Ak az k),.pointer (some ⟨g,0,none⟩)] wr fun e w'=>e=.returned (.bool (Gl l (Ak az k)))∧BW wr w'):=fA _ l g wr hgr
   obtain ⟨q,hq⟩:∃ q,Gl l (Ak az k)=q:=⟨_,rfl⟩;rw [hq] at HST HCL;obtain ⟨⟨r,i,c,m,d,u⟩,hf⟩:∃ a,Ak az k=a:=⟨_,rfl⟩;rw [hf] at x0 x1 x2 x3 x4 x5 HCL;unfold Fe at HCL
   simp only at x0 x1 x2 x3 x4 x5 HCL
   have HB:Hid (BW w wr):=hbr;clear hf hany hgr hq hbr;go_wp2_with fail
   refine (HCL.o).mono ?_;rintro e w2 ⟨rfl,b2⟩;have HB2:Hid (BW w w2):=HB.o.trans (b2.mono HB.o.size);clear b2 x0 x1 x2 x3 x4 x5
   cases q
   ·go_wp2
    go_roundw
    case rel=>exact ⟨k+1,by omega,by go_num,by rw [HST.o];rfl,HB2.o⟩
    case measure=>simp [intOf];omega
   ·go_wp2
    go_ret
    exact ⟨(k:Int),rfl,by rw [HST.o,decide_eq_true (show (0:Int)≤(k:Int) by omega)];rfl,HB2.o⟩
  ·have HE:Hid (az.any (Gl l)=false):=by rw [Hid,hany,List.drop_of_length_le (by omega)];rfl
   go_wp2;go_ret
   exact ⟨_,rfl,by rw [HE.o];rfl,hbr⟩
theorem Zj (ao:Option Addr) (cap:Nat) (az:List Au) (l:List UInt8) (w:World) (hz:Ar w ao az) (hn:az.length≤4194304) :
  Calls prog 249 #[.slice ao az.length cap,.string ⟨l.toArray⟩] w fun e w'=>e=.returned (.bool (az.any (Gl l)))∧BW w w':=by
 have bA:∀ t,Below w.heap.size w (w.alloc (.cells #[.string ⟨l.toArray⟩] t)):=fun t=>bR.alloc nL _
 have HC:Hid (∀ t,Calls prog 277 #[.slice ao az.length cap,.func (.func 278) #[] #[.pointer (some ⟨w.heap.size,0,none⟩)]] (w.alloc (.cells #[.string ⟨l.toArray⟩] t)) fun e w'=>e=.returned (.bool (az.any (Gl l)))∧BW w w'):=fun t=>by
  have hzA:=hz.below (bA t)
  have hcc:(w.alloc (.cells #[.string ⟨l.toArray⟩] t)).cell? ⟨w.heap.size,0,none⟩=some (.string ⟨l.toArray⟩):=by simp
  have HIX:Hid (Calls prog 309 #[.slice ao az.length cap,.func (.func 278) #[] #[.pointer (some ⟨w.heap.size,0,none⟩)]] (w.alloc (.cells #[.string ⟨l.toArray⟩] t)) fun e w'=>∃ x:Int,e=.returned (.int .i64 x)∧decide (0≤x)=az.any (Gl l)∧Below (w.alloc (.cells #[.string ⟨l.toArray⟩] t)).heap.size (w.alloc (.cells #[.string ⟨l.toArray⟩] t)) w'):=iA ao cap az l w.heap.size _ hzA hn hcc
  have HB0:Hid (Below w.heap.size w (w.alloc (.cells #[.string ⟨l.toArray⟩] t))):=bA t
  generalize w.alloc (.cells #[.string ⟨l.toArray⟩] t)=W at HIX HB0
  clear hzA hcc bA
  go_enter func277,ntmps277
  go_wp2_with fail
  refine Calls.mono HIX.o ?_;rintro e w2 ⟨x,rfl,hx,b2⟩;have HX:Hid _:=hx;have HB2:Hid (BW w w2):=HB0.o.trans (b2.mono HB0.o.size);clear hx b2;go_wp2;go_ret;exact ⟨Aa HX.o,HB2.o⟩
 clear bA hz
 go_enter func249,ntmps249
 go_wp2_with fail
 refine (HC.o _).mono ?_;rintro e w2 ⟨rfl,b2⟩;have HB2:Hid _:=b2;clear b2;go_wp2;go_ret;exact ⟨rfl,HB2.o⟩
def Zb (w:World) (g:Nat) (a1:Option Addr) (c1:Nat) (a2:Option Addr) (c2:Nat) (xs ys:List Au):Prop :=
 w.cell? ⟨g,0,none⟩=some (.slice a1 xs.length c1)∧w.cell? ⟨g,1,none⟩=some (.slice a2 ys.length c2)∧Ar w a1 xs∧Ar w a2 ys
theorem Zb.below {w w':World} {g:Nat} {a1 a2:Option Addr} {c1 c2:Nat} {xs ys:List Au} (h:Zb w g a1 c1 a2 c2 xs ys) (hb:BW w w'):Zb w' g a1 c1 a2 c2 xs ys:=by
 obtain ⟨h1,h2,h3,h4⟩:=h;have hg:g<w.heap.size:=World.block_lt_of_cell? w _ h1;exact ⟨(hb.cell (p:=⟨g,0,none⟩) hg).trans h1,(hb.cell (p:=⟨g,1,none⟩) hg).trans h2,h3.below hb,h4.below hb⟩
theorem hI (g:Nat) (a1 a2:Option Addr) (c1 c2:Nat) (xs ys:List Au) (w:World) (h:Zb w g a1 c1 a2 c2 xs ys) (hx:xs.length≤1048576) (hy:ys.length≤1048576) :
  Calls prog 250 #[.slice (some ⟨g,0,none⟩) 2 2] w fun e w'=>∃ v,e=.returned v ∧
   w'.ownsRow w.heap.size 107 6 v (xs.length+ys.length) (Ah (xs++ys))∧BW w w':=by
 have HT:Hid (Zb w g a1 c1 a2 c2 xs ys):=h;obtain ⟨e1,e2,f1,f2⟩:=h;have HF1:Hid _:=f1;clear f1 f2
 go_enter func250,ntmps250
 go_wp2;refine wp_loop_rounds 3 ?_;rw [rounds_succ]
 go_wp2_with (at_builtin;refine Bu _ rfl (.tmp 12) (.tmp 13) rfl w.heap.size _ 0 [] rfl (World.ownsRow_nil _ _ _ _) a1 c1 xs rfl HF1.o (by omega) nL ?_;intro v2 w2 o2 g2 _)
 have q2:BW w w2:=bR.grown g2 nL (fun k hk=>by cases hk)
 obtain ⟨_,d2,f1,f2⟩:=HT.o.below q2;have HF2:Hid _:=f2;have HO2:Hid (w2.ownsRow w.heap.size 107 6 v2 (0+xs.length) ([]++Ah xs)):=o2;have hs2:=q2.size;clear e1 e2 f1 f2 o2 g2 HF1;go_wp2;rw [rounds_succ]
 go_wp2_with (at_builtin;refine Bu _ rfl (.tmp 12) (.tmp 13) rfl w.heap.size _ _ _ rfl HO2.o a2 c2 ys rfl HF2.o (by omega) hs2 ?_;intro v3 w3 o3 g3 _)
 have q3:BW w w3:=q2.grown g3 hs2 (fun k hk=>(HO2.o.lt k hk).1)
 have HO3:Hid (w3.ownsRow w.heap.size 107 6 v3 (xs.length+ys.length) (Ah (xs++ys))):=by
  rw [F9];rw [Nat.zero_add,List.nil_append] at o3;exact o3
 clear d2 o3 g3 HO2 hs2 HF2;go_wp2;rw [rounds_succ];go_wp2;go_ret;exact ⟨v3,rfl,HO3.o,q3⟩
theorem aI (ao:Option Addr) (cap:Nat) (az:List Au) (a:Au) (w:World) (hz:Ar w ao az) (hn:az.length≤1048576) (hd:∀ x ∈ az,x.ref.length≤1099511627776) (hl:a.ref.length≤1099511627776) (hc:Bf a.cur) :
  Calls prog 208 #[.slice ao az.length cap,Fe a] w (Pi w (Hp az a) (addOk az a)):=by
 have HV:Hid (addOk az a=(Gy a && (!az.any (Gl a.ref) && decide (az.length<100)))):=rfl;have HN:Hid (addOk az a=false→Hp az a=az):=cZ;have HY:Hid (addOk az a=true→Hp az a=az++[a]):=Nk;have HZ:Hid (Ar w ao az):=hz;clear hz;obtain ⟨q,hq⟩:∃ q,Gy a=q:=⟨_,rfl⟩
 have HO:Hid (∀ u,Calls prog 248 #[Fe a] u fun e w'=>e=.returned (.bool q)∧BW u w'):=fun u=>by rw [← hq];exact Oi a u hl hc
 obtain ⟨h,hh⟩:∃ h,az.any (Gl a.ref)=h:=⟨_,rfl⟩
 have HH:Hid (∀ u,Ar u ao az→Calls prog 249 #[.slice ao az.length cap,.string ⟨a.ref.toArray⟩] u fun e w'=>e=.returned (.bool h)∧BW u w'):=fun u hu=>by rw [← hh];exact Zj ao cap az a.ref u hu (by omega)
 have HCP:Hid (∀ u,Ar u ao az→Calls prog 110 #[.slice ao az.length cap] u fun e w'=>e=.returned (.slice (some ⟨u.heap.size,0,none⟩) az.length az.length) ∧
   w'.ownsRow u.heap.size 107 6 (.slice (some ⟨u.heap.size,0,none⟩) az.length az.length) az.length (Ah az)∧BW u w'):=fun u hu=>Dj ao cap az u hu (by omega) hd
 have HCN:Hid (∀ (u:World) (bo:Option Addr) (cb:Nat),Ar u bo (az++[a])→Calls prog 110 #[.slice bo (az++[a]).length cb] u fun e w'=>e=.returned (.slice (some ⟨u.heap.size,0,none⟩) (az++[a]).length (az++[a]).length) ∧
   w'.ownsRow u.heap.size 107 6 (.slice (some ⟨u.heap.size,0,none⟩) (az++[a]).length (az++[a]).length) (az++[a]).length (Ah (az++[a]))∧BW u w'):=fun u bo cb hu=>Dj bo cb (az++[a]) u hu (by simp;omega) (fun x hx=>by
    rcases List.mem_append.1 hx with h1 | h1
    ·exact hd x h1
    ·have:x=a:=by simpa using h1
     rw [this];exact hl)
 obtain ⟨W,hW⟩:∃ W,W=w.alloc (.cells #[.string ⟨a.ref.toArray⟩,.int .i64 a.iss,.int .i64 a.cur,.int .i64 a.am,.int .i64 a.day,.bool a.used] 107):=⟨_,rfl⟩
 have B:Jo w.heap.size a W:=by rw [hW];exact Jo.new w a _
 have HBB:Hid (Jo w.heap.size a W):=B
 have bW:BW w W:=by rw [hW];exact bR.alloc nL _
 have HBW:Hid (BW w W):=bW;rw [hq,hh] at HV;clear bW hd hl hc hq hh
 cases q
 ·have HQ:Hid (addOk az a=false):=HV.o
  have HL:Hid (Hp az a=az):=HN.o HQ.o;rw [HQ.o,HL.o];clear HV HN HY HQ HL HCN HH;obtain ⟨r,i,c,m,d,u⟩:=a;unfold Fe at HO ⊢
  simp only at hW HO ⊢
  have HW:Hid _:=hW;obtain ⟨f0,f1,f2,f3,f4,f5⟩:=B;clear hW
  go_enter func208,ntmps208
  go_upto_region 1 with fail
  rw [← HW.o];go_wp2_with fail
  refine (HO.o _).mono ?_;rintro e u1 ⟨rfl,b1⟩;have HB1:Hid (BW w u1):=next HBW.o b1;clear b1 f0 f1 f2 f3 f4 f5;go_wp2_with fail
  refine (HCP.o _ (HZ.o.below HB1.o)).mono ?_;rintro e u2 ⟨rfl,o2,b2⟩;have HO2:Hid _:=Ri o2 HB1.o.size;have HB2:Hid (BW w u2):=next HB1.o b2;clear o2 b2;go_wp2;go_ret2;exact ⟨_,_,rfl,HO2.o,HB2.o⟩
 cases h
 ·by_cases h100:az.length<100
  ·have HQ:Hid (addOk az a=true):=by rw [Hid,HV.o,decide_eq_true h100];rfl
   have HL:Hid (Hp az a=az++[a]):=HY.o HQ.o;rw [HQ.o,HL.o]
   have h100':(az.length:Int)<100:=by omega
   have HXL:Hid ((az++[a]).length=az.length+1):=by rw [Hid];simp
   have HJ:Hid (∀ (u:World) (g:Nat) (a2:Option Addr) (c2:Nat),Zb u g ao cap a2 c2 az [a]→Calls prog 250 #[.slice (some ⟨g,0,none⟩) 2 2] u fun e w'=>∃ bo cb,e=.returned (.slice bo (az++[a]).length cb)∧Ar w' bo (az++[a])∧BW u w'):=fun u g a2 c2 h2 =>
    (hI g ao a2 cap c2 az [a] u h2 (by omega) (by simp)).mono fun e u' ⟨v,he,hv,hb⟩=>by
     obtain ⟨bo,cb,rfl,hA,_⟩:=Lo hv;exact ⟨bo,cb,he,hA,hb⟩
   clear HV HN HY HQ HL HCP;obtain ⟨L,hL⟩:∃ L,az++[a]=L:=⟨_,rfl⟩;rw [hL] at HCN HJ HXL ⊢
   have HTW:Hid (∀ (u:World) (t1 t2:TypeId),Ar u ao az→Zb ((u.alloc (.cells #[.string ⟨a.ref.toArray⟩,.int .i64 a.iss,.int .i64 a.cur,.int .i64 a.am,.int .i64 a.day,.bool a.used] t1)).alloc (.cells #[.slice ao az.length cap,.slice (some ⟨u.heap.size,0,none⟩) 1 1] t2)) (u.heap.size+1) ao cap (some ⟨u.heap.size,0,none⟩) 1 az [a]∧Below u.heap.size u ((u.alloc (.cells #[.string ⟨a.ref.toArray⟩,.int .i64 a.iss,.int .i64 a.cur,.int .i64 a.am,.int .i64 a.day,.bool a.used] t1)).alloc (.cells #[.slice ao az.length cap,.slice (some ⟨u.heap.size,0,none⟩) 1 1] t2))):=fun u t1 t2 hu=>by
    have b1:Below u.heap.size u (u.alloc (.cells #[.string ⟨a.ref.toArray⟩,.int .i64 a.iss,.int .i64 a.cur,.int .i64 a.am,.int .i64 a.day,.bool a.used] t1)):=bR.alloc nL _;have B1:=Jo.new u a t1;have z1:=hu.below b1
    have hsz:(u.alloc (.cells #[.string ⟨a.ref.toArray⟩,.int .i64 a.iss,.int .i64 a.cur,.int .i64 a.am,.int .i64 a.day,.bool a.used] t1)).heap.size=u.heap.size+1:=by simp
    generalize u.alloc (.cells #[.string ⟨a.ref.toArray⟩,.int .i64 a.iss,.int .i64 a.cur,.int .i64 a.am,.int .i64 a.day,.bool a.used] t1)=V at b1 B1 z1 hsz
    have b2:Below V.heap.size V (V.alloc (.cells #[.slice ao az.length cap,.slice (some ⟨u.heap.size,0,none⟩) 1 1] t2)):=bR.alloc nL _
    have k1:(V.alloc (.cells #[.slice ao az.length cap,.slice (some ⟨u.heap.size,0,none⟩) 1 1] t2)).cell? ⟨V.heap.size,0,none⟩=some (.slice ao az.length cap):=by simp
    have k2:(V.alloc (.cells #[.slice ao az.length cap,.slice (some ⟨u.heap.size,0,none⟩) 1 1] t2)).cell? ⟨V.heap.size,1,none⟩=some (.slice (some ⟨u.heap.size,0,none⟩) 1 1):=by simp
    rw [hsz] at k1 k2;exact ⟨⟨k1,k2,z1.below b2,bP (B1.below b2)⟩,next b1 b2⟩
   clear hL;obtain ⟨r,i,c,m,d,u⟩:=a;unfold Fe at HO ⊢
   simp only at hW HO HH HTW ⊢
   have HW:Hid _:=hW;obtain ⟨f0,f1,f2,f3,f4,f5⟩:=B;clear hW
   go_enter func208,ntmps208
   go_upto_region 1 with fail
   rw [← HW.o];go_wp2_with fail
   refine (HO.o _).mono ?_;rintro e u1 ⟨rfl,b1⟩;have HB1:Hid (BW w u1):=next HBW.o b1;have B1:=HBB.o.below b1;have HBB1:Hid (Jo w.heap.size ⟨r,i,c,m,d,u⟩ u1):=B1;clear b1 f0 f1 f2 f3 f4 f5;obtain ⟨f0,f1,f2,f3,f4,f5⟩:=B1
   simp only at f0 f1 f2 f3 f4 f5
   go_wp2_with fail
   refine (HH.o _ (HZ.o.below HB1.o)).mono ?_;rintro e u2 ⟨rfl,b2⟩;have HB2:Hid (BW w u2):=next HB1.o b2;have B2:=HBB1.o.below b2;clear b2 f0 f1 f2 f3 f4 f5;obtain ⟨f0,f1,f2,f3,f4,f5⟩:=B2
   simp only at f0 f1 f2 f3 f4 f5
   go_wp2_with fail
   refine (HJ.o _ _ _ _ (HTW.o u2 _ _ (HZ.o.below HB2.o)).1).mono ?_;rintro e u3 ⟨bo,cb,rfl,hA3,b3⟩;have HB3:Hid (BW w u3):=next (next HB2.o (HTW.o u2 _ _ (HZ.o.below HB2.o)).2) b3;have HA3:Hid (Ar u3 bo L):=hA3;clear hA3 b3 f0 f1 f2 f3 f4 f5;go_wp2_with fail
   refine (HCN.o _ _ _ HA3.o).mono ?_;rintro e u4 ⟨rfl,o4,b4⟩;have HO4:Hid _:=Ri o4 HB3.o.size;have HB4:Hid (BW w u4):=next HB3.o b4;clear o4 b4;go_wp2;go_ret2;exact ⟨_,_,rfl,HO4.o,HB4.o⟩
  ·have HQ:Hid (addOk az a=false):=by rw [Hid,HV.o,decide_eq_false h100];rfl
   have HL:Hid (Hp az a=az):=HN.o HQ.o;rw [HQ.o,HL.o]
   have h100':100≤(az.length:Int):=by omega
   clear HV HN HY HQ HL HCN;obtain ⟨r,i,c,m,d,u⟩:=a;unfold Fe at HO ⊢
   simp only at hW HO HH ⊢
   have HW:Hid _:=hW;obtain ⟨f0,f1,f2,f3,f4,f5⟩:=B;clear hW
   go_enter func208,ntmps208
   go_upto_region 1 with fail
   rw [← HW.o];go_wp2_with fail
   refine (HO.o _).mono ?_;rintro e u1 ⟨rfl,b1⟩;have HB1:Hid (BW w u1):=next HBW.o b1;have B1:=HBB.o.below b1;clear b1 f0 f1 f2 f3 f4 f5;obtain ⟨f0,f1,f2,f3,f4,f5⟩:=B1
   simp only at f0 f1 f2 f3 f4 f5
   go_wp2_with fail
   refine (HH.o _ (HZ.o.below HB1.o)).mono ?_;rintro e u2 ⟨rfl,b2⟩;have HB2:Hid (BW w u2):=next HB1.o b2;clear b2 f0 f1 f2 f3 f4 f5;go_wp2_with fail
   refine (HCP.o _ (HZ.o.below HB2.o)).mono ?_;rintro e u3 ⟨rfl,o3,b3⟩;have HO3:Hid _:=Ri o3 HB2.o.size;have HB3:Hid (BW w u3):=next HB2.o b3;clear o3 b3;go_wp2;go_ret2;exact ⟨_,_,rfl,HO3.o,HB3.o⟩
 ·have HQ:Hid (addOk az a=false):=by rw [Hid,HV.o];rfl
  have HL:Hid (Hp az a=az):=HN.o HQ.o;rw [HQ.o,HL.o];clear HV HN HY HQ HL HCN;obtain ⟨r,i,c,m,d,u⟩:=a;unfold Fe at HO ⊢
  simp only at hW HO HH ⊢
  have HW:Hid _:=hW;obtain ⟨f0,f1,f2,f3,f4,f5⟩:=B;clear hW
  go_enter func208,ntmps208
  go_upto_region 1 with fail
  rw [← HW.o];go_wp2_with fail
  refine (HO.o _).mono ?_;rintro e u1 ⟨rfl,b1⟩;have HB1:Hid (BW w u1):=next HBW.o b1;have B1:=HBB.o.below b1;clear b1 f0 f1 f2 f3 f4 f5;obtain ⟨f0,f1,f2,f3,f4,f5⟩:=B1
  simp only at f0 f1 f2 f3 f4 f5
  go_wp2_with fail
  refine (HH.o _ (HZ.o.below HB1.o)).mono ?_;rintro e u2 ⟨rfl,b2⟩;have HB2:Hid (BW w u2):=next HB1.o b2;clear b2 f0 f1 f2 f3 f4 f5;go_wp2_with fail
  refine (HCP.o _ (HZ.o.below HB2.o)).mono ?_;rintro e u3 ⟨rfl,o3,b3⟩;have HO3:Hid _:=Ri o3 HB2.o.size;have HB3:Hid (BW w u3):=next HB2.o b3;clear o3 b3;go_wp2;go_ret2;exact ⟨_,_,rfl,HO3.o,HB3.o⟩
theorem Yb (ao:Option Addr) (cap:Nat) (az:List Au) (a:Au) (w:World) (hz:Ar w ao az) (hn:az.length≤1048576) (hl:a.ref.length≤1099511627776) :
  Calls prog 143 #[.slice ao az.length cap,Fe a] w (Pi w (Hp az a) (addOk az a)):=by
 have HV:Hid (addOk az a=(Gy a && (!az.any (Gl a.ref) && decide (az.length<100)))):=rfl;have HN:Hid (addOk az a=false→Hp az a=az):=cZ;have HY:Hid (addOk az a=true→Hp az a=az++[a]):=Nk;have HZ:Hid (Ar w ao az):=hz;obtain ⟨q,hq⟩:∃ q,Gy a=q:=⟨_,rfl⟩
 have HO:Hid (∀ u,Calls prog 179 #[Fe a] u fun e w'=>e=.returned (.bool q)∧BW u w'):=fun u=>by rw [← hq];exact Pe a u hl
 obtain ⟨W,hW⟩:∃ W,W=w.alloc (.cells #[.string ⟨a.ref.toArray⟩,.int .i64 a.iss,.int .i64 a.cur,.int .i64 a.am,.int .i64 a.day,.bool a.used] 107):=⟨_,rfl⟩
 have B:Jo w.heap.size a W:=by rw [hW];exact Jo.new w a _
 have HBB:Hid (Jo w.heap.size a W):=B
 have bW:BW w W:=by rw [hW];exact bR.alloc nL _
 have HBW:Hid (BW w W):=bW;have bA:Below W.heap.size W (W.alloc (.cells #[] 107)):=bR.alloc nL _;have HZ1:Hid (Ar (W.alloc (.cells #[] 107)) ao az):=(hz.below bW).below bA;have HO1:=kV W;rw [hq] at HV;obtain ⟨A,hA⟩:∃ A,a=A:=⟨_,rfl⟩;rw [hA] at HV HN HY HBB ⊢
 have HAR:Hid (A.ref=a.ref):=by rw [hA];exact rfl
 have HAA:Hid (A=⟨a.ref,a.iss,a.cur,a.am,a.day,a.used⟩):=by rw [hA];exact rfl
 have e0:Fe A=Fe a:=by rw [hA]
 rw [e0];clear bW hl hq hz e0 hA;obtain ⟨r,i,c,m,d,u⟩:=a;unfold Fe at HO ⊢
 simp only at hW HO HAR HAA ⊢
 rw [HAR.o] at HV;have HW:Hid _:=hW;clear hW B
 go_enter func143,ntmps143
 go_upto_region 1 with fail
 rw [← HW.o]
 go_upto_region 2 with (at_builtin;refine Bu _ rfl (.tmp 8) (.tmp 9) rfl W.heap.size (.slice (some ⟨W.heap.size,0,none⟩) 0 0) 0 [] rfl HO1 ao cap az rfl HZ1.o (by omega) (by simp) ?_;intro v2 w2 o2 g2 n2)
 obtain ⟨g,cc,rfl⟩:=Oe o2 (n2 (by simp))
 simp only [Nat.zero_add,List.nil_append] at o2 ⊢
 have b2:BW W w2:=bA.grown g2 (by simp) (fun j hj=>by cases hj;exact nL)
 have B2:=HBB.o.below b2;rw [HAA.o] at B2;have HB2:Hid (BW w w2):=next HBW.o b2;have HBX2:Hid (Jo w.heap.size ⟨r,i,c,m,d,u⟩ w2):=B2;have HR:Hid (w2.ownsRow w.heap.size 107 6 (.slice (some ⟨g,0,none⟩) az.length cc) az.length (Ah az)):=Ri o2 HBW.o.size;have HG:Hid (W.heap.size≤g):=(o2.lt g rfl).1;clear o2 b2 g2 n2 HO1 bA HZ1;obtain ⟨f0,f1,f2,f3,f4,f5⟩:=B2
 simp only at f0 f1 f2 f3 f4 f5
 cases q
 ·have HQ:Hid (addOk az A=false):=HV.o
  have HL:Hid (Hp az A=az):=HN.o HQ.o;clear HV HN HY HAA HAR;go_wp2_with fail
  refine (HO.o _).mono ?_;rintro e u1 ⟨rfl,b1⟩;have HB3:Hid (BW w u1):=next HB2.o b1;have HR3:Hid _:=Iw HR.o b1;clear b1 f0 f1 f2 f3 f4 f5;go_wp2;go_ret2;rw [HQ.o,HL.o];exact ⟨_,_,rfl,HR3.o,HB3.o⟩
 by_cases h100:az.length<100
 ·have h100':(az.length:Int)<100:=by omega
  have HV2:Hid (addOk az A = !az.any (Gl r)):=by rw [Hid,HV.o,decide_eq_true h100,Bool.and_true,Bool.true_and]
  clear HV;go_wp2_with fail
  refine (HO.o _).mono ?_;rintro e u1 ⟨rfl,b1⟩;have HB3:Hid (BW w u1):=next HB2.o b1;have HR3:Hid (u1.ownsRow w.heap.size 107 6 (.slice (some ⟨g,0,none⟩) az.length cc) az.length (Ah az)):=Iw HR.o b1;have HBX3:Hid (Jo w.heap.size ⟨r,i,c,m,d,u⟩ u1):=HBX2.o.below b1;have HZ3:Hid (Ar u1 ao az):=HZ.o.below HB3.o;clear b1 f0 f1 f2 f3 f4 f5 HR HBX2 HB2 HO HZ HBB;go_wp2
  go_loopw [7] (fun i wr=>∃ k:Nat,k≤az.length∧i=.int .i64 k∧az.any (Gl r)=(az.drop k).any (Gl r)∧BW u1 wr) (fun i _=>az.length - (intOf i).toNat)
  case atStart=>exact ⟨0,Nat.zero_le _,rfl,rfl,bR⟩
  case round =>
   obtain ⟨k,hk,rfl,hany,hbr⟩:=hrel;obtain ⟨f0,f1,f2,f3,f4,f5⟩:=HBX3.o.below hbr
   simp only at f0 f1 f2 f3 f4 f5
   by_cases hlt:k<az.length
   ·have hki:(k:Int)<(az.length:Int):=by omega
    have HST:Hid _:=hany.trans (Wr (Gl r) az k hlt)
    rcases HZ3.o with h0 | ⟨b,off,rfl,hb,hcell⟩
    ·rw [h0] at hlt;simp at hlt
    have x0:wr.cell? ⟨b,off+k*6,none⟩=some (.string ⟨(Ak az k).ref.toArray⟩):=(hbr.cell (p:=⟨b,off+k*6,none⟩) hb).trans (hcell k hlt).1;have HPQ:Hid (Gl r (Ak az k)=((Ak az k).ref == r)):=rfl;obtain ⟨l,hlx⟩:∃ l,(Ak az k).ref=l:=⟨_,rfl⟩;rw [hlx] at x0 HPQ;have HB4:Hid (BW u1 wr):=hbr;have HWR:Hid (BW w wr):=next HB3.o hbr;have HR4:Hid _:=Iw HR3.o hbr;clear hlx hany hcell hbr
    cases hq:(l == r)
    ·have HE:Hid (az.any (Gl r)=(az.drop (k+1)).any (Gl r)):=by rw [Hid,HST.o,HPQ.o,hq];rfl
     clear HST HPQ;go_wp2
     go_quiet (fail)
     go_wp2
     go_roundw
     case rel=>exact ⟨k+1,by omega,by go_num,HE.o,below_drewN HB4.o _⟩
     case measure=>simp [intOf];omega
    ·have HE:Hid (az.any (Gl r)=true):=by rw [Hid,HST.o,HPQ.o,hq];rfl
     have HQ:Hid (addOk az A=false):=by rw [Hid,HV2.o,HE.o];rfl
     have HL:Hid (Hp az A=az):=HN.o HQ.o;clear HST HPQ;go_wp2
     go_quiet (fail)
     go_wp2;go_ret2;rw [HQ.o,HL.o];exact ⟨_,_,rfl,Iw HR4.o (below_drewN bR _),below_drewN HWR.o _⟩
   ·have HE:Hid (az.any (Gl r)=false):=by rw [Hid,hany,List.drop_of_length_le (by omega)];rfl
    have HQ:Hid (addOk az A=true):=by rw [Hid,HV2.o,HE.o];rfl
    have HL:Hid (Hp az A=az++[⟨r,i,c,m,d,u⟩]):=by rw [Hid,HY.o HQ.o,HAA.o]
    have HWR:Hid (BW w wr):=next HB3.o hbr;have HR4:Hid (wr.ownsRow w.heap.size 107 6 (.slice (some ⟨g,0,none⟩) az.length cc) az.length (Ah az)):=Iw HR3.o hbr;have HON:Hid (Ar (wr.alloc (.cells #[.string ⟨r.toArray⟩,.int .i64 i,.int .i64 c,.int .i64 m,.int .i64 d,.bool u] 107)) (some ⟨wr.heap.size,0,none⟩) [⟨r,i,c,m,d,u⟩]):=bP (Jo.new wr ⟨r,i,c,m,d,u⟩ _);have HOA:Hid ((wr.alloc (.cells #[.string ⟨r.toArray⟩,.int .i64 i,.int .i64 c,.int .i64 m,.int .i64 d,.bool u] 107)).ownsRow w.heap.size 107 6 (.slice (some ⟨g,0,none⟩) az.length cc) az.length (Ah az)):=Iw HR4.o (bR.alloc nL _);have hwz:w.heap.size≤wr.heap.size:=HWR.o.size;clear HE hany hbr HN HY HV2
    go_wp2_with (at_builtin;refine Bu _ rfl (.tmp 35) (.tmp 37) rfl w.heap.size (.slice (some ⟨g,0,none⟩) az.length cc) az.length (Ah az) rfl HOA.o (some ⟨wr.heap.size,0,none⟩) 1 [⟨r,i,c,m,d,u⟩] rfl HON.o (by simp;omega) (by simp;omega) ?_;intro v3 w3 o3 g3 n3)
    obtain ⟨a3,c3,rfl⟩:=dI o3
    have HO3:Hid (w3.ownsRow w.heap.size 107 6 (.slice a3 (az++([⟨r,i,c,m,d,u⟩]:List Au)).length c3) (az++([⟨r,i,c,m,d,u⟩]:List Au)).length (Ah (az++[⟨r,i,c,m,d,u⟩]))):=by rw [Hid,List.length_append,F9];exact o3
    have HB5:Hid (BW w w3):=(HWR.o.alloc HWR.o.size _).grown g3 (by simp;omega) (fun j hj=>(HOA.o.lt j hj).1)
    clear o3 g3 n3 HOA HON;go_wp2;go_ret2;rw [HQ.o,HL.o]
    exact ⟨a3,c3,by rw [List.length_append];rfl,HO3.o,HB5.o⟩
 ·have h100':100≤(az.length:Int):=by omega
  have HQ:Hid (addOk az A=false):=by rw [Hid,HV.o,decide_eq_false h100,Bool.and_false];rfl
  have HL:Hid (Hp az A=az):=HN.o HQ.o;clear HV HN HY HAA HAR;go_wp2_with fail
  refine (HO.o _).mono ?_;rintro e u1 ⟨rfl,b1⟩;have HB3:Hid (BW w u1):=next HB2.o b1;have HR3:Hid _:=Iw HR.o b1;clear b1 f0 f1 f2 f3 f4 f5;go_wp2;go_ret2;rw [HQ.o,HL.o];exact ⟨_,_,rfl,HR3.o,HB3.o⟩
def C7 (f:Int) (a:Au):Bool:=!a.used && decide (f≤a.day)
def E5 (az:List Au) (t:Int):List Au:=if Dn t=true then az.filter (C7 (t - 7)) else []
theorem Yp (az:List Au) (t:Int):(E5 az t).length≤az.length:=by unfold E5;split;exact List.length_filter_le _ _;exact Nat.zero_le _
theorem Jy (f:Int) (az:List Au) (k:Nat) (h:k<az.length):(az.take (k+1)).filter (C7 f)=(az.take k).filter (C7 f)++(if C7 f (Ak az k)=true then [Ak az k] else []):=by
 rw [List.take_succ_eq_append_getElem h,List.filter_append,Gw h]
 cases hq:C7 f az[k] <;> simp [hq]
theorem Uo {base n:Nat} {t:TypeId} {g cap:Nat} (vs:List Value):∀ (o:Nat) (w:World) (xs:List Value),w.ownsRow base t 6 (.slice (some ⟨g,0,none⟩) n cap) n xs→o+vs.length≤n*6 →
  ∃ ys,(w.setCells g o vs).ownsRow base t 6 (.slice (some ⟨g,0,none⟩) n cap) n ys∧ys.take o=xs.take o∧w.grownBy (w.setCells g o vs) (some g):=by
 induction vs with
 | nil=>intro o w xs h _;exact ⟨xs,h,rfl,World.grownBy.refl _ _⟩
 | cons v r ih =>
  intro o w xs h hl;have hs:=h.stored o v
  obtain ⟨ys,h1,h2,h3⟩:=ih (o+1) _ _ hs.1 (by simp at hl;omega)
  refine ⟨ys,h1,?_,hs.2.trans h3⟩
  have e:ys.take o=(ys.take (o+1)).take o:=by rw [List.take_take,Nat.min_eq_left (Nat.le_succ o)]
  rw [e,h2,List.take_take,Nat.min_eq_left (Nat.le_succ o),List.take_set_of_le (Nat.le_refl o)]
theorem dD {w:World} {base n s:Nat} {t:TypeId} {g cap:Nat} {xs:List Value} (h:w.ownsRow base t 6 (.slice (some ⟨g,0,none⟩) n cap) n xs) (hs:s≤n):w.ownsRow base t 6 (.slice (some ⟨g,0,none⟩) s cap) s (xs.take (s*6)):=by
 obtain ⟨h1,h2⟩:=h
 rcases h2 with ⟨hv,_⟩ | ⟨g',cap',cur,hv,hg,hh,a1,a2,a3,a4⟩
 ·cases hv
 ·obtain ⟨rfl,rfl⟩:g=g'∧cap=cap':=by simpa using hv
  refine ⟨by rw [List.length_take,h1];omega,.inr ⟨g,cap,cur,rfl,hg,hh,by omega,a2,a3,?_⟩⟩
  rw [← a4,List.take_take,Nat.min_eq_left (by omega)]
theorem fP (n:Nat):∀ v ∈ (Builtin.zeroCells (Value.agg #[.string ⟨#[]⟩,.int .i64 0,.int .i64 0,.int .i64 0,.int .i64 0,.bool false]).cells n).toList,v.oneCell'=true:=by
 intro v hv
 simp only [Builtin.zeroCells,Array.toList_map,List.mem_map] at hv
 obtain ⟨j,_,rfl⟩:=hv
 have:j % 6=0∨j % 6=1∨j % 6=2∨j % 6=3∨j % 6=4∨j % 6=5:=by omega
 simp only [Value.cells]
 show Value.oneCell' ((#[Value.string ⟨#[]⟩,.int .i64 0,.int .i64 0,.int .i64 0,.int .i64 0,.bool false]:Array Value)[j % 6]!)=true
 rcases this with e | e | e | e | e | e <;> rw [e] <;> rfl
theorem Z1 {W:World} {base n s g:Nat} {xs:List Value} (ho:W.ownsRow base 107 6 (.slice (some ⟨g,0,none⟩) n n) n xs) (hs:s<n) :
  ∃ V ys,(∀ ty,(Builtin.clear_ #[132] ty #[.slice (some ⟨g,s*6,none⟩) (n - s) (n - s)]).run prog W=.ok (.tuple #[]) V)∧V.ownsRow base 107 6 (.slice (some ⟨g,0,none⟩) n n) n ys∧ys.take (s*6)=xs.take (s*6)∧W.grownBy V (some g):=by
 have hlen:(Builtin.zeroCells (Value.agg #[.string ⟨#[]⟩,.int .i64 0,.int .i64 0,.int .i64 0,.int .i64 0,.bool false]).cells (n - s)).toList.length=(n - s) * 6:=by simp [Builtin.zeroCells,Value.cells]
 obtain ⟨vs,hvs⟩:∃ vs,(Builtin.zeroCells (Value.agg #[.string ⟨#[]⟩,.int .i64 0,.int .i64 0,.int .i64 0,.int .i64 0,.bool false]).cells (n - s)).toList=vs:=⟨_,rfl⟩
 have hone:∀ v ∈ vs,v.oneCell'=true:=by rw [← hvs];exact fP _
 rw [hvs] at hlen;have hxl:=ho.1
 obtain ⟨ys,h1,h2,h3⟩:=Uo vs (s*6) W xs ho (by rw [hlen];omega)
 refine ⟨_,ys,fun ty=>?_,h1,h2,h3⟩
 have hst:=run_storeCells_cells (P:=prog) g (s*6) vs 0 W (fun j hj=>by rw [ho.cellAt _ (by omega)];simp;omega) (fun j hj=>ho.frozenAt _) hone
 simp only [Nat.add_zero] at hst
 obtain ⟨q,hq⟩:∃ q,n - s=q+1:=⟨n - s - 1,by omega⟩
 rw [hq] at hvs ⊢
 simp [Builtin.clear_,run_underlying underlying132,zeroValue107,hvs,hst]
theorem qG {w:World} {g:Nat} {a:Au} (h:Jo g a w):Ar w (some ⟨g,0,none⟩) [a] :=
 .inr ⟨g,0,rfl,h.lt,fun i hi=>by
  obtain rfl:i=0:=by simpa using hi
  exact ⟨h.c0,h.c1,h.c2,h.c3,h.c4,h.c5⟩⟩
theorem U5:prog.elem 132=107:=by simp [Program.elem,underlying132]
theorem Vd:prog.underlying 132=some (.slice (prog.elem 132)):=by rw [U5];exact underlying132
theorem bG (w:World):(sizeOf 107).run prog w=.ok 6 w:=by
 obtain ⟨i0,hi,hz0,hz1,hz2⟩:=info_parts cF
 simp [sizeOf,typeInfo,hi,hz1]
theorem X4 {g n s:Nat} (hs:s≤n) (W:World):(Instr.slice 132 (.slice (some ⟨g,0,none⟩) n n) (some (.int .i64 s)) none none).run prog W=.ok (.slice (some (if n=s then ⟨g,0,none⟩ else ⟨g,s*6,none⟩)) (n - s) (n - s)) W:=by
 rw [run_slice_l W _ _ _ _ Vd .i64 _ (by omega) (by omega),U5,bG]
 by_cases h:n=s
 ·simp [Result.andThen,sliced,h]
 ·simp [Result.andThen,sliced,h,Addr.add]
  intro h0;exact h0.symm
theorem aB {g n s:Nat} (hs:s≤n) (W:World):(Instr.slice 132 (.slice (some ⟨g,0,none⟩) n n) none (some (.int .i64 s)) none).run prog W=.ok (.slice (some ⟨g,0,none⟩) s n) W:=by
 rw [run_slice_h W _ _ _ _ Vd .i64 _ (by omega) (by omega),U5,bG]
 simp [Result.andThen,sliced,Addr.add]
structure Xs (f:Int) (az bs:List Au) (s k:Nat):Prop where
 len:bs.length=az.length
 le:s≤k
 front:bs.take s=(az.take k).filter (C7 f)
 rest:∀ j,k≤j→j<az.length→Ak bs j=Ak az j
theorem Xs.start (f:Int) (az:List Au):Xs f az az 0 0:=⟨rfl,nL,rfl,fun _ _ _=>rfl⟩
theorem Xs.skip {f:Int} {az bs:List Au} {s k:Nat} (h:Xs f az bs s k) (hk:k<az.length) (hq:C7 f (Ak az k)=false):Xs f az bs s (k+1) :=
 ⟨h.len,Nat.le_succ_of_le h.le,by rw [Jy f az k hk,hq,h.front];simp,fun j h1 h2=>h.rest j (by omega) h2⟩
theorem Xs.keep {f:Int} {az bs:List Au} {s k:Nat} (h:Xs f az bs s k) (hk:k<az.length) (hq:C7 f (Ak az k)=true):Xs f az (bs.set s (Ak az k)) (s+1) (k+1):=by
 have hl:=h.len;have hle:=h.le
 refine ⟨by rw [List.length_set];exact hl,by omega,?_,fun j h1 h2=>?_⟩
 ·rw [Jy f az k hk,hq,if_pos rfl,← h.front,List.take_succ_eq_append_getElem (by rw [List.length_set];omega),List.take_set_of_le (Nat.le_refl s),List.getElem_set_self]
 ·rw [Gw (by rw [List.length_set];omega),List.getElem_set_ne (by omega),← Gw (by omega)]
  exact h.rest j (by omega) h2
theorem aJ (g base:Nat) (az:List Au) (f:Int) (w:World) (ho:w.ownsRow base 107 6 (.slice (some ⟨g,0,none⟩) az.length az.length) az.length (Ah az)) (hn:az.length≤4194304) :
  Calls prog 247 #[.slice (some ⟨g,0,none⟩) az.length az.length,.int .i64 f] w fun e w'=>e=.returned (.slice (some ⟨g,0,none⟩) (az.filter (C7 f)).length az.length) ∧
   w'.ownsRow base 107 6 (.slice (some ⟨g,0,none⟩) (az.filter (C7 f)).length az.length) (az.filter (C7 f)).length (Ah (az.filter (C7 f)))∧w.grownBy w' (some g):=by
 have HO0:Hid _:=ho;clear ho
 go_enter func247,ntmps247
 go_wp2
 go_loopw [5,7,10] (fun s _ i wr=>∃ (k y:Nat) (bs:List Au),k≤az.length∧i=.int .i64 k∧s=.int .i64 y∧Xs f az bs y k∧wr.ownsRow base 107 6 (.slice (some ⟨g,0,none⟩) az.length az.length) az.length (Ah bs)∧w.grownBy wr (some g)) (fun _ _ i _=>az.length - (intOf i).toNat)
 case atStart=>exact ⟨0,0,az,Nat.zero_le _,rfl,rfl,Xs.start f az,HO0.o,World.grownBy.refl _ _⟩
 case round =>
  obtain ⟨k,y,bs,hk,rfl,rfl,hp,hor,hgr⟩:=hrel;have hyk:=hp.le;have HP:Hid (Xs f az bs y k):=hp;have HBL:Hid (bs.length=az.length):=hp.len;clear hp HO0
  by_cases hlt:k<az.length
  ·have hki:(k:Int)<(az.length:Int):=by omega
   have hat:=De bs k (by have:=HBL.o;omega)
   rw [HP.o.rest k nL hlt] at hat
   have x0:wr.cell? ⟨g,k*6,none⟩=some (.string ⟨(Ak az k).ref.toArray⟩):=by rw [hor.cellAt (k*6) (by omega)];exact hat.1
   have x1:wr.cell? ⟨g,k*6+1,none⟩=some (.int .i64 (Ak az k).iss):=by rw [hor.cellAt (k*6+1) (by omega)];exact hat.2.1
   have x2:wr.cell? ⟨g,k*6+2,none⟩=some (.int .i64 (Ak az k).cur):=by rw [hor.cellAt (k*6+2) (by omega)];exact hat.2.2.1
   have x3:wr.cell? ⟨g,k*6+3,none⟩=some (.int .i64 (Ak az k).am):=by rw [hor.cellAt (k*6+3) (by omega)];exact hat.2.2.2.1
   have x4:wr.cell? ⟨g,k*6+4,none⟩=some (.int .i64 (Ak az k).day):=by rw [hor.cellAt (k*6+4) (by omega)];exact hat.2.2.2.2.1
   have x5:wr.cell? ⟨g,k*6+5,none⟩=some (.bool (Ak az k).used):=by rw [hor.cellAt (k*6+5) (by omega)];exact hat.2.2.2.2.2
   have HK:Hid (C7 f (Ak az k)=(!(Ak az k).used && decide (f≤(Ak az k).day))):=rfl
   have HTK:Hid (C7 f (Ak az k)=true→Xs f az (bs.set y (Ak az k)) (y+1) (k+1)):=fun h=>HP.o.keep hlt h
   have HTS:Hid (C7 f (Ak az k)=false→Xs f az bs y (k+1)):=fun h=>HP.o.skip hlt h
   have HST:Hid _:=Hu bs (Ak az k) y (by have:=HBL.o;omega)
   obtain ⟨⟨r,i,c,m,d,u⟩,hf⟩:∃ a,Ak az k=a:=⟨_,rfl⟩;rw [hf] at x0 x1 x2 x3 x4 x5 HK HTK HTS HST
   simp only at x0 x1 x2 x3 x4 x5 HK HST
   have HO:Hid (wr.ownsRow base 107 6 (.slice (some ⟨g,0,none⟩) az.length az.length) az.length (Ah bs)):=hor;have HG:Hid (w.grownBy wr (some g)):=hgr;have hgl:g<wr.heap.size:=(hor.lt g rfl).2;clear hf hor hgr hat;go_upto_region 5 with fail
   clear x0 x1 x2 x3 x4 x5;obtain ⟨W,hW⟩:∃ W,wr.alloc (.cells #[.string ⟨r.toArray⟩,.int .i64 i,.int .i64 c,.int .i64 m,.int .i64 d,.bool u] 107)=W:=⟨_,rfl⟩;have bW:BW wr W:=hW ▸ bR.alloc nL _;have BX:Jo wr.heap.size ⟨r,i,c,m,d,u⟩ W:=hW ▸ Jo.new wr ⟨r,i,c,m,d,u⟩ _;rw [hW];clear hW;have oW:=Iw HO.o bW
   have gW:w.grownBy W (some g):=HG.o.trans ⟨bW.os,bW.tape,bW.output,bW.size,fun j hj _=>bW.block j hj⟩
   have HOW:Hid (W.ownsRow base 107 6 (.slice (some ⟨g,0,none⟩) az.length az.length) az.length (Ah bs)):=oW;have HGW:Hid (w.grownBy W (some g)):=gW;obtain ⟨q0,q1,q2,q3,q4,q5⟩:=BX
   simp only at q0 q1 q2 q3 q4 q5
   cases u
   ·by_cases hfd:f≤d
    ·have HY:Hid (Xs f az (bs.set y ⟨r,i,c,m,d,false⟩) (y+1) (k+1)):=HTK.o (by rw [HK.o,decide_eq_true hfd];rfl)
     have hat2:=De bs y (by have:=HBL.o;omega)
     have y0:W.cell? ⟨g,y*6,none⟩=some (.string ⟨(Ak bs y).ref.toArray⟩):=by rw [oW.cellAt (y*6) (by omega)];exact hat2.1
     have z0:W.frozen? ⟨g,y*6,none⟩=false:=oW.frozenAt _
     have y1:W.cell? ⟨g,y*6+1,none⟩=some (.int .i64 (Ak bs y).iss):=by rw [oW.cellAt (y*6+1) (by omega)];exact hat2.2.1
     have z1:W.frozen? ⟨g,y*6+1,none⟩=false:=oW.frozenAt _
     have y2:W.cell? ⟨g,y*6+2,none⟩=some (.int .i64 (Ak bs y).cur):=by rw [oW.cellAt (y*6+2) (by omega)];exact hat2.2.2.1
     have z2:W.frozen? ⟨g,y*6+2,none⟩=false:=oW.frozenAt _
     have y3:W.cell? ⟨g,y*6+3,none⟩=some (.int .i64 (Ak bs y).am):=by rw [oW.cellAt (y*6+3) (by omega)];exact hat2.2.2.2.1
     have z3:W.frozen? ⟨g,y*6+3,none⟩=false:=oW.frozenAt _
     have y4:W.cell? ⟨g,y*6+4,none⟩=some (.int .i64 (Ak bs y).day):=by rw [oW.cellAt (y*6+4) (by omega)];exact hat2.2.2.2.2.1
     have z4:W.frozen? ⟨g,y*6+4,none⟩=false:=oW.frozenAt _
     have y5:W.cell? ⟨g,y*6+5,none⟩=some (.bool (Ak bs y).used):=by rw [oW.cellAt (y*6+5) (by omega)];exact hat2.2.2.2.2.2
     have z5:W.frozen? ⟨g,y*6+5,none⟩=false:=oW.frozenAt _;obtain ⟨⟨r',i',c',m',d',u'⟩,hf'⟩:∃ a,Ak bs y=a:=⟨_,rfl⟩;rw [hf'] at y0 y1 y2 y3 y4 y5
     simp only at y0 y1 y2 y3 y4 y5
     have HR:Hid ((((((((W.setCell ⟨g,y*6,none⟩ (.string ⟨r.toArray⟩)).setCell ⟨g,y*6+1,none⟩ (.int .i64 i)).setCell ⟨g,y*6+2,none⟩ (.int .i64 c)).setCell ⟨g,y*6+3,none⟩ (.int .i64 m)).setCell ⟨g,y*6+4,none⟩ (.int .i64 d)).setCell ⟨g,y*6+5,none⟩ (.bool false))).ownsRow base 107 6 (.slice (some ⟨g,0,none⟩) az.length az.length) az.length (Ah (bs.set y ⟨r,i,c,m,d,false⟩))):=by
      have R:=(((((((oW.stored (y*6) (.string ⟨r.toArray⟩)).1.stored (y*6+1) (.int .i64 i)).1.stored (y*6+2) (.int .i64 c)).1.stored (y*6+3) (.int .i64 m)).1.stored (y*6+4) (.int .i64 d)).1.stored (y*6+5) (.bool false))).1;rw [HST.o] at R;exact R
     have HGR:Hid (w.grownBy (((((((W.setCell ⟨g,y*6,none⟩ (.string ⟨r.toArray⟩)).setCell ⟨g,y*6+1,none⟩ (.int .i64 i)).setCell ⟨g,y*6+2,none⟩ (.int .i64 c)).setCell ⟨g,y*6+3,none⟩ (.int .i64 m)).setCell ⟨g,y*6+4,none⟩ (.int .i64 d)).setCell ⟨g,y*6+5,none⟩ (.bool false))) (some g)):=gW.trans (((((((oW.stored (y*6) (.string ⟨r.toArray⟩)).2).trans ((oW.stored (y*6) (.string ⟨r.toArray⟩)).1.stored (y*6+1) (.int .i64 i)).2).trans (((oW.stored (y*6) (.string ⟨r.toArray⟩)).1.stored (y*6+1) (.int .i64 i)).1.stored (y*6+2) (.int .i64 c)).2).trans ((((oW.stored (y*6) (.string ⟨r.toArray⟩)).1.stored (y*6+1) (.int .i64 i)).1.stored (y*6+2) (.int .i64 c)).1.stored (y*6+3) (.int .i64 m)).2).trans (((((oW.stored (y*6) (.string ⟨r.toArray⟩)).1.stored (y*6+1) (.int .i64 i)).1.stored (y*6+2) (.int .i64 c)).1.stored (y*6+3) (.int .i64 m)).1.stored (y*6+4) (.int .i64 d)).2).trans ((((((oW.stored (y*6) (.string ⟨r.toArray⟩)).1.stored (y*6+1) (.int .i64 i)).1.stored (y*6+2) (.int .i64 c)).1.stored (y*6+3) (.int .i64 m)).1.stored (y*6+4) (.int .i64 d)).1.stored (y*6+5) (.bool false)).2)
     have hyl:(y:Int)<(az.length:Int):=by omega
     clear hf' hat2 oW gW bW HO HG HOW HGW HP HK HTK HTS HST HBL;go_wp2
     go_roundw
     case rel=>exact ⟨k+1,y+1,_,by omega,by go_num,by go_num,HY.o,HR.o,HGR.o⟩
     case measure=>simp [intOf];omega
    ·have HY:Hid (Xs f az bs y (k+1)):=HTS.o (by rw [HK.o,decide_eq_false hfd];rfl)
     clear oW gW bW HO HG HP HK HTK HTS HST HBL;go_wp2
     go_roundw
     case rel=>exact ⟨k+1,y,bs,by omega,by go_num,rfl,HY.o,HOW.o,HGW.o⟩
     case measure=>simp [intOf];omega
   ·have HY:Hid (Xs f az bs y (k+1)):=HTS.o (by rw [HK.o];rfl)
    clear oW gW bW HO HG HP HK HTK HTS HST HBL;go_wp2
    go_roundw
    case rel=>exact ⟨k+1,y,bs,by omega,by go_num,rfl,HY.o,HOW.o,HGW.o⟩
    case measure=>simp [intOf];omega
  ·have hke:k=az.length:=by omega
   subst hke
   have hfr:bs.take y=az.filter (C7 f):=by have:=HP.o.front;rwa [List.take_length] at this
   have hfl:(az.filter (C7 f)).length=y:=by rw [← hfr,List.length_take,HBL.o];omega
   have htk:(Ah bs).take (y*6)=Ah (az.filter (C7 f)):=by
    have e:Ah bs=Ah (bs.take y)++Ah (bs.drop y):=by rw [← F9,List.take_append_drop]
    rw [e,List.take_append_of_le_length (by rw [E2,List.length_take,HBL.o];omega),List.take_of_length_le (by rw [E2,List.length_take,HBL.o];omega),hfr]
   have HFL:Hid _:=hfl;have HTK:Hid _:=htk;have HO:Hid (wr.ownsRow base 107 6 (.slice (some ⟨g,0,none⟩) az.length az.length) az.length (Ah bs)):=hor;have HG:Hid (w.grownBy wr (some g)):=hgr;have hs1:=X4 (g:=g) (n:=az.length) (s:=y) hyk;have hs2:=aB (g:=g) (n:=az.length) (s:=y) hyk
   by_cases hye:az.length=y
   ·have HR:Hid (wr.ownsRow base 107 6 (.slice (some ⟨g,0,none⟩) y az.length) y (Ah (az.filter (C7 f)))):=by
      have:=dD HO.o hyk
      rwa [HTK.o] at this
    rw [hye,Nat.sub_self,if_pos rfl] at hs1;rw [hye] at hs2;have HYE:Hid _:=hye
    have hcl:∀ ty,(Builtin.clear_ #[132] ty #[.slice (some ⟨g,0,none⟩) 0 0]).run prog wr=.ok (.tuple #[]) wr:=fun ty=>by
     simp [Builtin.clear_,run_underlying underlying132]
    rw [hye] at HR hn ⊢;clear hor hgr hfr hfl htk HP HBL hye hyk hk hlt HO HTK;go_wp2;go_ret;rw [HFL.o,HYE.o];exact ⟨rfl,HR.o,HG.o⟩
   ·obtain ⟨V,ys,hcl,oV,htv,gV⟩:=Z1 HO.o (show y<az.length by omega)
    have HR:Hid (V.ownsRow base 107 6 (.slice (some ⟨g,0,none⟩) y az.length) y (Ah (az.filter (C7 f)))):=by
     have:=dD oV hyk
     rwa [htv,HTK.o] at this
    have HGV:Hid (w.grownBy V (some g)):=HG.o.trans gV;rw [if_neg hye] at hs1;clear hor hgr hfr hfl htk HP HBL HO HTK oV htv gV;go_wp2;go_ret;rw [HFL.o];exact ⟨rfl,HR.o,HGV.o⟩
theorem Z4 (ao:Option Addr) (cap:Nat) (az:List Au) (t:Int) (w:World) (hz:Ar w ao az) (hn:az.length≤4194304) (hd:∀ a ∈ az,a.ref.length≤1099511627776) :
  Calls prog 207 #[.slice ao az.length cap,.int .i64 t] w (pA w (E5 az t)):=by
 cases hq:Dn t
 ·have HL:Hid (E5 az t=[]):=by rw [Hid,E5,if_neg (by rw [hq];decide)]
  go_enter func207,ntmps207
  go_wp2_with fail
  refine (Bm t _).mono ?_;rintro e w1 ⟨rfl,hw⟩;subst hw;rw [hq];go_wp2;go_ret;rw [HL.o];exact ⟨none,0,rfl,World.ownsRow_nil _ _ _ _,bR⟩
 ·have htb:=Ei hq
  have HL:Hid (E5 az t=az.filter (C7 (t - 7))):=by rw [Hid,E5,if_pos hq]
  go_enter func207,ntmps207
  go_wp2_with fail
  refine (Bm t _).mono ?_;rintro e w1 ⟨rfl,hw⟩;subst hw;rw [hq];go_wp2_with fail
  refine (Dj _ _ _ _ hz hn hd).mono ?_;rintro e w2 ⟨rfl,o2,b2⟩;have HO:Hid _:=o2;have HB:Hid _:=b2;clear o2 b2 hz;go_wp2_with fail
  refine (aJ _ _ _ _ _ HO.o hn).mono ?_;rintro e w3 ⟨rfl,o3,g3⟩;have HO3:Hid _:=o3
  have HG3:Hid _:=HB.o.grown g3 HB.o.size (fun k hk=>by cases hk;exact nL)
  clear o3 g3 HO HB;go_wp2;go_ret;rw [HL.o];exact ⟨_,_,rfl,HO3.o,HG3.o⟩
theorem Zi (ao:Option Addr) (cap:Nat) (az:List Au) (t:Int) (w:World) (hz:Ar w ao az) (hn:az.length≤4194304) :
  Calls prog 178 #[.slice ao az.length cap,.int .i64 t] w (pA w (E5 az t)):=by
 have bA:Below w.heap.size w (w.alloc (.cells #[] 107)):=bR.alloc nL _;have oA:=kV w
 have HDY:Hid (∀ u,Calls prog 102 #[.int .i64 t] u fun e w'=>e=.returned (.bool (Dn t))∧w'=u):=fun u=>A9 t u
 cases hq:Dn t
 ·have HL:Hid (E5 az t=[]):=by rw [Hid,E5,if_neg (by rw [hq];decide)]
  rw [hq] at HDY;have HO:Hid _:=And.intro oA bA;clear oA bA
  by_cases h0:0<az.length
  ·have h0':(0:Int)<(az.length:Int):=by omega
   go_enter func178,ntmps178
   go_wp2;refine wp_loop_rounds 1 ?_;rw [rounds_succ];go_wp2_with fail
   refine (HDY.o _).mono ?_;rintro e w1 ⟨rfl,hw⟩;subst hw;go_wp2;go_ret;rw [HL.o];exact ⟨_,_,rfl,HO.o.1,HO.o.2⟩
  ·have h0':¬ (0:Int)<(az.length:Int):=by omega
   go_enter func178,ntmps178
   go_wp2;refine wp_loop_rounds 1 ?_;rw [rounds_succ];go_wp2;go_ret;rw [HL.o];exact ⟨_,_,rfl,HO.o.1,HO.o.2⟩
 ·have htb:=Ei hq
  have HL:Hid (E5 az t=az.filter (C7 (t - 7))):=by rw [Hid,E5,if_pos hq]
  rw [hq] at HDY
  rcases hz with rfl | ⟨b,off,rfl,hb,hcell⟩
  ·have HO:Hid _:=And.intro oA bA
   clear oA bA
   go_enter func178,ntmps178
   go_wp2;refine wp_loop_rounds 1 ?_;rw [rounds_succ];go_wp2;go_ret;rw [HL.o];exact ⟨_,_,rfl,HO.o.1,HO.o.2⟩
  have HC:Hid (∀ i,i<az.length→w.cell? ⟨b,off+i*6,none⟩=some (.string ⟨(Ak az i).ref.toArray⟩)∧w.cell? ⟨b,off+i*6+1,none⟩=some (.int .i64 (Ak az i).iss)∧w.cell? ⟨b,off+i*6+2,none⟩=some (.int .i64 (Ak az i).cur)∧w.cell? ⟨b,off+i*6+3,none⟩=some (.int .i64 (Ak az i).am)∧w.cell? ⟨b,off+i*6+4,none⟩=some (.int .i64 (Ak az i).day)∧w.cell? ⟨b,off+i*6+5,none⟩=some (.bool (Ak az i).used)):=hcell;clear hcell
  go_enter func178,ntmps178
  go_wp2
  go_loopw [5,6] (fun v i wr=>∃ (k:Nat) (ao:Option Addr) (c:Nat),k≤az.length∧i=.int .i64 k∧v=.slice ao ((az.take k).filter (C7 (t - 7))).length c∧wr.ownsRow w.heap.size 107 6 (.slice ao ((az.take k).filter (C7 (t - 7))).length c) ((az.take k).filter (C7 (t - 7))).length (Ah ((az.take k).filter (C7 (t - 7))))∧BW w wr) (fun _ i _=>az.length - (intOf i).toNat)
  case atStart=>exact ⟨0,_,_,Nat.zero_le _,rfl,rfl,oA,bA⟩
  case round =>
   obtain ⟨k,ao,cc,hk,rfl,rfl,hor,hbr⟩:=hrel;clear oA bA
   by_cases hlt:k<az.length
   ·have x0:wr.cell? ⟨b,off+k*6,none⟩=some (.string ⟨(Ak az k).ref.toArray⟩):=(hbr.cell (p:=⟨b,off+k*6,none⟩) hb).trans (HC.o k hlt).1
    have x1:wr.cell? ⟨b,off+k*6+1,none⟩=some (.int .i64 (Ak az k).iss):=(hbr.cell (p:=⟨b,off+k*6+1,none⟩) hb).trans (HC.o k hlt).2.1;have x2:wr.cell? ⟨b,off+k*6+2,none⟩=some (.int .i64 (Ak az k).cur):=(hbr.cell (p:=⟨b,off+k*6+2,none⟩) hb).trans (HC.o k hlt).2.2.1;have x3:wr.cell? ⟨b,off+k*6+3,none⟩=some (.int .i64 (Ak az k).am):=(hbr.cell (p:=⟨b,off+k*6+3,none⟩) hb).trans (HC.o k hlt).2.2.2.1;have x4:wr.cell? ⟨b,off+k*6+4,none⟩=some (.int .i64 (Ak az k).day):=(hbr.cell (p:=⟨b,off+k*6+4,none⟩) hb).trans (HC.o k hlt).2.2.2.2.1;have x5:wr.cell? ⟨b,off+k*6+5,none⟩=some (.bool (Ak az k).used):=(hbr.cell (p:=⟨b,off+k*6+5,none⟩) hb).trans (HC.o k hlt).2.2.2.2.2
    have hki:(k:Int)<(az.length:Int):=by omega
    have HTF:Hid _:=Jy (t - 7) az k hlt;have HK:Hid (C7 (t - 7) (Ak az k)=(!(Ak az k).used && decide (t - 7≤(Ak az k).day))):=rfl
    have hll:((az.take k).filter (C7 (t - 7))).length≤k:=Nat.le_trans (List.length_filter_le _ _) (by simp;omega)
    obtain ⟨B,hB⟩:∃ B,(az.take k).filter (C7 (t - 7))=B:=⟨_,rfl⟩;obtain ⟨⟨r,i,c,m,d,u⟩,hf⟩:∃ a,Ak az k=a:=⟨_,rfl⟩;rw [hf] at x0 x1 x2 x3 x4 x5 HK HTF;rw [hB] at hor hll HTF ⊢
    simp only at x0 x1 x2 x3 x4 x5 HK
    have HO:Hid (wr.ownsRow w.heap.size 107 6 (.slice ao B.length cc) B.length (Ah B)):=hor;have HB:Hid (BW w wr):=hbr;clear hB hf hor hbr;go_wp2_with fail
    refine (HDY.o _).mono ?_;rintro e w1 ⟨rfl,hw⟩;subst hw
    cases u
    ·by_cases hfd:t - 7≤d
     ·have HE:Hid ((az.take (k+1)).filter (C7 (t - 7))=B++[⟨r,i,c,m,d,false⟩]):=by rw [Hid,HTF.o,HK.o,decide_eq_true hfd];rfl
      have HON:Hid (Ar (w1.alloc (.cells #[.string ⟨r.toArray⟩,.int .i64 i,.int .i64 c,.int .i64 m,.int .i64 d,.bool false] 107)) (some ⟨w1.heap.size,0,none⟩) [⟨r,i,c,m,d,false⟩]):=qG (Jo.new w1 ⟨r,i,c,m,d,false⟩ _);have HOA:Hid ((w1.alloc (.cells #[.string ⟨r.toArray⟩,.int .i64 i,.int .i64 c,.int .i64 m,.int .i64 d,.bool false] 107)).ownsRow w.heap.size 107 6 (.slice ao B.length cc) B.length (Ah B)):=Iw HO.o (bR.alloc nL _);have hwz:w.heap.size≤w1.heap.size:=HB.o.size
      go_wp2_with (at_builtin;refine Bu _ rfl (.tmp 34) (.tmp 39) rfl w.heap.size (.slice ao B.length cc) B.length (Ah B) rfl HOA.o (some ⟨w1.heap.size,0,none⟩) 1 [⟨r,i,c,m,d,false⟩] rfl HON.o (by simp;omega) (by simp;omega) ?_;intro v2 w2 o2 g2 n2)
      obtain ⟨a2,c2,rfl⟩:=dI o2
      have HO2:Hid (w2.ownsRow w.heap.size 107 6 (.slice a2 (B++([⟨r,i,c,m,d,false⟩]:List Au)).length c2) (B++([⟨r,i,c,m,d,false⟩]:List Au)).length (Ah (B++[⟨r,i,c,m,d,false⟩]))):=by rw [Hid,List.length_append,F9];exact o2
      have HB2:Hid (BW w w2):=(HB.o.alloc HB.o.size _).grown g2 (by simp;omega) (fun j hj=>(HOA.o.lt j hj).1)
      clear o2 g2 n2 HOA HON HTF HK;go_wp2
      go_roundw
      case rel=>exact ⟨k+1,a2,c2,by omega,by go_num,by rw [HE.o,List.length_append],by rw [HE.o];exact HO2.o,HB2.o⟩
      case measure=>simp [intOf];omega
     ·have HE:Hid ((az.take (k+1)).filter (C7 (t - 7))=B):=by rw [Hid,HTF.o,HK.o,decide_eq_false hfd];simp
      clear HTF HK;go_wp2
      go_roundw
      case rel=>exact ⟨k+1,ao,cc,by omega,by go_num,by rw [HE.o],by rw [HE.o];exact HO.o,HB.o⟩
      case measure=>simp [intOf];omega
    ·have HE:Hid ((az.take (k+1)).filter (C7 (t - 7))=B):=by rw [Hid,HTF.o,HK.o];simp
     clear HTF HK;go_wp2
     go_roundw
     case rel=>exact ⟨k+1,ao,cc,by omega,by go_num,by rw [HE.o],by rw [HE.o];exact HO.o,HB.o⟩
     case measure=>simp [intOf];omega
   ·have hke:k=az.length:=by omega
    subst hke;rw [List.take_length] at hor ⊢;have HO:Hid _:=And.intro hor hbr;clear hor hbr;go_wp2;go_ret;rw [HL.o];exact ⟨_,_,rfl,HO.o.1,HO.o.2⟩
def useOk (az:List Au) (i:Int):Bool:=decide (0≤i∧i<az.length) && !(Ak az i.toNat).used
def Lz (a:Au):Au:=⟨a.ref,a.iss,a.cur,a.am,a.day,true⟩
def M7 (az:List Au) (i:Int):List Au:=if useOk az i=true then az.set i.toNat (Lz (Ak az i.toNat)) else az
theorem jC (az:List Au) (i:Int):(M7 az i).length=az.length:=by unfold M7;split <;> simp
theorem Np {az:List Au} {i:Int} (h:useOk az i=false):M7 az i=az:=by rw [M7,if_neg (by rw [h];decide)]
theorem jU (ao:Option Addr) (cap:Nat) (az:List Au) (i:Int) (w:World) (hz:Ar w ao az) (hn:az.length≤4194304) (hd:∀ a ∈ az,a.ref.length≤1099511627776) :
  Calls prog 212 #[.slice ao az.length cap,.int .i64 i] w (Pi w (M7 az i) (useOk az i)):=by
 by_cases h0:i<0
 ·have HQ:Hid (useOk az i=false):=by rw [Hid,useOk,decide_eq_false (by omega)];rfl
  go_enter func212,ntmps212
  go_wp2_with fail
  refine (Dj _ _ _ _ hz hn hd).mono ?_;rintro e w1 ⟨rfl,o1,b1⟩;have HO:Hid _:=And.intro o1 b1;clear o1 b1 hz;go_wp2;go_ret2;rw [HQ.o,Np HQ.o];exact ⟨_,_,rfl,HO.o.1,HO.o.2⟩
 by_cases h1:(az.length:Int)≤i
 ·have HQ:Hid (useOk az i=false):=by rw [Hid,useOk,decide_eq_false (by omega)];rfl
  go_enter func212,ntmps212
  go_wp2_with fail
  refine (Dj _ _ _ _ hz hn hd).mono ?_;rintro e w1 ⟨rfl,o1,b1⟩;have HO:Hid _:=And.intro o1 b1;clear o1 b1 hz;go_wp2;go_ret2;rw [HQ.o,Np HQ.o];exact ⟨_,_,rfl,HO.o.1,HO.o.2⟩
 obtain ⟨k,rfl⟩:=Int.eq_ofNat_of_zero_le (show 0≤i by omega)
 have hk:k<az.length:=by omega
 have hlt:(k:Int)<(az.length:Int):=by omega
 have HAT:Hid ((Ah az)[k*6+5]?=some (.bool (Ak az k).used)):=(De az k hk).2.2.2.2.2;have HST:Hid ((Ah az).set (k*6+5) (.bool true)=Ah (az.set k (Lz (Ak az k)))):=On az true k hk
 have HU:Hid (useOk az (k:Int) = !(Ak az k).used):=by rw [Hid,useOk,decide_eq_true (show 0≤(k:Int)∧(k:Int)<az.length by omega),Bool.true_and,Int.toNat_natCast]
 have HUL:Hid (useOk az (k:Int)=true→M7 az (k:Int)=az.set k (Lz (Ak az k))):=fun h=>by rw [M7,if_pos h,Int.toNat_natCast]
 obtain ⟨us,hus⟩:∃ us,(Ak az k).used=us:=⟨_,rfl⟩;rw [hus] at HAT HU;clear hus
 go_enter func212,ntmps212
 go_wp2_with fail
 refine (Dj _ _ _ _ hz hn hd).mono ?_;rintro e w1 ⟨rfl,o1,b1⟩
 have y5:w1.cell? ⟨w.heap.size,k*6+5,none⟩=some (.bool us):=by rw [o1.cellAt (k*6+5) (by omega)];exact HAT.o
 have z5:w1.frozen? ⟨w.heap.size,k*6+5,none⟩=false:=o1.frozenAt _;have HO:Hid _:=And.intro o1 b1;clear o1 b1 hz
 cases us
 ·have HQ:Hid (useOk az (k:Int)=true):=HU.o
  have HR:Hid ((w1.setCell ⟨w.heap.size,k*6+5,none⟩ (.bool true)).ownsRow w.heap.size 107 6 (.slice (some ⟨w.heap.size,0,none⟩) az.length az.length) az.length (Ah (az.set k (Lz (Ak az k))))):=by
   have R:=(HO.o.1.stored (k*6+5) (.bool true)).1;rw [HST.o] at R;exact R
  go_wp2;go_ret2;rw [HQ.o,HUL.o HQ.o]
  exact ⟨some ⟨w.heap.size,0,none⟩,az.length,by rw [List.length_set];rfl,by rw [List.length_set];exact HR.o,HO.o.2.setCell nL _⟩
 ·have HQ:Hid (useOk az (k:Int)=false):=HU.o
  go_wp2;go_ret2;rw [HQ.o,Np HQ.o];exact ⟨_,_,rfl,HO.o.1,HO.o.2⟩
theorem kZ (ao:Option Addr) (cap:Nat) (az:List Au) (i:Int) (w:World) (hz:Ar w ao az) (hn:az.length≤4194304) :
  Calls prog 183 #[.slice ao az.length cap,.int .i64 i] w (Pi w (M7 az i) (useOk az i)):=by
 have bA:Below w.heap.size w (w.alloc (.cells #[] 107)):=bR.alloc nL _;have HZ1:Hid (Ar (w.alloc (.cells #[] 107)) ao az):=hz.below bA;have HO1:=kV w
 have HIN:Hid (∀ u,Calls prog 134 #[.int .i64 i,.int .i64 0,.int .i64 ((az.length:Int) - 1)] u fun e w'=>e=.returned (.bool (decide (0≤i∧i<az.length)))∧w'=u):=fun u=>by
  have:=Dl i 0 ((az.length:Int) - 1) u
  rwa [show Gk i 0 ((az.length:Int) - 1)=decide (0≤i∧i<az.length) by unfold Gk;exact decide_eq_decide.2 (by omega)] at this
 by_cases hin:0≤i∧i<az.length
 ·obtain ⟨k,rfl⟩:=Int.eq_ofNat_of_zero_le hin.1
  have hk:k<az.length:=by omega
  have hlt:(k:Int)<(az.length:Int):=by omega
  rw [decide_eq_true hin] at HIN;have HAT:Hid ((Ah az)[k*6+5]?=some (.bool (Ak az k).used)):=(De az k hk).2.2.2.2.2;have HST:Hid ((Ah az).set (k*6+5) (.bool true)=Ah (az.set k (Lz (Ak az k)))):=On az true k hk
  have HU:Hid (useOk az (k:Int) = !(Ak az k).used):=by rw [Hid,useOk,decide_eq_true (show 0≤(k:Int)∧(k:Int)<az.length by omega),Bool.true_and,Int.toNat_natCast]
  have HUL:Hid (useOk az (k:Int)=true→M7 az (k:Int)=az.set k (Lz (Ak az k))):=fun h=>by rw [M7,if_pos h,Int.toNat_natCast]
  rcases hz with rfl | ⟨b,off,rfl,hb,hcell⟩
  ·simp at hk
  have HC5:Hid (w.cell? ⟨b,off+k*6+5,none⟩=some (.bool (Ak az k).used)):=(hcell k hk).2.2.2.2.2;obtain ⟨us,hus⟩:∃ us,(Ak az k).used=us:=⟨_,rfl⟩;rw [hus] at HAT HU HC5;clear hus hcell hin
  go_enter func183,ntmps183
  go_wp2_with (at_builtin;refine Bu _ rfl (.tmp 7) (.tmp 8) rfl w.heap.size (.slice (some ⟨w.heap.size,0,none⟩) 0 0) 0 [] rfl HO1 _ cap az rfl HZ1.o (by omega) (by simp) ?_;intro v2 w2 o2 g2 n2)
  obtain ⟨g,cc,rfl⟩:=Oe o2 (n2 (by simp))
  simp only [Nat.zero_add,List.nil_append] at o2 ⊢
  have b2:BW w w2:=bA.grown g2 (by simp) (fun j hj=>by cases hj;exact nL)
  have y5:w2.cell? ⟨g,k*6+5,none⟩=some (.bool us):=by rw [o2.cellAt (k*6+5) (by omega)];exact HAT.o
  have z5:w2.frozen? ⟨g,k*6+5,none⟩=false:=o2.frozenAt _;have x5:w2.cell? ⟨b,off+k*6+5,none⟩=some (.bool us):=(b2.cell (p:=⟨b,off+k*6+5,none⟩) hb).trans HC5.o;have HB:Hid (BW w w2):=b2;have HO:Hid (w2.ownsRow w.heap.size 107 6 (.slice (some ⟨g,0,none⟩) az.length cc) az.length (Ah az)):=o2;have hgw:=(o2.lt g rfl).1;clear o2 b2 g2 n2 HO1 bA;go_wp2_with fail
  refine (HIN.o _).mono ?_;rintro e w3 ⟨rfl,hw3⟩;subst hw3
  cases us
  ·have HQ:Hid (useOk az (k:Int)=true):=HU.o
   have HR:Hid ((w3.setCell ⟨g,k*6+5,none⟩ (.bool true)).ownsRow w.heap.size 107 6 (.slice (some ⟨g,0,none⟩) az.length cc) az.length (Ah (az.set k (Lz (Ak az k))))):=by
    have R:=(HO.o.stored (k*6+5) (.bool true)).1;rw [HST.o] at R;exact R
   go_wp2;go_ret2;rw [HQ.o,HUL.o HQ.o]
   exact ⟨some ⟨g,0,none⟩,cc,by rw [List.length_set];rfl,by rw [List.length_set];exact HR.o,HB.o.setCell hgw _⟩
  ·have HQ:Hid (useOk az (k:Int)=false):=HU.o
   go_wp2;go_ret2;rw [HQ.o,Np HQ.o];exact ⟨_,_,rfl,HO.o,HB.o⟩
 ·have HQ:Hid (useOk az i=false):=by rw [Hid,useOk,decide_eq_false hin];rfl
  rw [decide_eq_false hin] at HIN;clear hin
  go_enter func183,ntmps183
  go_wp2_with (at_builtin;refine Bu _ rfl (.tmp 7) (.tmp 8) rfl w.heap.size (.slice (some ⟨w.heap.size,0,none⟩) 0 0) 0 [] rfl HO1 ao cap az rfl HZ1.o (by omega) (by simp) ?_;intro v2 w2 o2 g2 n2)
  obtain ⟨g,cc,rfl⟩:=Oe o2 (n2 (by simp))
  simp only [Nat.zero_add,List.nil_append] at o2 ⊢
  have b2:BW w w2:=bA.grown g2 (by simp) (fun j hj=>by cases hj;exact nL)
  have HB:Hid (BW w w2):=b2;have HO:Hid (w2.ownsRow w.heap.size 107 6 (.slice (some ⟨g,0,none⟩) az.length cc) az.length (Ah az)):=o2;clear o2 b2 g2 n2 HO1 bA hz;go_wp2_with fail
  refine (HIN.o _).mono ?_;rintro e w3 ⟨rfl,hw3⟩;subst hw3;go_wp2;go_ret2;rw [HQ.o,Np HQ.o];exact ⟨_,_,rfl,HO.o,HB.o⟩
theorem Ua (w:World) (base:Nat) (ty:TypeId) (v:Value) (n:Nat) (xs:List Value) (hown:w.ownsRow base 294 2 v n xs) (gs c:Nat) (x:Cd) (h0:w.cell? ⟨gs,0,none⟩=some (.int .i64 x.1)) (h1:w.cell? ⟨gs,1,none⟩=some (.int .i64 x.2))
  (hn:n+1≤5000000) (hbase:base≤w.heap.size) :
  ∃ v' w',(Builtin.append_ #[291,291] ty #[v,.slice (some ⟨gs,0,none⟩) 1 c]).run prog w=.ok v' w'∧w'.ownsRow base 294 2 v' (n+1) (xs++Nj x)∧w.grownBy w' v.ownBlock:=by
 obtain ⟨i0,hi,hz0,hz1,hz2⟩:=info_parts iP
 have hnews:∀ j u,(Nj x)[j]?=some u→w.cell? ((⟨gs,0,none⟩:Addr).add j)=some u:=by
  intro j u hj
  have hlt:j<2:=by have:=(List.getElem?_eq_some_iff.1 hj).1;simpa [Nj] using this
  rcases (show j=0∨j=1 by omega) with rfl | rfl
  ·simp [Nj] at hj;subst hj;simpa [Addr.add] using h0
  ·simp [Nj] at hj;subst hj;simpa [Addr.add] using h1
 obtain ⟨v',w',h1,h2,h3,_⟩:=run_append_own_at (P:=prog) w base 291 ty 294 i0 _ 2 16 underlying291 hi hz0 hz1 hz2 rfl (by decide) v n xs hown ⟨gs,0,none⟩ 1 c (Nj x) rfl hnews (Yu [x]) (by unfold maxLen;omega) (by omega) hbase
 exact ⟨v',w',h1,h2,h3⟩
theorem Rs {ops:Array Oper} {o:Oper} {a:Act} {w:World} {K:Act→World→Prop} {Q:Exit→Act→World→Prop} {E:Prop} (hgd:o.guard=none) (s x:Operand)
  (ho:o.op=.call { callee:=.builtin .append,args:=#[s,x],argTypes:=#[291,291] }) (base:Nat) (v:Value) (n:Nat) (xs:List Value) (hs:a.eval s=v) (hown:w.ownsRow base 294 2 v n xs)
  (gs c:Nat) (y:Cd) (hx:a.eval x=.slice (some ⟨gs,0,none⟩) 1 c) (h0:w.cell? ⟨gs,0,none⟩=some (.int .i64 y.1)) (h1:w.cell? ⟨gs,1,none⟩=some (.int .i64 y.2)) (hn:n+1≤5000000) (hbase:base≤w.heap.size)
  (h:∀ v' w',w'.ownsRow base 294 2 v' (n+1) (xs++Nj y)→w.grownBy w' v.ownBlock→K (a.put o.dst v') w') :
  if Region.wanted o (yielded ops a.tmps)=true then Oper.wp prog o a w K Q else E:=by
 have hw:Region.wanted o (yielded ops a.tmps)=true:=by simp [Region.wanted,hgd]
 rw [if_pos hw];obtain ⟨v',w',hr,h1,h2⟩:=Ua w base o.type v n xs hown gs c y h0 h1 hn hbase;unfold Oper.wp execOp
 simp only [ho,resolve,invoke,builtin,Sem.run_bind,Sem.run_pure,Result.andThen_ok,List.map_toArray,List.map_cons,List.map_nil,hs,hx,hr]
 exact h v' w' h1 h2
theorem qJ {w:World} {base n:Nat} {v:Value} {xs:List Value} (h:w.ownsRow base 294 2 v (n+1) xs):∃ g cap,v=.slice (some ⟨g,0,none⟩) (n+1) cap:=by
 rcases h.2 with ⟨_,h0⟩ | ⟨g,c,cur,rfl,_⟩
 ·omega
 ·exact ⟨g,c,rfl⟩
theorem iH {w:World} {base n size:Nat} {t:TypeId} {v:Value} {xs:List Value} (h:w.ownsRow base t size v n xs) (p:Addr) (u:Value) (hp:∀ g,v.ownBlock=some g→g≠p.block):(w.setCell p u).ownsRow base t size v n xs:=by
 obtain ⟨h1,h2⟩:=h;refine ⟨h1,?_⟩
 rcases h2 with h | ⟨g,cap,cur,hv,hg,hh,a1,a2,a3,a4⟩
 ·exact .inl h
 ·exact .inr ⟨g,cap,cur,hv,hg,(Below.heap_setCell w p u g (hp g (by rw [hv];rfl))).trans hh,a1,a2,a3,a4⟩
theorem taC (s p:Int) (W:World):(Instr.typeAssert (.iface 294 (.agg #[.int .i64 s,.int .i64 p])) 20 294 false).run prog W=.ok (.agg #[.int .i64 s,.int .i64 p]) W:=by kernel_rfl
theorem tH (s p:Int) (W:World):(Instr.typeAssert (.iface 294 (.agg #[.int .i64 s,.int .i64 p])) 20 294 true).run prog W=.ok (.tuple #[.agg #[.int .i64 s,.int .i64 p],.bool true]) W:=by kernel_rfl
theorem eV {w u:World} {H:List Cd} {ao:Option Addr} {cap:Nat} (h:HP none w H ao cap u) (s p:Int) (hn:H.length≤1000) :
  Calls prog 403 #[.pointer (some ⟨w.heap.size,0,none⟩),.iface 294 (.agg #[.int .i64 s,.int .i64 p])] u fun e u'=>e=.returned (.tuple #[])∧∃ g c,HP none w (H++[(s,p)]) (some ⟨g,0,none⟩) c u':=by
 have HH:Hid (HP none w H ao cap u):=h;have k0:=h.box;have f0:=h.fz;have hlt:=h.lt;have ta:=taC s p;clear h
 go_enter func403,ntmps403
 have k1:∀ o,(u.alloc o).cell? ⟨w.heap.size,0,none⟩=some (.slice ao H.length cap):=fun o=>by rw [World.cell?_alloc_lt _ _ _ hlt];exact k0
 go_region_law ((refine Rs rfl (.tmp 7) (.tmp 10) rfl (w.heap.size+1) (.slice ao H.length cap) H.length (Fj H) (by rfl) (pT HH.o.own (by go_grown)) u.heap.size 1 (s,p) (by rfl) (by simp [go_sem]) (by simp [go_sem]) (by omega) (by simp;omega) ?_;intro v5 w5 o5 g5;obtain ⟨h5,k5,rfl⟩:=qJ o5;have c5:w5.cell? ⟨w.heap.size,0,none⟩=some (.slice ao H.length cap):=(g5.cell_far ⟨w.heap.size,0,none⟩ (by simp;omega) HH.o.apart).trans (by simp [go_sem,World.cell?_alloc_some,k0]);have z5:w5.frozen? ⟨w.heap.size,0,none⟩=false:=(g5.frozen_far ⟨w.heap.size,0,none⟩ (by simp;omega) HH.o.apart).trans (by have:=((Below.refl u.heap.size u).alloc nL (.cells #[.int .i64 s,.int .i64 p] 294)).frozen (p:=⟨w.heap.size,0,none⟩) hlt;simpa [f0] using this)))
 all_goals
  have HO:Hid (w5.ownsRow (w.heap.size+1) 294 2 (.slice (some ⟨h5,0,none⟩) (H++[(s,p)]).length k5) (H++[(s,p)]).length (Fj (H++[(s,p)]))):=by rw [Hid,List.length_append,Sa];exact o5
  have HB:Hid (BW w w5):=Below.grown (HP.below HH.o (by go_grown)).bel g5 (by simp;omega) (fun j hj=>by have:=(HH.o.own.lt j hj).1;omega)
  have hh5:=(o5.lt h5 rfl).1;clear o5 g5;go_wp2;go_end0
  refine ⟨rfl,h5,k5,HB.o.setCell nL _,?_,by simp [z5],?_,fun _ _ e=>by cases e⟩
  ·rw [List.length_append];exact World.cell?_setCell_same w5 ⟨w.heap.size,0,none⟩ _ c5
  ·exact iH HO.o ⟨w.heap.size,0,none⟩ _ (fun x hx=>by have e:h5=x:=Option.some.inj hx;show x≠w.heap.size;omega)
theorem qX:prog.underlying 291=some (.slice (prog.elem 291)):=by
 have e:prog.elem 291=294:=by simp [Program.elem,underlying291]
 rw [e];exact underlying291
theorem sJ:prog.elem 291=294:=by simp [Program.elem,underlying291]
theorem rX (w:World):(sizeOf 294).run prog w=.ok 2 w:=by
 obtain ⟨i0,hi,hz0,hz1,hz2⟩:=info_parts iP
 simp [sizeOf,typeInfo,hi,hz1]
theorem qE {g n c s:Nat} (hs:s≤c) (W:World):(Instr.slice 291 (.slice (some ⟨g,0,none⟩) n c) none (some (.int .i64 s)) none).run prog W=.ok (.slice (some ⟨g,0,none⟩) s c) W:=by
 rw [run_slice_h W _ _ _ _ qX .i64 _ (by omega) (by omega),sJ,rX]
 simp [Result.andThen,sliced,Addr.add]
theorem HP.cap {q:Option (Nat×Obj)} {w u:World} {H:List Cd} {g cap:Nat} (h:HP q w H (some ⟨g,0,none⟩) cap u):H.length≤cap:=by
 rcases h.own.2 with ⟨hv,_⟩ | ⟨g',c,cur,hv,_,_,hc,_⟩
 ·cases hv
 ·obtain ⟨rfl,rfl⟩:g=g'∧cap=c:=by simpa using hv
  exact hc
theorem kA {q:Option (Nat×Obj)} {w u:World} {H:List Cd} {g cap:Nat} (h:HP q w H (some ⟨g,0,none⟩) cap u) (m:Nat) (hm:H.length=m+1) (hn:H.length≤1000) :
  Calls prog 402 #[.pointer (some ⟨w.heap.size,0,none⟩)] u fun e u'=>e=.returned (.iface 294 (.agg #[.int .i64 (Bc H m).1,.int .i64 (Bc H m).2]))∧BW w u'∧∀ x o,q=some (x,o)→u'.heap[x]?=some o:=by
 have HK:Hid (∀ x o,q=some (x,o)→u.heap[x]?=some o∧w.heap.size<x):=fun x o e=>⟨(h.kp x o e).1,(h.kp x o e).2.1⟩
 have HB:Hid (BW w u):=h.bel;have k0:=h.box;have f0:=h.fz;have hlt:=h.lt
 obtain ⟨k1,k2⟩:=h.at (k:=m) (by omega)
 have hcap:=h.cap
 have hgu:=h.row (by omega)
 obtain ⟨g',e,hg1,hg2⟩:=hgu
 obtain rfl:g=g':=by simpa using e
 obtain ⟨⟨a,b⟩,hab⟩:∃ x,Bc H m=x:=⟨_,rfl⟩;rw [hab] at k1 k2 ⊢
 simp only at k1 k2 ⊢
 rw [hm] at k0 hcap hn
 have hsl:=qE (g:=g) (n:=m+1) (c:=cap) (s:=m) (by omega)
 clear hab h e
 go_enter func402,ntmps402
 go_upto_region 3 with fail
 obtain ⟨W,hW⟩:∃ W,u.alloc (.cells #[.int .i64 a,.int .i64 b] 294)=W:=⟨_,rfl⟩
 have j0:W.cell? ⟨u.heap.size,0,none⟩=some (.int .i64 a):=by rw [← hW];simp
 have j1:W.cell? ⟨u.heap.size,1,none⟩=some (.int .i64 b):=by rw [← hW];simp
 have j2:W.cell? ⟨w.heap.size,0,none⟩=some (.slice (some ⟨g,0,none⟩) (m+1) cap):=by rw [← hW,World.cell?_alloc_lt _ _ _ hlt];exact k0
 have j3:W.frozen? ⟨w.heap.size,0,none⟩=false:=by rw [← hW];have:=((Below.refl u.heap.size u).alloc nL (.cells #[.int .i64 a,.int .i64 b] 294)).frozen (p:=⟨w.heap.size,0,none⟩) hlt;rw [this];exact f0
 have HKW:Hid (∀ x o,q=some (x,o)→W.heap[x]?=some o∧w.heap.size<x):=fun x o e=>by
  obtain ⟨h1,h2⟩:=HK.o x o e;refine ⟨?_,h2⟩;rw [← hW];exact (((Below.refl u.heap.size u).alloc nL _).block x (Array.getElem?_eq_some_iff.1 h1).1).trans h1
 have HBW:Hid (BW w W):=by rw [Hid,← hW];exact HB.o.alloc HB.o.size _
 rw [hW]
 have hne:¬ w.heap.size=u.heap.size:=by omega
 have hne2:¬ u.heap.size=w.heap.size:=by omega
 clear hW k0 f0 k1 k2;go_wp2;go_ret
 refine ⟨rfl,HBW.o.setCell nL _,fun x o e=>?_⟩
 obtain ⟨h1,h2⟩:=HKW.o x o e
 rw [Below.heap_setCell _ _ _ _ (fun e=>by have e:x=w.heap.size:=e;omega)]
 exact h1
def iC (w:World):Value:=.iface 322 (.pointer (some ⟨w.heap.size,0,none⟩))
theorem Mv (ao:Option Addr) (n cap:Nat) (u:World):Calls prog 282 #[.slice ao n cap] u fun e u'=>e=.returned (.int .i64 n)∧u'=u:=by
 go_enter func282,ntmps282
 go_wp2;go_ret;exact ⟨rfl,rfl⟩
theorem fU {H:List Cd} {j:Nat} (h:Qr H j) (h0:0<j) (hj:j<H.length) (hl:Li (Bc H j) (Bc H (Lp j))=true):Qr (Cu H (Lp j) j) (Lp j):=by
 unfold Qr;have hp:=J0 h0
 rw [gP (show Lp j<H.length by omega) hj,Hc]
 exact dR h h0 hj hl
theorem qI {w u:World} {H:List Cd} {g cap:Nat} (h:HP none w H (some ⟨g,0,none⟩) cap u) (j:Nat) (hj:j<H.length) (hn:H.length≤1000) (hnear:Qr H j) :
  Calls prog 310 #[iC w,.int .i64 j] u fun e u'=>e=.returned (.tuple #[])∧∃ G,HP none w G (some ⟨g,0,none⟩) cap u'∧F1 G∧Fv H G:=by
 have HH:Hid (HP none w H (some ⟨g,0,none⟩) cap u):=h;have HN:Hid (Qr H j):=hnear;clear h hnear;unfold iC
 go_enter func310,ntmps310
 go_wp2
 go_loopw [1,4] (fun v _ wr=>∃ (k:Nat) (G:List Cd),k≤j∧v=.int .i64 k∧HP none w G (some ⟨g,0,none⟩) cap wr∧Qr G k∧Fv H G) (fun v _ _=>(intOf v).toNat)
 case atStart=>exact ⟨j,H,nL,rfl,HH.o,HN.o,Fv.refl H⟩
 case round =>
  obtain ⟨k,G,hk,rfl,hp,hne,hs⟩:=hrel;have HGL:Hid (G.length=H.length):=hs.1
  have hkG:k<G.length:=by have:=HGL.o;omega
  have HP0:Hid (HP none w G (some ⟨g,0,none⟩) cap wr):=hp;have HNE:Hid (Qr G k):=hne;have HS:Hid (Fv H G):=hs;have hbox:=hp.box;have hml:=Fk hbox;have hms:=Iv hbox;clear HH HN hp hne hs
  by_cases hk0:k=0
  ·subst hk0
   have hq:(-1:Int).tdiv 2=0:=by decide
   go_wp2;go_end0;exact ⟨rfl,G,HP0.o,Tt HNE.o (.inl rfl),HS.o⟩
  ·have hq:((k:Int) - 1).tdiv 2=((Lp k:Nat):Int):=by
     unfold Lp
     rw [Int.tdiv_eq_ediv_of_nonneg (by omega)]
     omega
   have hpk:=J0 (show 0<k by omega)
   obtain ⟨p,hpe⟩:∃ p,Lp k=p:=⟨_,rfl⟩
   have HSW:Hid (Li (Bc G k) (Bc G (Lp k))=true→Qr (Cu G (Lp k) k) (Lp k)):=fun hl=>fU HNE.o (by omega) hkG hl
   have HDN:Hid (Li (Bc G k) (Bc G (Lp k))=false→F1 G):=fun hl=>Tt HNE.o (.inr hl)
   rw [hpe] at hq hpk HSW HDN
   have hneq:((p:Int) == (k:Int))=false:=by simp;omega
   have hkk:(0:Int)<(k:Int):=by omega
   clear hpe
   cases hl:Li (Bc G k) (Bc G p)
   ·have HL:Hid (∀ v,HP none w G (some ⟨g,0,none⟩) cap v→Calls prog 400 #[.slice (some ⟨g,0,none⟩) G.length cap,.int .i64 k,.int .i64 p] v fun e u'=>e=.returned (.bool false)∧BW v u'):=fun v hv=>by rw [← hl];exact Dk hv k p hkG (by omega)
    have HIS:Hid (F1 G):=HDN.o hl;go_wp2_with fail
    refine (HL.o _ HP0.o).mono ?_;rintro e u2 ⟨rfl,b2⟩;have HP2:Hid (HP none w G (some ⟨g,0,none⟩) cap u2):=HP0.o.below b2;clear b2;go_wp2;go_end0;exact ⟨rfl,G,HP2.o,HIS.o,HS.o⟩
   ·have HL:Hid (∀ v,HP none w G (some ⟨g,0,none⟩) cap v→Calls prog 400 #[.slice (some ⟨g,0,none⟩) G.length cap,.int .i64 k,.int .i64 p] v fun e u'=>e=.returned (.bool true)∧BW v u'):=fun v hv=>by rw [← hl];exact Dk hv k p hkG (by omega)
    have HSG:Hid (Qr (Cu G p k) p):=HSW.o hl
    have HSS:Hid (Fv H (Cu G p k)):=HS.o.trans (gQ (by omega) hkG)
    go_wp2_with fail
    refine (HL.o _ HP0.o).mono ?_;rintro e u2 ⟨rfl,b2⟩;have hp2:=HP0.o.below b2;have HP2:Hid (HP none w G (some ⟨g,0,none⟩) cap u2):=hp2;have hms2:=Iv hp2.box;clear b2 hms hml hp2;go_wp2_with fail
    refine (Ke HP2.o p k hpk hkG).mono ?_;rintro e u3 ⟨rfl,hp3⟩;have HP3:Hid (HP none w (Cu G p k) (some ⟨g,0,none⟩) cap u3):=hp3;clear hp3;go_wp2
    go_roundw
    case rel=>exact ⟨p,Cu G p k,by omega,rfl,HP3.o,HSG.o,HSS.o⟩
    case measure=>simp [intOf];omega
theorem Nr (a b c x y z:Int) (w:World) :
  Calls prog 94 #[.agg #[.int .i64 a,.int .i64 b,.int .i64 c],.agg #[.int .i64 x,.int .i64 y,.int .i64 z]] w fun e w'=>e=.returned (.int .i64 (Qh (a,b,c) (x,y,z)))∧∃ q os,w'=Go.Sort.grow (w.drewN q) os:=by
 obtain ⟨p,hp⟩:∃ p,Qm a x=p:=⟨_,rfl⟩;obtain ⟨r,hr⟩:∃ r,Qm b y=r:=⟨_,rfl⟩
 have HE:Hid (Qh (a,b,c) (x,y,z)=oL p r):=by rw [Hid,← hp,← hr];rfl
 have HP:Hid (∀ w,Calls prog 151 #[.int .i64 a,.int .i64 x] w fun e w'=>e=.returned (.int .i64 p)∧w'=w):=fun w=>by rw [← hp];exact O8 _ _ _
 have HR:Hid (∀ w,Calls prog 151 #[.int .i64 b,.int .i64 y] w fun e w'=>e=.returned (.int .i64 r)∧w'=w):=fun w=>by rw [← hr];exact O8 _ _ _
 clear hp hr;obtain ⟨W,hW⟩:∃ W,W=(w.alloc (.cells #[.int .i64 a,.int .i64 b,.int .i64 c] 113)).alloc (.cells #[.int .i64 x,.int .i64 y,.int .i64 z] 113):=⟨_,rfl⟩
 have k0:W.cell? ⟨w.heap.size,0,none⟩=some (.int .i64 a):=by rw [hW];simp [go_sem]
 have k1:W.cell? ⟨w.heap.size,1,none⟩=some (.int .i64 b):=by rw [hW];simp [go_sem]
 have k2:W.cell? ⟨w.heap.size+1,0,none⟩=some (.int .i64 x):=by rw [hW];simp [go_sem]
 have k3:W.cell? ⟨w.heap.size+1,1,none⟩=some (.int .i64 y):=by rw [hW];simp [go_sem]
 have HWE:Hid _:=hW
 go_enter func94,ntmps94
 go_wp2;rw [← hW];clear hW
 go_region_held3 (fun w'=>w'.cell? ⟨w.heap.size,0,none⟩=some (.int .i64 a)∧w'.cell? ⟨w.heap.size,1,none⟩=some (.int .i64 b)∧w'.cell? ⟨w.heap.size+1,0,none⟩=some (.int .i64 x)∧w'.cell? ⟨w.heap.size+1,1,none⟩=some (.int .i64 y)) (first | exact ⟨k0,k1,k2,k3⟩ | (simp [go_sem,World.cell?_alloc_some,k0,k1,k2,k3];done)) ((first
  | (go_at_call_of 151 (Value.int .i64 x);refine (HP.o _).mono ?_;rintro e w' ⟨rfl,rfl⟩)
  | (go_at_call_of 151 (Value.int .i64 y);refine (HR.o _).mono ?_;rintro e w' ⟨rfl,rfl⟩)
  | (go_at_call 150;refine (rE _ p r _ ?_ ?_).mono ?_;simp [go_sem];simp [go_sem];rintro e w' ⟨rfl,rfl⟩)))
 all_goals
  go_wp2;go_ret;refine ⟨Af HE.o.symm,1,#[.cells #[.int .i64 a,.int .i64 b,.int .i64 c] 113,.cells #[.int .i64 x,.int .i64 y,.int .i64 z] 113,.cells #[.int .i64 p,.int .i64 r] 3],?_⟩;rw [HWE.o]
  rfl
end Go.Proofs.YtomiclakhjncbaaGreatDoor
namespace Go.Proofs.YtomiclakhjncbaaGreatDoor
open Go.RowKit Go.Sort Go.Shelf Go.Lib Go.Proofs.Tryz
set_option maxRecDepth 100000
set_option maxHeartbeats 12800000
theorem Ot (ls:List Ln):flatK Lm 3 ls.toArray=(Ag ls).toArray:=by
 apply ext_get!
 ·simp [Cn]
 ·intro t ht
  simp only [size_flatK,List.size_toArray] at ht
  rw [get_flatK _ _ _ _ (by simpa using ht)]
  have hq:t / 3<ls.length:=by omega
  have hx:ls.toArray[t / 3]! = Cg ls (t / 3):=by simp [Cg,List.getD_eq_getElem?_getD,hq]
  have h:=Hj ls (t / 3) hq;rw [hx]
  have hg:(Ag ls).toArray[t]! = ((Ag ls)[t]?).getD default:=by simp
  rw [hg]
  rcases (show t % 3=0∨t % 3=1∨t % 3=2 by omega) with e | e | e
  ·rw [e,show t=t / 3*3 by omega,h.1,show (t / 3*3) / 3=t / 3 by omega];rfl
  ·rw [e,show t=t / 3*3+1 by omega,h.2.1,show (t / 3*3+1) / 3=t / 3 by omega];rfl
  ·rw [e,show t=t / 3*3+2 by omega,h.2.2,show (t / 3*3+2) / 3=t / 3 by omega];rfl
theorem gT {w:World} {base n cap g:Nat} {t:TypeId} {ls:List Ln} (h:w.ownsRow base t 3 (.slice (some ⟨g,0,none⟩) n cap) n (Ag ls)):HoldsK Lm 3 w g 0 ls.toArray:=by
 have hn:n=ls.length:=by have:=h.1;rw [Cn] at this;omega
 intro j hj;rw [Ot] at hj ⊢
 simp only [List.size_toArray,Cn] at hj
 refine ⟨?_,h.frozenAt _⟩
 rw [Nat.zero_add,h.cellAt j (by omega)]
 have:j<(Ag ls).length:=by rw [Cn];omega
 simp [getElem!_pos,this]
theorem Zf {w:World} {base n cap g m:Nat} {t:TypeId} {ls ds:List Ln} {os:Array Obj} (h:w.ownsRow base t 3 (.slice (some ⟨g,0,none⟩) n cap) n (Ag ls)) (hl:ds.length=ls.length) :
  (sortWorldK Lm 3 w g 0 m ds.toArray os).ownsRow base t 3 (.slice (some ⟨g,0,none⟩) n cap) n (Ag ds):=by
 have hn:n=ls.length:=by have:=h.1;rw [Cn] at this;omega
 have hlt:g<w.heap.size:=(h.lt g rfl).2
 rcases h.2 with ⟨e0,_⟩ | ⟨g',cap',cur,e0,hb,hg,hnc,hm,hs,ht⟩
 ·cases e0
 ·injection e0 with e1 _ e3
  injection e1 with e1
  injection e1 with e1
  subst e1;subst e3
  refine ⟨by rw [Cn];omega,.inr ⟨g,cap,putCells id 0 (Ag ds).toArray cur,rfl,hb,?_,hnc,hm,by simpa [putCells] using hs,?_⟩⟩
  ·unfold sortWorldK putRowK
   rw [Ot]
   have e1:((w.heap.modify g (onCells (putCells id 0 (Ag ds).toArray)))++os)[g]?=some (.cells (putCells id 0 (Ag ds).toArray cur) t):=by
    rw [Array.getElem?_append_left (by simpa using hlt),Array.getElem?_modify,if_pos rfl,hg];rfl
   exact e1
  ·apply List.ext_getElem?
   intro j;rw [List.getElem?_take,Array.getElem?_toList]
   by_cases hj:j<n*3
   ·have hjc:j<cur.size:=by rw [hs];exact Nat.lt_of_lt_of_le hj (Nat.mul_le_mul_right 3 hnc)
    have hd:j<(Ag ds).length:=by rw [Cn];omega
    simp only [if_pos hj,putCells,Array.getElem?_mapIdx,Array.getElem?_eq_getElem hjc,Option.map_some]
    rw [if_pos ⟨Nat.zero_le _,by simpa using hd⟩,List.getElem?_eq_getElem hd]
    simp [getElem!_pos,hd]
   ·rw [if_neg hj,List.getElem?_eq_none (by rw [Cn];omega)]
theorem Tz {B:Nat} {w0 w:World} {g m:Nat} {d:Array Ln} {os:Array Obj} (h:RowKit.Below B w0 w) (hB:B≤w0.heap.size) (hg:B≤g):RowKit.Below B w0 (sortWorldK Lm 3 w g 0 m d os):=by
 refine ⟨h.os,h.tape,h.output,?_,fun k hk=>?_⟩
 ·have:=h.size
  simp [sortWorldK,putRowK,grow,putRow,mapBlock,Sort.ahead];omega
 ·rw [← h.block k hk]
  have hs:=h.size
  have e1:((w.heap.modify g (onCells (putCells id 0 (flatK Lm 3 d))))++os)[k]?=w.heap[k]?:=by
   rw [Array.getElem?_append_left (by simp;omega),Array.getElem?_modify,if_neg (by omega)]
  exact e1
theorem Nl (x y:Ln):ltOf Qh x y=E3 x y:=by
 unfold ltOf
 rw [Bool.eq_iff_iff,decide_eq_true_eq];exact cY x y
theorem tN:SWO (ltOf Qh) where
 irrefl x:=by rw [Nl];simp [E3]
 trans x y z h1 h2:=by rw [Nl] at *;exact Jj h1 h2
 ntrans x y z h1 h2:=by rw [Nl] at *;simp [E3] at *;omega
theorem nO (blk off size:Nat) (w:World):CmpLays prog 94 #[] Lm 3 Qh blk off size w :=
 fun _ _ _ _ x y=>Nr x.1 x.2.1 x.2.2 y.1 y.2.1 y.2.2 _
theorem oJ {ls:List Ln} {d:Array Ln} (h:PermIn 0 ls.toArray.size ls.toArray d):d.toList.Perm ls∧d.size=ls.length:=by
 obtain ⟨h1,_,h3⟩:=h
 have hs:d.size=ls.length:=by simpa using h1
 refine ⟨?_,hs⟩
 have e1:d.extract 0 ls.toArray.size=d:=by simp [← hs]
 have e2:ls.toArray.extract 0 ls.toArray.size=ls.toArray:=by simp
 rw [e1,e2] at h3
 simpa using h3
theorem fY {n:Nat} {d:Array Ln} (h:SortedIn (ltOf Qh) 0 n d) (hn:d.size=n):d.toList.Pairwise (fun x y=>E3 y x=false):=by
 rw [List.pairwise_iff_getElem];intro i j hi hj hij
 simp only [Array.length_toList] at hi hj
 have:=h i j (Nat.zero_le _) hij (by omega)
 rw [Nl,getElem!_pos d j hj,getElem!_pos d i hi] at this
 simpa using this
theorem iN (ao:Option Addr) (n cap base:Nat) (ls:List Ln) (w:World) (ho:w.ownsRow base 113 3 (.slice ao n cap) n (Ag ls)) (hn:ls.length≤1000) (hb:base≤w.heap.size) :
  Calls prog 329 #[.slice ao n cap,.func (.func 94) #[] #[]] w fun e w'=>e=.returned (.tuple #[])∧∃ ds:List Ln,ds.Perm ls∧ds.Pairwise (fun x y=>E3 y x=false)∧w'.ownsRow base 113 3 (.slice ao n cap) n (Ag ds)∧RowKit.Below base w w':=by
 have hnl:n=ls.length:=by have:=ho.1;rw [Cn] at this;omega
 rcases ho.2 with ⟨e0,h0⟩ | ⟨g,cap',cur,e0,hbg,_⟩
 ·have hls:ls=[]:=List.eq_nil_of_length_eq_zero (by omega)
  subst h0;have h:=AnyF.slices_SortFunc_none Tryz.sortLn ao cap (.func (.func 94) #[] #[]) w
  change Calls prog 329 _ _ _ at h
  refine h.mono ?_;rintro e w' ⟨rfl,rfl⟩
  refine ⟨rfl,[],by rw [hls],List.Pairwise.nil,?_,bR⟩
  rw [hls] at ho;exact ho
 ·injection e0 with e1 _ e3
  subst e1;have hlt:=(ho.lt g rfl).2
  have eg:∀ args w,(callFunc 94 args).run prog w=.ok (.enter 94 args) w:=enters_of func94 (by kernel_rfl) rfl
  have h:=AnyQ.slices_SortFunc Tryz.sortLn 3 isAgg113 sizeOf113 Lm (fun _=>rfl) (fun x v hv=>by simp [Lm] at hv;rcases hv with rfl | rfl | rfl <;> rfl) Qh tN 94 #[] g 0 cap ls.toArray w eg (nO g 0 ls.toArray.size w) (gT ho) hlt (by simp;omega)
  change Calls prog 329 _ _ _ at h
  have hz:ls.toArray.size=n:=by simp [hnl]
  rw [hz] at h;refine h.mono ?_;rintro e w' ⟨rfl,d',m,os,hp,hs,rfl⟩;rw [← hz] at hp;obtain ⟨p1,p2⟩:=oJ hp
  have hd:d'=d'.toList.toArray:=by simp
  refine ⟨rfl,d'.toList,p1,fY hs (by rw [p2,hnl]),?_,Tz bR hb hbg⟩
  rw [hd]
  exact Zf ho (by simp [p2])
end Go.Proofs.YtomiclakhjncbaaGreatDoor
namespace Go.Proofs.YtomiclakhjncbaaGreatDoor
open Go.RowKit Go.Maps Go.Proofs.Tryz
set_option maxRecDepth 100000
set_option maxHeartbeats 12800000
def mW (ls:List Ln):Bool:=ls.all fun x=>decide (Ec x.2.1 ls=0)
def P9 (D:DataW Unit) (ls:List Ln):Prop :=
 (∀ c,Maps.has D (.int .i64 c)=ls.any fun x=>decide (x.2.1=c))∧∀ c,D.atKey (.int .i64 c) (.lit (.int .i64 0))=.lit (.int .i64 (Ec c ls))
theorem Xx:P9 (.map []) []:=⟨fun _=>rfl,fun _=>rfl⟩
theorem eA (c:Int) (ls:List Ln) (x:Ln):Ec c (ls++[x])=Ec c ls+if x.2.1=c then x.2.2 else 0:=by simp [Ec]
theorem Vl {D:DataW Unit} {ls:List Ln} (h:P9 D ls) (hm:IsMap D) (x y z:Int):P9 (D.put (.int .i64 y) (.lit (.int .i64 (Ec y ls+z)))) (ls++[(x,y,z)]):=by
 constructor
 ·intro c
  rw [List.any_append]
  by_cases hc:c=y
  ·subst hc
   rw [Maps.has_put_same (k:=.int .i64 c) hm trivial];simp
  ·rw [Maps.has_put_other (Ht hc),h.1 c]
   simp [Ne.symm hc]
 ·intro c
  rw [eA]
  by_cases hc:c=y
  ·subst hc
   rw [Maps.atKey_put_same (k:=.int .i64 c) hm trivial];simp
  ·rw [Maps.atKey_put_other (Ht hc),h.2 c]
   simp [Ne.symm hc]
theorem lV {ls:List Ln} (h:∀ x ∈ ls,-1000000000000≤x.2.2∧x.2.2≤1000000000000) (c:Int) (k:Nat):-1000000000000 * (k:Int)≤Ec c (ls.take k)∧Ec c (ls.take k)≤1000000000000 * (k:Int):=by
 induction k with
 | zero=>simp [Ec]
 | succ k ih =>
  by_cases hk:k<ls.length
  ·rw [N5 c ls k hk]
   have:=h _ (Ex hk)
   split <;> omega
  ·rw [List.take_of_length_le (by omega)]
   rw [List.take_of_length_le (by omega)] at ih
   omega
theorem iW (ao:Option Addr) (cap:Nat) (ls:List Ln) (w:World) (hz:Ai w ao ls) (hn:ls.length≤400) (hbd:∀ x ∈ ls,-1000000000000≤x.2.2∧x.2.2≤1000000000000) (hwf:∀ x ∈ ls,Bf x.2.1) :
  Calls prog 95 #[.slice ao ls.length cap] w fun e w'=>e=.returned (.bool (mW ls))∧BW w w':=by
 have hmm:=@run_makeMap prog;have HZ:Hid (Ai w ao ls):=hz;have HBD:Hid (∀ x ∈ ls,-1000000000000≤x.2.2∧x.2.2≤1000000000000):=hbd;have HWF:Hid (∀ x ∈ ls,Bf x.2.1):=hwf;clear hz hbd hwf;have hown0:=World.ownsMap_made w prog 3 (plainElem (H:=Unit) prog 3);have hb0:=(Below.refl w.heap.size w).alloc nL (.map #[] 0)
 go_enter func95,ntmps95
 go_wp2
 go_loopw [11] (fun i wr=>∃ (k:Nat) (D:DataW Unit),k≤ls.length∧i=.int .i64 k∧wr.ownsMap prog 3 (plainElem (H:=Unit) prog 3) w.heap.size k D∧P9 D (ls.take k)∧BW w wr) (fun i _=>ls.length - (intOf i).toNat)
 case atStart=>exact ⟨0,.map [],Nat.zero_le _,rfl,hown0,Xx,hb0⟩
 case round =>
  obtain ⟨k,D,hk,rfl,hown,hsum,hbr⟩:=hrel;have hbs:=hbr.size;have HSUM:Hid (P9 D (ls.take k)):=hsum;have HOWN:Hid (wr.ownsMap prog 3 (plainElem (H:=Unit) prog 3) w.heap.size k D):=hown;clear hown0 hb0 hsum hown
  by_cases hlt:k<ls.length
  ·have hki:(k:Int)<(ls.length:Int):=by omega
   obtain ⟨b,off,rfl,hb2,c1,c2,c3⟩:=(HZ.o.below hbr).at hlt;have hbk:=HBD.o _ (Ex hlt);have hwk:=HWF.o _ (Ex hlt);have HTK:Hid _:=Kl ls k hlt;obtain ⟨⟨x,y,z⟩,hx⟩:∃ x,Cg ls k=x:=⟨_,rfl⟩;rw [hx] at c1 c2 c3 hbk hwk HTK
   simp only at c1 c2 c3 hbk hwk
   have hab:=lV HBD.o y k;have HWK:Hid (Bf y):=hwk
   have hy:∀ c:Int,D.atKey (.int .i64 y) (.lit (.int .i64 0))=.lit (.int .i64 c)→c=Ec y (ls.take k)∧IntKind.i64.wrap (c+z)=c+z∧(Lit.int .i64 (c+z)).wf=true:=fun c h=>by
    have e:=h.symm.trans (HSUM.o.2 y)
    have hc:c=Ec y (ls.take k):=by injection e with e1;injection e1
    have hk4:(k:Int)≤400:=by omega
    refine ⟨hc,?_,?_⟩
    ·rw [hc];simp [IntKind.wrap,IntKind.bits,IntKind.signed];omega
    ·exact WalkArith.wf_i64 (by rw [hc];omega)
   have HY:Hid _:=hy
   have HKM:Hid (k<maxLen):=by unfold maxLen;rw [Hid];omega
   have HBX:Hid (∀ o,Below w.heap.size w (wr.alloc o)):=fun o=>hbr.alloc hbs o
   clear hx hwk hab hy hbk
   go_wp2_with (first
    | (at_lookup;refine wpList_lookup_own_int _ rfl _ _ 186 rfl 3 3 .i64 Fp underlying186 underlying3 (Ox _) w.heap.size k D rfl (HOWN.o.alloc _) _ _ rfl (keyOf_int_mk underlying3 HWK.o) ?_;intro c hat hwc;have HC:Hid (c=Ec y (ls.take k)):=(HY.o c hat).1;have hwr:=(HY.o c hat).2.1;have HWC:Hid ((Lit.int .i64 (c+z)).wf=true):=(HY.o c hat).2.2;clear hat hwc)
    | (at_mapUpdate;refine wpList_mapUpdate_own _ rfl _ _ _ 186 rfl 3 3 Fp underlying186 _ w.heap.size k D rfl (HOWN.o.alloc _) HKM.o _ _ _ rfl rfl (keyOf_int_mk underlying3 HWK.o) _ [] (plainElem_int underlying3 HWC.o) ?_;intro w1 hown1 hgrow1)
    | go_in)
   have HO1:Hid (w1.ownsMap prog 3 (plainElem (H:=Unit) prog 3) w.heap.size (k+1) (D.put (.int .i64 y) (.lit (.int .i64 (c+z))))):=hown1
   have q1:BW w w1:=(HBX.o _).grown hgrow1 (HBX.o _).size (fun j hj=>by cases hj;exact nL)
   clear hown1 hgrow1;go_wp2
   go_roundw
   case rel=>exact ⟨k+1,_,by omega,by go_num,HO1.o,by rw [HTK.o,HC.o];exact Vl HSUM.o HOWN.o.isMap x y z,q1⟩
   case measure=>simp [intOf];omega
  ·have hke:k=ls.length:=by omega
   subst hke
   have hki:¬ (ls.length:Int)<(ls.length:Int):=by omega
   rw [List.take_length] at HSUM;obtain ⟨W,hW⟩:∃ W,W=wr:=⟨_,rfl⟩;subst hW
   go_wp2_with (first
    | (at_range;refine wpList_range_own _ rfl _ 186 rfl 3 3 Fp underlying186 _ w.heap.size ls.length _ rfl HOWN.o ?_;intro w0 hrg0 hg0 hs0)
    | go_in)
   try go_frame
   have qb0:BW w w0:=hbr.grown hg0 hbs (fun j hj=>by cases hj)
   go_loopw [7] (fun _ wr=>∃ (left:Lit→Bool) (Mw:Nat),wr.ranges prog 3 (plainElem (H:=Unit) prog 3) w.heap.size W.heap.size ls.length D left Mw∧(∀ c,left (.int .i64 c)=true→Maps.has D (.int .i64 c)=true)∧(∀ c,Maps.has D (.int .i64 c)=true→left (.int .i64 c)=false→Ec c ls=0)∧BW w wr)
    (fun _ wr=>wr.rangeLeft w.heap.size W.heap.size)
   case atStart=>exact ⟨_,_,hrg0,fun _ h=>h,(fun c h1 h2=>by rw [h1] at h2;cases h2),qb0⟩
   case round =>
    obtain ⟨left,Mw,hrg,hle,hzero,hbw⟩:=hrel;clear hrg0 hg0 hs0 qb0;have HLE:Hid (∀ c,left (.int .i64 c)=true→Maps.has D (.int .i64 c)=true):=hle;have HZR:Hid (∀ c,Maps.has D (.int .i64 c)=true→left (.int .i64 c)=false→Ec c ls=0):=hzero;have HRG:Hid (wr.ranges prog 3 (plainElem (H:=Unit) prog 3) w.heap.size W.heap.size ls.length D left Mw):=hrg;clear hle hzero hrg
    go_wp2_with (first
     | (at_next;refine wpList_next_ranges_ii _ rfl _ rfl 3 3 .i64 .i64 Fp underlying3 underlying3 w.heap.size W.heap.size ls.length _ _ _ rfl HRG.o ?_ ?_)
     | go_in)
    ·intro _ hl0
     have HV:Hid (mW ls=true):=by
      rw [Hid,mW,List.all_eq_true];intro x hx
      have hh:Maps.has D (.int .i64 x.2.1)=true:=by
       rw [HSUM.o.1,List.any_eq_true];exact ⟨x,hx,by simp⟩
      simpa using HZR.o _ hh (hl0 _)
     clear hl0;go_wp2;go_ret;exact ⟨Aa HV.o.symm,hbw⟩
    ·intro x c w1 cnt1 hwx hwc hlx hat hrg1 hlt hg1 hs1 hen
     have hcs:c=Ec x ls:=by
      have e:=(hat (.lit (.int .i64 0))).symm.trans (HSUM.o.2 x)
      injection e with e1;injection e1
     have q1:BW w w1:=hbw.grown hg1 hbw.size (fun j hj=>by cases hj;exact hbs)
     have HRG1:Hid (w1.ranges prog 3 (plainElem (H:=Unit) prog 3) w.heap.size W.heap.size ls.length D (fun z=>left z && !z.sameKey (.int .i64 x)) cnt1):=hrg1
     have HLT:Hid _:=hlt;have HHX:Hid _:=HLE.o _ hlx;clear hat hrg1 hlt hg1 hwx hwc
     by_cases hc0:c=0
     ·have hc0':(c != 0)=false:=by simpa using hc0
      have HS0:Hid (Ec x ls=0):=by rw [Hid,← hcs,hc0]
      clear hcs hc0;go_wp2
      go_roundw
      case rel =>
       refine ⟨_,cnt1,HRG1.o,(fun c' h=>HLE.o c' (Bool.and_eq_true _ _ ▸ h).1),fun c' h1 h2=>?_,q1⟩
       by_cases hx:c'=x
       ·rw [hx];exact HS0.o
       ·refine HZR.o c' h1 ?_
        have:=Maps.sameKey_ne (Ht hx)
        simp [this] at h2
        exact h2
      case measure=>rw [HRG1.o.left_eq,HRG.o.left_eq];exact HLT.o
     ·have hc0':(c != 0)=true:=by simpa using hc0
      have HV:Hid (mW ls=false):=by
       rw [Hid,mW];have hh:=HHX.o;rw [HSUM.o.1,List.any_eq_true] at hh;obtain ⟨y,hy,he⟩:=hh
       simp at he
       rw [List.all_eq_false]
       exact ⟨y,hy,by rw [he,← hcs];simpa using hc0⟩
      clear hcs hc0;go_wp2;go_ret;exact ⟨Aa HV.o.symm,q1⟩
end Go.Proofs.YtomiclakhjncbaaGreatDoor
namespace Go.Proofs.YtomiclakhjncbaaGreatDoor
open Go.RowKit Go.Proofs.Tryz
set_option maxRecDepth 100000
set_option maxHeartbeats 12800000
def Sx (t:Int) (zs:List Int):Bool:=Dn t && Ct zs
def bsT (t:Int) (zs:List Int):Int:=if Sx t zs=true then t else 0
def bsL (t:Int) (zs:List Int):List Int:=if Sx t zs=true then zs else []
def bk0 (t:Int) (a:Option Addr) (n k:Nat):Value:=.agg #[.int .i64 t,.slice a n k,.slice none 0 0,.slice none 0 0,.slice none 0 0,.slice none 0 0]
def BsR (w:World) (t:Int) (zs:List Int) (e:Ending) (w':World):Prop :=
 ∃ a k,e=.returned (.tuple #[bk0 (bsT t zs) a (bsL t zs).length k,.bool (Sx t zs)])∧w'.ownsRow w.heap.size 3 1 (.slice a (bsL t zs).length k) (bsL t zs).length ((bsL t zs).map (Value.int .i64))∧BW w w'
def put6 (u:World) (h:Nat) (a b c d e f:Value):World:=((((((u.setCell ⟨h,0,none⟩ a).setCell ⟨h,1,none⟩ b).setCell ⟨h,2,none⟩ c).setCell ⟨h,3,none⟩ d).setCell ⟨h,4,none⟩ e).setCell ⟨h,5,none⟩ f)
theorem _root_.Go.RowKit.Below.put6 {w u:World} (h:BW w u) (a b c d e f:Value):Below w.heap.size w (put6 u w.heap.size a b c d e f) :=
 (((((h.setCell nL _).setCell nL _).setCell nL _).setCell nL _).setCell nL _).setCell nL _
theorem wQ {w u:World} {t:Int} {zs:List Int} (h:Sx t zs=false) (b:BW w u):BsR w t zs (.returned (.tuple #[bk0 0 none 0 0,.bool false])) u:=by
 have e1:bsT t zs=0:=by simp [bsT,h]
 have e2:bsL t zs=[]:=by simp [bsL,h]
 refine ⟨none,0,?_,?_,b⟩
 ·rw [e1,e2,h];rfl
 ·rw [e2];exact World.ownsRow_nil _ _ _ _
theorem yF {w:World} {base base' n:Nat} {v:Value} {xs:List Value} (h:w.ownsRow base 3 1 v n xs) (hb:base'≤base):w.ownsRow base' 3 1 v n xs:=by
 obtain ⟨h1,h2⟩:=h;refine ⟨h1,?_⟩
 rcases h2 with h2 | ⟨g,cap,cur,e1,e2,e3⟩
 ·exact .inl h2
 ·exact .inr ⟨g,cap,cur,e1,Nat.le_trans hb e2,e3⟩
theorem wB (u:World) (h:Nat) (a b c d e f:Value):u.grownBy (put6 u h a b c d e f) (some h):=by
 have g:∀ (x:World) (k:Nat) (v:Value),x.grownBy (x.setCell ⟨h,k,none⟩ v) (some h):=fun x k v=>⟨rfl,rfl,rfl,by simp,fun j _ hj=>Below.heap_setCell _ _ _ _ (fun e=>hj (by rw [e]))⟩
 exact (((((g _ _ _).trans (g _ _ _)).trans (g _ _ _)).trans (g _ _ _)).trans (g _ _ _)).trans (g _ _ _)
theorem yP {w u:World} {t:Int} {zs:List Int} {a:Option Addr} {k base:Nat} (h:Sx t zs=true) (o:u.ownsRow base 3 1 (.slice a zs.length k) zs.length (zs.map (Value.int .i64))) (hb:w.heap.size+1≤base) (b:BW w u) :
  BsR w t zs (.returned (.tuple #[bk0 t a zs.length k,.bool true])) (put6 u w.heap.size (.int .i64 t) (.slice a zs.length k) (.slice none 0 0) (.slice none 0 0) (.slice none 0 0) (.slice none 0 0)):=by
 have e1:bsT t zs=t:=by simp [bsT,h]
 have e2:bsL t zs=zs:=by simp [bsL,h]
 refine ⟨a,k,?_,?_,b.put6 _ _ _ _ _ _⟩
 ·rw [e1,e2,h]
 ·rw [e2]
  exact yF (o.kept (wB _ _ _ _ _ _ _ _) (.inr fun hh=>by have:=(o.lt _ hh).1;omega)) (by omega)
theorem zZ (t:Int) (ao:Option Addr) (c:Nat) (zs:List Int) (w:World) (hx:Aw w ao zs) (hn:zs.length≤1048576) :
  Calls prog 44 #[.int .i64 t,.slice ao zs.length c] w (BsR w t zs):=by
 obtain ⟨W,hW⟩:∃ W,W=w.alloc (.cells #[.int .i64 0,.slice none 0 0,.slice none 0 0,.slice none 0 0,.slice none 0 0,.slice none 0 0] 31):=⟨_,rfl⟩
 have c0:W.cell? ⟨w.heap.size,0,none⟩=some (.int .i64 0):=by rw [hW];simp
 have z0:W.frozen? ⟨w.heap.size,0,none⟩=false:=by rw [hW];simp [go_sem]
 have c1:W.cell? ⟨w.heap.size,1,none⟩=some (.slice none 0 0):=by rw [hW];simp
 have z1:W.frozen? ⟨w.heap.size,1,none⟩=false:=by rw [hW];simp [go_sem]
 have c2:W.cell? ⟨w.heap.size,2,none⟩=some (.slice none 0 0):=by rw [hW];simp
 have z2:W.frozen? ⟨w.heap.size,2,none⟩=false:=by rw [hW];simp [go_sem]
 have c3:W.cell? ⟨w.heap.size,3,none⟩=some (.slice none 0 0):=by rw [hW];simp
 have z3:W.frozen? ⟨w.heap.size,3,none⟩=false:=by rw [hW];simp [go_sem]
 have c4:W.cell? ⟨w.heap.size,4,none⟩=some (.slice none 0 0):=by rw [hW];simp
 have z4:W.frozen? ⟨w.heap.size,4,none⟩=false:=by rw [hW];simp [go_sem]
 have c5:W.cell? ⟨w.heap.size,5,none⟩=some (.slice none 0 0):=by rw [hW];simp
 have z5:W.frozen? ⟨w.heap.size,5,none⟩=false:=by rw [hW];simp [go_sem]
 have bW:BW w W:=by rw [hW];go_grown
 have hWs:W.heap.size=w.heap.size+1:=by rw [hW];simp
 have HW:Hid _:=hW;have HX:Hid (Aw W ao zs):=hx.below bW;have HBW:Hid (BW w W):=bW;have HWS:Hid (W.heap.size=w.heap.size+1):=hWs;clear hx bW hWs hW
 have HDK:Hid (∀ u,Calls prog 99 #[.int .i64 t] u fun e w'=>e=.returned (.bool (Dn t))∧w'=u):=fun u=>Bm t u
 have HOK:Hid (Calls prog 100 #[.slice ao zs.length c] W fun e w'=>e=.returned (.bool (Ct zs))∧BW W w'):=(Pp ao c zs W HX.o (by omega)).mono fun _ _ ⟨h,h2⟩=>⟨h,h2 ▸ bR⟩
 cases hd:Dn t
 ·have HB:Hid (Sx t zs=false):=by simp [Hid,Sx,hd]
  rw [hd] at HDK
  go_enter func44,ntmps44
  go_upto_region 1 with fail
  rw [← HW.o];go_wp2_with fail
  refine (HDK.o _).mono ?_;rintro e w1 ⟨rfl,hw1⟩;replace hw1:=hw1.symm;subst hw1;go_wp2
  refine bodyPost_ret (by simp [results,results44,go_sem,c0,c1,c2,c3,c4,c5];try rfl) rfl ?_
  exact wQ HB.o (HBW.o.put6 _ _ _ _ _ _)
 ·rw [hd] at HDK
  cases ho:Ct zs
  ·have HB:Hid (Sx t zs=false):=by simp [Hid,Sx,ho]
   rw [ho] at HOK
   go_enter func44,ntmps44
   go_upto_region 1 with fail
   rw [← HW.o];go_wp2_with fail
   refine (HDK.o _).mono ?_;rintro e w1 ⟨rfl,hw1⟩;replace hw1:=hw1.symm;subst hw1;go_wp2_with fail
   refine HOK.o.mono ?_;rintro e w2 ⟨rfl,b2⟩
   replace c0:=(b2.cell (p:=⟨w.heap.size,0,none⟩) (by have:=HWS.o;show w.heap.size<W.heap.size;omega)).trans c0
   replace z0:=(b2.frozen (p:=⟨w.heap.size,0,none⟩) (by have:=HWS.o;show w.heap.size<W.heap.size;omega)).trans z0
   replace c1:=(b2.cell (p:=⟨w.heap.size,1,none⟩) (by have:=HWS.o;show w.heap.size<W.heap.size;omega)).trans c1
   replace z1:=(b2.frozen (p:=⟨w.heap.size,1,none⟩) (by have:=HWS.o;show w.heap.size<W.heap.size;omega)).trans z1
   replace c2:=(b2.cell (p:=⟨w.heap.size,2,none⟩) (by have:=HWS.o;show w.heap.size<W.heap.size;omega)).trans c2
   replace z2:=(b2.frozen (p:=⟨w.heap.size,2,none⟩) (by have:=HWS.o;show w.heap.size<W.heap.size;omega)).trans z2
   replace c3:=(b2.cell (p:=⟨w.heap.size,3,none⟩) (by have:=HWS.o;show w.heap.size<W.heap.size;omega)).trans c3
   replace z3:=(b2.frozen (p:=⟨w.heap.size,3,none⟩) (by have:=HWS.o;show w.heap.size<W.heap.size;omega)).trans z3
   replace c4:=(b2.cell (p:=⟨w.heap.size,4,none⟩) (by have:=HWS.o;show w.heap.size<W.heap.size;omega)).trans c4
   replace z4:=(b2.frozen (p:=⟨w.heap.size,4,none⟩) (by have:=HWS.o;show w.heap.size<W.heap.size;omega)).trans z4
   replace c5:=(b2.cell (p:=⟨w.heap.size,5,none⟩) (by have:=HWS.o;show w.heap.size<W.heap.size;omega)).trans c5
   replace z5:=(b2.frozen (p:=⟨w.heap.size,5,none⟩) (by have:=HWS.o;show w.heap.size<W.heap.size;omega)).trans z5
   have HB2:Hid (BW w w2):=next HBW.o b2;have HX2:Hid (Aw w2 ao zs):=HX.o.below b2
   have HS2:Hid (w.heap.size+1≤w2.heap.size):=by have h1:=HWS.o;have h2:=b2.size;rw [Hid];omega
   clear b2;go_wp2
   refine bodyPost_ret (by simp [results,results44,go_sem,c0,c1,c2,c3,c4,c5];try rfl) rfl ?_
   exact wQ HB.o (HB2.o.put6 _ _ _ _ _ _)
  ·have HB:Hid (Sx t zs=true):=by simp [Hid,Sx,ho,hd]
   rw [ho] at HOK
   go_enter func44,ntmps44
   go_upto_region 1 with fail
   rw [← HW.o];go_wp2_with fail
   refine (HDK.o _).mono ?_;rintro e w1 ⟨rfl,hw1⟩;replace hw1:=hw1.symm;subst hw1;go_wp2_with fail
   refine HOK.o.mono ?_;rintro e w2 ⟨rfl,b2⟩
   replace c0:=(b2.cell (p:=⟨w.heap.size,0,none⟩) (by have:=HWS.o;show w.heap.size<W.heap.size;omega)).trans c0
   replace z0:=(b2.frozen (p:=⟨w.heap.size,0,none⟩) (by have:=HWS.o;show w.heap.size<W.heap.size;omega)).trans z0
   replace c1:=(b2.cell (p:=⟨w.heap.size,1,none⟩) (by have:=HWS.o;show w.heap.size<W.heap.size;omega)).trans c1
   replace z1:=(b2.frozen (p:=⟨w.heap.size,1,none⟩) (by have:=HWS.o;show w.heap.size<W.heap.size;omega)).trans z1
   replace c2:=(b2.cell (p:=⟨w.heap.size,2,none⟩) (by have:=HWS.o;show w.heap.size<W.heap.size;omega)).trans c2
   replace z2:=(b2.frozen (p:=⟨w.heap.size,2,none⟩) (by have:=HWS.o;show w.heap.size<W.heap.size;omega)).trans z2
   replace c3:=(b2.cell (p:=⟨w.heap.size,3,none⟩) (by have:=HWS.o;show w.heap.size<W.heap.size;omega)).trans c3
   replace z3:=(b2.frozen (p:=⟨w.heap.size,3,none⟩) (by have:=HWS.o;show w.heap.size<W.heap.size;omega)).trans z3
   replace c4:=(b2.cell (p:=⟨w.heap.size,4,none⟩) (by have:=HWS.o;show w.heap.size<W.heap.size;omega)).trans c4
   replace z4:=(b2.frozen (p:=⟨w.heap.size,4,none⟩) (by have:=HWS.o;show w.heap.size<W.heap.size;omega)).trans z4
   replace c5:=(b2.cell (p:=⟨w.heap.size,5,none⟩) (by have:=HWS.o;show w.heap.size<W.heap.size;omega)).trans c5
   replace z5:=(b2.frozen (p:=⟨w.heap.size,5,none⟩) (by have:=HWS.o;show w.heap.size<W.heap.size;omega)).trans z5
   have HB2:Hid (BW w w2):=next HBW.o b2;have HX2:Hid (Aw w2 ao zs):=HX.o.below b2
   have HS2:Hid (w.heap.size+1≤w2.heap.size):=by have h1:=HWS.o;have h2:=b2.size;rw [Hid];omega
   clear b2;go_wp2_with fail
   refine (fC w2.heap.size ao c zs _ (by simp) (HX2.o.below (bR.alloc nL _)) (by omega)).mono ?_
   rintro e w3 ⟨a2,k2,rfl,o3,b3⟩
   have bb:BW w2 w3:=(bR.alloc nL _).trans (b3.mono (by simp))
   replace c0:=(bb.cell (p:=⟨w.heap.size,0,none⟩) (by have:=HS2.o;show w.heap.size<w2.heap.size;omega)).trans c0
   replace z0:=(bb.frozen (p:=⟨w.heap.size,0,none⟩) (by have:=HS2.o;show w.heap.size<w2.heap.size;omega)).trans z0
   replace c1:=(bb.cell (p:=⟨w.heap.size,1,none⟩) (by have:=HS2.o;show w.heap.size<w2.heap.size;omega)).trans c1
   replace z1:=(bb.frozen (p:=⟨w.heap.size,1,none⟩) (by have:=HS2.o;show w.heap.size<w2.heap.size;omega)).trans z1
   replace c2:=(bb.cell (p:=⟨w.heap.size,2,none⟩) (by have:=HS2.o;show w.heap.size<w2.heap.size;omega)).trans c2
   replace z2:=(bb.frozen (p:=⟨w.heap.size,2,none⟩) (by have:=HS2.o;show w.heap.size<w2.heap.size;omega)).trans z2
   replace c3:=(bb.cell (p:=⟨w.heap.size,3,none⟩) (by have:=HS2.o;show w.heap.size<w2.heap.size;omega)).trans c3
   replace z3:=(bb.frozen (p:=⟨w.heap.size,3,none⟩) (by have:=HS2.o;show w.heap.size<w2.heap.size;omega)).trans z3
   replace c4:=(bb.cell (p:=⟨w.heap.size,4,none⟩) (by have:=HS2.o;show w.heap.size<w2.heap.size;omega)).trans c4
   replace z4:=(bb.frozen (p:=⟨w.heap.size,4,none⟩) (by have:=HS2.o;show w.heap.size<w2.heap.size;omega)).trans z4
   replace c5:=(bb.cell (p:=⟨w.heap.size,5,none⟩) (by have:=HS2.o;show w.heap.size<w2.heap.size;omega)).trans c5
   replace z5:=(bb.frozen (p:=⟨w.heap.size,5,none⟩) (by have:=HS2.o;show w.heap.size<w2.heap.size;omega)).trans z5
   have HB3:Hid (BW w w3):=next HB2.o bb
   have HO3:Hid (w3.ownsRow (w.heap.size+1) 3 1 (.slice a2 zs.length k2) zs.length (zs.map (Value.int .i64))):=yF o3 (by have:=HS2.o;simp;omega)
   clear bb o3 b3;go_wp2
   refine bodyPost_ret (by simp [results,results44,go_sem,c0,c1,c2,c3,c4,c5];try rfl) rfl ?_
   exact yP HB.o HO3.o nL HB3.o
theorem vR (t:Int) (ao:Option Addr) (c:Nat) (zs:List Int) (w:World) (hx:Aw w ao zs) (hn:zs.length≤1048576) :
  Calls prog 45 #[.int .i64 t,.slice ao zs.length c] w (BsR w t zs):=by
 obtain ⟨W,hW⟩:∃ W,W=w.alloc (.cells #[.int .i64 0,.slice none 0 0,.slice none 0 0,.slice none 0 0,.slice none 0 0,.slice none 0 0] 31):=⟨_,rfl⟩
 have c0:W.cell? ⟨w.heap.size,0,none⟩=some (.int .i64 0):=by rw [hW];simp
 have z0:W.frozen? ⟨w.heap.size,0,none⟩=false:=by rw [hW];simp [go_sem]
 have c1:W.cell? ⟨w.heap.size,1,none⟩=some (.slice none 0 0):=by rw [hW];simp
 have z1:W.frozen? ⟨w.heap.size,1,none⟩=false:=by rw [hW];simp [go_sem]
 have c2:W.cell? ⟨w.heap.size,2,none⟩=some (.slice none 0 0):=by rw [hW];simp
 have z2:W.frozen? ⟨w.heap.size,2,none⟩=false:=by rw [hW];simp [go_sem]
 have c3:W.cell? ⟨w.heap.size,3,none⟩=some (.slice none 0 0):=by rw [hW];simp
 have z3:W.frozen? ⟨w.heap.size,3,none⟩=false:=by rw [hW];simp [go_sem]
 have c4:W.cell? ⟨w.heap.size,4,none⟩=some (.slice none 0 0):=by rw [hW];simp
 have z4:W.frozen? ⟨w.heap.size,4,none⟩=false:=by rw [hW];simp [go_sem]
 have c5:W.cell? ⟨w.heap.size,5,none⟩=some (.slice none 0 0):=by rw [hW];simp
 have z5:W.frozen? ⟨w.heap.size,5,none⟩=false:=by rw [hW];simp [go_sem]
 have bW:BW w W:=by rw [hW];go_grown
 have hWs:W.heap.size=w.heap.size+1:=by rw [hW];simp
 have HW:Hid _:=hW;have HX:Hid (Aw W ao zs):=hx.below bW;have HBW:Hid (BW w W):=bW;have HWS:Hid (W.heap.size=w.heap.size+1):=hWs;clear hx bW hWs hW
 have HDK:Hid (∀ u,Calls prog 102 #[.int .i64 t] u fun e w'=>e=.returned (.bool (Dn t))∧w'=u):=fun u=>A9 t u
 have HOK:Hid (Calls prog 103 #[.slice ao zs.length c] W fun e w'=>e=.returned (.bool (Ct zs))∧BW W w'):=Rk ao c zs W HX.o (by omega)
 cases hd:Dn t
 ·have HB:Hid (Sx t zs=false):=by simp [Hid,Sx,hd]
  rw [hd] at HDK
  go_enter func45,ntmps45
  go_upto_region 1 with fail
  rw [← HW.o];go_wp2_with fail
  refine (HDK.o _).mono ?_;rintro e w1 ⟨rfl,hw1⟩;replace hw1:=hw1.symm;subst hw1;go_wp2
  refine bodyPost_ret (by simp [results,results45,go_sem,c0,c1,c2,c3,c4,c5];try rfl) rfl ?_
  exact wQ HB.o (HBW.o.put6 _ _ _ _ _ _)
 ·rw [hd] at HDK
  cases ho:Ct zs
  ·have HB:Hid (Sx t zs=false):=by simp [Hid,Sx,ho]
   rw [ho] at HOK
   go_enter func45,ntmps45
   go_upto_region 1 with fail
   rw [← HW.o];go_wp2_with fail
   refine (HDK.o _).mono ?_;rintro e w1 ⟨rfl,hw1⟩;replace hw1:=hw1.symm;subst hw1;go_wp2_with fail
   refine HOK.o.mono ?_;rintro e w2 ⟨rfl,b2⟩
   replace c0:=(b2.cell (p:=⟨w.heap.size,0,none⟩) (by have:=HWS.o;show w.heap.size<W.heap.size;omega)).trans c0
   replace z0:=(b2.frozen (p:=⟨w.heap.size,0,none⟩) (by have:=HWS.o;show w.heap.size<W.heap.size;omega)).trans z0
   replace c1:=(b2.cell (p:=⟨w.heap.size,1,none⟩) (by have:=HWS.o;show w.heap.size<W.heap.size;omega)).trans c1
   replace z1:=(b2.frozen (p:=⟨w.heap.size,1,none⟩) (by have:=HWS.o;show w.heap.size<W.heap.size;omega)).trans z1
   replace c2:=(b2.cell (p:=⟨w.heap.size,2,none⟩) (by have:=HWS.o;show w.heap.size<W.heap.size;omega)).trans c2
   replace z2:=(b2.frozen (p:=⟨w.heap.size,2,none⟩) (by have:=HWS.o;show w.heap.size<W.heap.size;omega)).trans z2
   replace c3:=(b2.cell (p:=⟨w.heap.size,3,none⟩) (by have:=HWS.o;show w.heap.size<W.heap.size;omega)).trans c3
   replace z3:=(b2.frozen (p:=⟨w.heap.size,3,none⟩) (by have:=HWS.o;show w.heap.size<W.heap.size;omega)).trans z3
   replace c4:=(b2.cell (p:=⟨w.heap.size,4,none⟩) (by have:=HWS.o;show w.heap.size<W.heap.size;omega)).trans c4
   replace z4:=(b2.frozen (p:=⟨w.heap.size,4,none⟩) (by have:=HWS.o;show w.heap.size<W.heap.size;omega)).trans z4
   replace c5:=(b2.cell (p:=⟨w.heap.size,5,none⟩) (by have:=HWS.o;show w.heap.size<W.heap.size;omega)).trans c5
   replace z5:=(b2.frozen (p:=⟨w.heap.size,5,none⟩) (by have:=HWS.o;show w.heap.size<W.heap.size;omega)).trans z5
   have HB2:Hid (BW w w2):=next HBW.o b2;have HX2:Hid (Aw w2 ao zs):=HX.o.below b2
   have HS2:Hid (w.heap.size+1≤w2.heap.size):=by have h1:=HWS.o;have h2:=b2.size;rw [Hid];omega
   clear b2;go_wp2
   refine bodyPost_ret (by simp [results,results45,go_sem,c0,c1,c2,c3,c4,c5];try rfl) rfl ?_
   exact wQ HB.o (HB2.o.put6 _ _ _ _ _ _)
  ·have HB:Hid (Sx t zs=true):=by simp [Hid,Sx,ho,hd]
   rw [ho] at HOK
   go_enter func45,ntmps45
   go_upto_region 1 with fail
   rw [← HW.o];go_wp2_with fail
   refine (HDK.o _).mono ?_;rintro e w1 ⟨rfl,hw1⟩;replace hw1:=hw1.symm;subst hw1;go_wp2_with fail
   refine HOK.o.mono ?_;rintro e w2 ⟨rfl,b2⟩
   replace c0:=(b2.cell (p:=⟨w.heap.size,0,none⟩) (by have:=HWS.o;show w.heap.size<W.heap.size;omega)).trans c0
   replace z0:=(b2.frozen (p:=⟨w.heap.size,0,none⟩) (by have:=HWS.o;show w.heap.size<W.heap.size;omega)).trans z0
   replace c1:=(b2.cell (p:=⟨w.heap.size,1,none⟩) (by have:=HWS.o;show w.heap.size<W.heap.size;omega)).trans c1
   replace z1:=(b2.frozen (p:=⟨w.heap.size,1,none⟩) (by have:=HWS.o;show w.heap.size<W.heap.size;omega)).trans z1
   replace c2:=(b2.cell (p:=⟨w.heap.size,2,none⟩) (by have:=HWS.o;show w.heap.size<W.heap.size;omega)).trans c2
   replace z2:=(b2.frozen (p:=⟨w.heap.size,2,none⟩) (by have:=HWS.o;show w.heap.size<W.heap.size;omega)).trans z2
   replace c3:=(b2.cell (p:=⟨w.heap.size,3,none⟩) (by have:=HWS.o;show w.heap.size<W.heap.size;omega)).trans c3
   replace z3:=(b2.frozen (p:=⟨w.heap.size,3,none⟩) (by have:=HWS.o;show w.heap.size<W.heap.size;omega)).trans z3
   replace c4:=(b2.cell (p:=⟨w.heap.size,4,none⟩) (by have:=HWS.o;show w.heap.size<W.heap.size;omega)).trans c4
   replace z4:=(b2.frozen (p:=⟨w.heap.size,4,none⟩) (by have:=HWS.o;show w.heap.size<W.heap.size;omega)).trans z4
   replace c5:=(b2.cell (p:=⟨w.heap.size,5,none⟩) (by have:=HWS.o;show w.heap.size<W.heap.size;omega)).trans c5
   replace z5:=(b2.frozen (p:=⟨w.heap.size,5,none⟩) (by have:=HWS.o;show w.heap.size<W.heap.size;omega)).trans z5
   have HB2:Hid (BW w w2):=next HBW.o b2;have HX2:Hid (Aw w2 ao zs):=HX.o.below b2
   have HS2:Hid (w.heap.size+1≤w2.heap.size):=by have h1:=HWS.o;have h2:=b2.size;rw [Hid];omega
   clear b2
   have HOE:Hid ((w2.alloc (.cells #[] 3)).ownsRow (w.heap.size+1) 3 1 (.slice (some ⟨w2.heap.size,0,none⟩) 0 0) 0 []):=World.ownsRow_lit w2 #[] 0 HS2.o (by unfold maxLen;omega) rfl
   go_wp2_with (at_builtin;refine Gf _ rfl (.tmp 16) (.tmp 17) rfl (w.heap.size+1) _ 0 [] rfl HOE.o ao c zs rfl (HX2.o.below (bR.alloc nL _)) (by omega) (by have:=HS2.o;simp;omega) ?_;intro v3 w3 o3 g3;obtain ⟨a2,k2,hv3⟩:=Fz o3;rw [Nat.zero_add] at hv3;subst hv3;rw [Nat.zero_add,List.nil_append] at o3;have bb:BW w2 w3:=(bR.alloc nL _).grown g3 (by simp) (fun j hj=>by have hj2:some w2.heap.size=some j:=hj;injection hj2 with hj2;omega);replace c0:=(bb.cell (p:=⟨w.heap.size,0,none⟩) (by have:=HS2.o;show w.heap.size<w2.heap.size;omega)).trans c0;replace z0:=(bb.frozen (p:=⟨w.heap.size,0,none⟩) (by have:=HS2.o;show w.heap.size<w2.heap.size;omega)).trans z0;replace c1:=(bb.cell (p:=⟨w.heap.size,1,none⟩) (by have:=HS2.o;show w.heap.size<w2.heap.size;omega)).trans c1;replace z1:=(bb.frozen (p:=⟨w.heap.size,1,none⟩) (by have:=HS2.o;show w.heap.size<w2.heap.size;omega)).trans z1;replace c2:=(bb.cell (p:=⟨w.heap.size,2,none⟩) (by have:=HS2.o;show w.heap.size<w2.heap.size;omega)).trans c2;replace z2:=(bb.frozen (p:=⟨w.heap.size,2,none⟩) (by have:=HS2.o;show w.heap.size<w2.heap.size;omega)).trans z2;replace c3:=(bb.cell (p:=⟨w.heap.size,3,none⟩) (by have:=HS2.o;show w.heap.size<w2.heap.size;omega)).trans c3;replace z3:=(bb.frozen (p:=⟨w.heap.size,3,none⟩) (by have:=HS2.o;show w.heap.size<w2.heap.size;omega)).trans z3;replace c4:=(bb.cell (p:=⟨w.heap.size,4,none⟩) (by have:=HS2.o;show w.heap.size<w2.heap.size;omega)).trans c4;replace z4:=(bb.frozen (p:=⟨w.heap.size,4,none⟩) (by have:=HS2.o;show w.heap.size<w2.heap.size;omega)).trans z4;replace c5:=(bb.cell (p:=⟨w.heap.size,5,none⟩) (by have:=HS2.o;show w.heap.size<w2.heap.size;omega)).trans c5;replace z5:=(bb.frozen (p:=⟨w.heap.size,5,none⟩) (by have:=HS2.o;show w.heap.size<w2.heap.size;omega)).trans z5)
   have HB3:Hid (BW w w3):=next HB2.o bb;have HO3:Hid (w3.ownsRow (w.heap.size+1) 3 1 (.slice a2 zs.length k2) zs.length (zs.map (Value.int .i64))):=o3;clear bb o3 g3 HOE;go_wp2
   refine bodyPost_ret (by simp [results,results45,go_sem,c0,c1,c2,c3,c4,c5];try rfl) rfl ?_
   exact yP HB.o HO3.o nL HB3.o
end Go.Proofs.YtomiclakhjncbaaGreatDoor
namespace Go.Proofs.YtomiclakhjncbaaGreatDoor
open Go.ChangeShapes Go.WideShapes Go.ChangeAt Go.RowKit Go.Deep Go.Proofs.Tryz
set_option maxRecDepth 100000
set_option maxHeartbeats 12800000
section
variable {P:Program} {H:Type} {enc:TypeId×Value→H} {W:World}
end
end Go.Proofs.YtomiclakhjncbaaGreatDoor
namespace Go.Proofs.YtomiclakhjncbaaGreatDoor
open Go.RowKit Go.Proofs.Tryz
set_option maxRecDepth 100000
set_option maxHeartbeats 12800000
def Bl (P:Cs→Bool) (cs:List Cs) (k:Nat):List Int:=((List.range k).filter fun i=>P (A8 cs i)).map fun i:Nat=>(i:Int)
theorem Ms {P:Cs→Bool} {cs:List Cs} {k:Nat} (h:P (A8 cs k)=true):Bl P cs (k+1)=Bl P cs k++[(k:Int)]:=by
 simp [Bl,List.range_succ,List.filter_append,h]
theorem Ko {P:Cs→Bool} {cs:List Cs} {k:Nat} (h:P (A8 cs k)=false):Bl P cs (k+1)=Bl P cs k:=by
 simp [Bl,List.range_succ,List.filter_append,h]
theorem Iz (P:Cs→Bool) (cs:List Cs) (k:Nat):(Bl P cs k).length≤k:=by
 refine Nat.le_trans (by rw [Bl,List.length_map];exact List.length_filter_le _ _) ?_
 simp
def Jp (c:Cs):Bool:=!(c.st == 7)
theorem aW {c:Cs} (h:(c.st == 7)=true):Jp c=false:=by simp [Jp,h]
theorem Pm {c:Cs} (h:(c.st == 7)=false):Jp c=true:=by simp [Jp,h]
theorem Tw (x:Int):∀ u ∈ [Value.int .i64 x],u.oneCell'=true:=by
 intro u hu
 rw [List.mem_singleton.1 hu];rfl
theorem dE:(prog.info? 3).map (fun i=>(i.zero,i.size,i.bytes))=some (some (.int .i64 0),1,8):=by kernel_rfl
def qN (w:World) (zs:List Int) (e:Ending) (w':World):Prop :=
 ∃ a k,e=.returned (.slice a zs.length k)∧w'.ownsRow w.heap.size 3 1 (.slice a zs.length k) zs.length (zs.map (Value.int .i64))∧BW w w'
theorem mV (b:Bk) (p:Bp) (w:World) (hx:Aq w b p) (hn:D0 b) :
  Calls prog 35 #[C5 b p] w (qN w (Bl Jp b.cs b.cs.length)):=by
 obtain ⟨i0,hi,hz0,hz1,hz2⟩:=info_parts dE;obtain ⟨W,hW⟩:∃ W,W=(w.alloc (.cells #[.int .i64 b.today,.slice p.o b.off.length p.oc,.slice p.a b.az.length p.ac,.slice p.c b.cs.length p.cc,.slice p.l b.ls.length p.lc,.slice p.g b.log.length p.gc] 31)).alloc (.cells #[] 3):=⟨_,rfl⟩
 have bW:BW w W:=by rw [hW];go_grown
 have HS:Hid (S6 w.heap.size b p W):=by rw [Hid,hW];exact (S6.new w b p _).below (bR.alloc nL _)
 have HO0:Hid (W.ownsRow (w.heap.size+1) 3 1 (.slice (some ⟨w.heap.size+1,0,none⟩) 0 0) 0 (([]:List Int).map (Value.int .i64))):=by
  have h:=World.ownsRow_lit (base:=w.heap.size+1) (e:=3) (size:=1) (w.alloc (.cells #[.int .i64 b.today,.slice p.o b.off.length p.oc,.slice p.a b.az.length p.ac,.slice p.c b.cs.length p.cc,.slice p.l b.ls.length p.lc,.slice p.g b.log.length p.gc] 31)) #[] 0 (by simp) (by unfold maxLen;omega) rfl
  rw [Hid,hW];simpa using h
 have HX:Hid (A0 w p.c b.cs):=hx.cs;have HBW:Hid (BW w W):=bW
 have HWS:Hid (W.heap.size=w.heap.size+2):=by rw [Hid,hW];simp
 have HQ:Hid (∀ u,Below (w.heap.size+1) W u→BW w u):=fun u h=>bW.trans (h.mono (by omega))
 have HK:Hid (∀ u,Below (w.heap.size+1) W u→S6 w.heap.size b p u):=fun u h=>HS.o.under h (by omega)
 have hcn:=hn.2.2.1;clear hx hn bW HS;have HW:Hid _:=hW;clear hW;obtain ⟨td,fo,az,cs,ls,lg⟩:=b;obtain ⟨o,oc,a,ac,c,cc,l,lc,g,gc⟩:=p;unfold C5
 simp only at HW HX hcn ⊢
 go_enter func35,ntmps35
 go_upto_region 2 with fail
 rw [← HW.o];clear HW;go_wp2_with fail
 go_loopw [3,4] (fun s i wr=>∃ (v:Value) (k:Nat),v=s∧k≤cs.length∧i=.int .i64 (k:Int)∧wr.ownsRow (w.heap.size+1) 3 1 v (Bl Jp cs k).length ((Bl Jp cs k).map (Value.int .i64))∧Below (w.heap.size+1) W wr) (fun _ i _=>cs.length - (intOf i).toNat)
 case atStart=>exact ⟨_,0,rfl,Nat.zero_le _,rfl,HO0.o,bR⟩
 case round =>
  obtain ⟨v,k,hvs,hk,rfl,hown,hbr⟩:=hrel;subst hvs;have HBR:Hid (Below (w.heap.size+1) W wr):=hbr;have HO:Hid (wr.ownsRow (w.heap.size+1) 3 1 v (Bl Jp cs k).length ((Bl Jp cs k).map (Value.int .i64))):=hown;obtain ⟨x0,x1,x2,x3,x4,x5⟩:=HK.o _ hbr
  simp only at x0 x1 x2 x3 x4 x5
  by_cases hlt:k<cs.length
  ·have hki:(k:Int)<(cs.length:Int):=by omega
   obtain ⟨cb,off,rfl,hb2,hcb⟩:=(HX.o.below (HQ.o _ hbr)).at hlt;have hle:=Iz Jp cs k;have HIN:Hid _:=@Ms (Jp) cs k;have HOUT:Hid _:=@Ko (Jp) cs k;obtain ⟨⟨iss,acq,cur,am,st,rsn,cl,bk,fee,cop,sta,due⟩,hc⟩:∃ f,A8 cs k=f:=⟨_,rfl⟩;rw [hc] at hcb HIN HOUT;obtain ⟨y0,y1,y2,y3,y4,y5,y6,y7,y8,y9,y10,y11⟩:=hcb
   simp only at y0 y1 y2 y3 y4 y5 y6 y7 y8 y9 y10 y11
   clear hc hown hbr hb2
   by_cases h7:st=7
   ·subst h7
    have HP:Hid _:=@aW ⟨iss,acq,cur,am,7,rsn,cl,bk,fee,cop,sta,due⟩ rfl
    have HR5:Hid (wr.ownsRow (w.heap.size+1) 3 1 v (Bl (Jp) cs (k+1)).length ((Bl (Jp) cs (k+1)).map (Value.int .i64))):=by
     rw [Hid,HOUT.o HP.o];exact HO.o
    go_wp2
    go_roundw
    case rel=>exact ⟨_,k+1,rfl,by omega,by go_num,HR5.o,HBR.o⟩
    case measure=>simp [intOf];omega
   ·have h7b:(st != 7)=true:=by simpa using h7
    have HP:Hid _:=@Pm ⟨iss,acq,cur,am,st,rsn,cl,bk,fee,cop,sta,due⟩ (by simpa using h7)
    have HLT:Hid (∀ j,v.ownBlock=some j→w.heap.size+1≤j):=fun j hj=>(HO.o.lt j hj).1
    have HSZ:Hid (W.heap.size≤wr.heap.size):=HBR.o.size
    go_wp2_with (at_builtin;refine wpList_append_own _ rfl (.tmp 20) (.tmp 22) 22 rfl (w.heap.size+1) 3 i0 (.int .i64 0) 1 8 underlying22 hi hz0 hz1 hz2 rfl (by decide) _ _ _ rfl (HO.o.alloc _) ⟨wr.heap.size,0,none⟩ 1 1 [.int .i64 (k:Int)] rfl rfl (World.news_of_block (heap_alloc_new wr _)) (Tw _) (by unfold maxLen;omega) (by omega) (by simp;have:=HSZ.o;have:=HWS.o;omega) ?_;intro v5 w5 o5 g5 _)
    have hws:=HWS.o;have hsz:=HSZ.o
    have q5:Below (w.heap.size+1) W w5:=(HBR.o.alloc (by omega) _).grown g5 (by simp;omega) HLT.o
    have HR5:Hid (w5.ownsRow (w.heap.size+1) 3 1 v5 (Bl (Jp) cs (k+1)).length ((Bl (Jp) cs (k+1)).map (Value.int .i64))):=by
     rw [Hid,HIN.o HP.o,List.length_append,List.map_append];exact o5
    clear o5 g5 HO x0 x1 x2 x3 x4 x5 y0 y1 y2 y3 y4 y5 y6 y7 y8 y9 y10 y11 hws hsz;go_wp2
    go_roundw
    case rel=>exact ⟨_,k+1,rfl,by omega,by go_num,HR5.o,q5⟩
    case measure=>simp [intOf];omega
  ·have hke:k=cs.length:=by omega
   subst hke
   have hki:¬ (cs.length:Int)<(cs.length:Int):=by omega
   obtain ⟨va,vk,hva⟩:=Fz hown;subst hva;clear hbr hown;go_wp2;go_ret
   exact ⟨va,vk,rfl,Bi HO.o (by omega),HQ.o _ HBR.o⟩
end Go.Proofs.YtomiclakhjncbaaGreatDoor
