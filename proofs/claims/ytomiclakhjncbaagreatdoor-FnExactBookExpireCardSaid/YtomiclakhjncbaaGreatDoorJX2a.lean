import Derived.Test.YtomiclakhjncbaaGreatDoorJX0a
import Derived.Test.YtomiclakhjncbaaGreatDoorKXCLaw
import Derived.Test.YtomiclakhjncbaaGreatDoorJX1a
import Derived.Lib.AppendZeros
import Derived.Deep.DeepCutAuto
import Derived.Test.YtomiclakhjncbaaGreatDoorKXAuLaw
import Derived.Handy
import Derived.OwnWalk
import Derived.Deep.AppendLies
import Derived.Maps.AppendAt
import Derived.Test.YtomiclakhjncbaaGreatDoorKXOff
import Derived.RangeFuncNested
import Derived.RangeFuncBound
import Derived.RangeFuncCalls
import Derived.RangeFuncLeaves
import Derived.Shelf.Abstract
import Derived.Shelf.RegionOpen
import Derived.WalkKit
import Derived.OwnWalkIn
import Derived.TacticsInMore
import Derived.LoopNIn
import Derived.LoopIn
import Derived.Lib.SliceRun
import Derived.Test.YtomiclakhjncbaaGreatDoorKXFLed2
import Derived.Sort.Grow
import Derived.Maps.RangeWalk
import Derived.Test.YtomiclakhjncbaaGreatDoorKXSLed2
namespace Go.Proofs.YtomiclakhjncbaaGreatDoor
open Go.ChangeShapes Go.WideShapes Go.ChangeAt Go.RowKit Go.Deep Go.Proofs.Tryz
set_option maxRecDepth 100000
set_option maxHeartbeats 12800000
def A8 (cs:List Cs) (k:Nat):Cs:=cs.getD k ⟨0,0,0,0,0,0,0,0,0,false,0,0⟩
theorem bT {cs:List Cs} {k:Nat} (h:k<cs.length):A8 cs k=cs[k]:=by simp [A8,List.getD_eq_getElem?_getD,h]
theorem Xg {cs:List Cs} {k:Nat} (h:k<cs.length):A8 cs k ∈ cs:=by rw [bT h];exact List.getElem_mem h
def A0 (w:World) (ao:Option Addr) (cs:List Cs):Prop :=
 cs=[]∨∃ b off,ao=some ⟨b,off,none⟩∧b<w.heap.size∧∀ i,i<cs.length→CB b (off+i*12) (A8 cs i) w
def U9 (cs:List Cs):Prop:=cs.length≤maxLen∧∀ x ∈ cs,Qk x
theorem A0.below {w w':World} {ao:Option Addr} {cs:List Cs} (h:A0 w ao cs) (hb:BW w w'):A0 w' ao cs:=by
 rcases h with h | ⟨b,off,h1,h2,h3⟩
 ·exact .inl h
 ·exact .inr ⟨b,off,h1,Nat.lt_of_lt_of_le h2 hb.size,fun i hi=>(h3 i hi).below hb⟩
theorem A0.at {w:World} {ao:Option Addr} {cs:List Cs} (h:A0 w ao cs) {k:Nat} (hk:k<cs.length):∃ b off,ao=some ⟨b,off,none⟩∧b<w.heap.size∧CB b (off+k*12) (A8 cs k) w:=by
 rcases h with rfl | ⟨b,off,h1,h2,h3⟩
 ·simp at hk
 ·exact ⟨b,off,h1,h2,h3 k hk⟩
section
variable {P:Program} {H:Type} {enc:TypeId×Value→H} {W:World}
theorem aA {t e:TypeId} {f0 f1 f2 f3 f4 f5 f6 f7 f8 f9 f10 f11:Field} {fuel:Nat} {y:Value} {x:DataW H×List MemPlace} (ht:P.underlying t=some (.slice e)) (he:P.underlying e=some (.struct #[f0,f1,f2,f3,f4,f5,f6,f7,f8,f9,f10,f11])) (ce:P.cellsOf e=12) (o0:f0.offset=0) (o1:f1.offset=1) (o2:f2.offset=2) (o3:f3.offset=3) (o4:f4.offset=4) (o5:f5.offset=5) (o6:f6.offset=6) (o7:f7.offset=7) (o8:f8.offset=8) (o9:f9.offset=9) (o10:f10.offset=10) (o11:f11.offset=11)
  (c0:P.cellsOf f0.type=1) (c1:P.cellsOf f1.type=1) (c2:P.cellsOf f2.type=1) (c3:P.cellsOf f3.type=1) (c4:P.cellsOf f4.type=1) (c5:P.cellsOf f5.type=1) (c6:P.cellsOf f6.type=1) (c7:P.cellsOf f7.type=1) (c8:P.cellsOf f8.type=1) (c9:P.cellsOf f9.type=1) (c10:P.cellsOf f10.type=1) (c11:P.cellsOf f11.type=1) (u0:P.underlying f0.type=some (.int .i64)) (u1:P.underlying f1.type=some (.int .i64)) (u2:P.underlying f2.type=some (.int .i64)) (u3:P.underlying f3.type=some (.int .i64)) (u4:P.underlying f4.type=some (.int .i64)) (u5:P.underlying f5.type=some (.int .i64)) (u6:P.underlying f6.type=some (.int .i64)) (u7:P.underlying f7.type=some (.int .i64)) (u8:P.underlying f8.type=some (.int .i64)) (u9:P.underlying f9.type=some .bool) (u10:P.underlying f10.type=some (.int .i64)) (u11:P.underlying f11.type=some (.int .i64))
  (h:DataW.trod enc P W 0 (fun _=>true) true fuel t [y]=some x):∃ a cap ls,y=.slice a (List.length ls) cap∧A0 W a ls∧U9 ls:=by
 rcases open_slice ht h with ⟨e1,_⟩ | ⟨a,len,cap,m,n,D,Pl,e1,hb,hlc,hm,hmm,_,hx⟩
 ·simp at e1
  exact ⟨none,0,[],by rw [e1];rfl,.inl rfl,Nat.zero_le _,fun f hf=>by cases hf⟩
 ·simp at e1 hmm
  subst hmm
  haveI:Inhabited Cs:=⟨⟨0,0,0,0,0,0,0,0,0,false,0,0⟩⟩
  obtain ⟨F,hF⟩:=choose_lt (α:=Cs) (n:=m) (p:=fun i l=>W.cells? 0 (a.add (i*P.cellsOf e)) (P.cellsOf e)=some (Xt l).toList∧Qk l) (fun i hi=>by
   obtain ⟨cs',g1,g2⟩:=hx i hi;obtain ⟨l,hl,hl2⟩:=Yt he ce o0 o1 o2 o3 o4 o5 o6 o7 o8 o9 o10 o11 c0 c1 c2 c3 c4 c5 c6 c7 c8 c9 c10 c11 u0 u1 u2 u3 u4 u5 u6 u7 u8 u9 u10 u11 g2
   exact ⟨l,by rw [g1,hl];rfl,hl2⟩)
  refine ⟨some a,m,(List.range len).map F,by rw [e1];simp,?_,by rw [List.length_map,List.length_range];exact Nat.le_trans hlc hm,fun f hf=>by
   obtain ⟨i,hi,rfl⟩:=List.mem_map.1 hf
   exact (hF i (by have:=List.mem_range.1 hi;omega)).2⟩
  by_cases hz:len=0
  ·subst hz;exact .inl rfl
  ·have each:∀ i,i<len→∀ j v,((Xt (F i)).toList)[j]?=some v→W.cell? ((a.add (i*12)).add j)=some v:=fun i hi j v hv=>by
     have g:=(hF i (by omega)).1
     rw [ce] at g;obtain ⟨_,_,hcell⟩:=World.cells?_some g
     have:=hcell j (by have:=(List.getElem?_eq_some_iff.1 hv).1;simpa [Xt] using this)
     rw [this];simpa using hv
   obtain ⟨bk,off,spot⟩:=a
   have hc0:=each 0 (by omega) 0 _ rfl
   have hspot:spot=none:=by simpa [Addr.add] using World.cell?_spot hc0
   subst hspot
   refine .inr ⟨bk,off,rfl,?_,fun i hi=>?_⟩
   ·have:=World.block_lt_of_cell? W _ hc0
    simpa [Km] using this
   ·have hi':i<len:=by simpa using hi
    have hat:A8 ((List.range len).map F) i=F i:=by simp [A8,List.getD_eq_getElem?_getD,hi']
    rw [hat];have g0:=each i hi' 0 _ rfl;have g1:=each i hi' 1 _ rfl;have g2:=each i hi' 2 _ rfl;have g3:=each i hi' 3 _ rfl;have g4:=each i hi' 4 _ rfl;have g5:=each i hi' 5 _ rfl;have g6:=each i hi' 6 _ rfl;have g7:=each i hi' 7 _ rfl;have g8:=each i hi' 8 _ rfl;have g9:=each i hi' 9 _ rfl;have g10:=each i hi' 10 _ rfl;have g11:=each i hi' 11 _ rfl;rw [Km] at g0 g1 g2 g3 g4 g5 g6 g7 g8 g9 g10 g11;exact ⟨g0,g1,g2,g3,g4,g5,g6,g7,g8,g9,g10,g11⟩
end
def Aj (cs:List Cs):List Value:=cs.flatMap fun c=>(Xt c).toList
theorem Mm (c:Cs) (r:List Cs):Aj (c::r)=(Xt c).toList++Aj r:=rfl
theorem J5 (a b:List Cs):Aj (a++b)=Aj a++Aj b:=by simp [Aj]
theorem Ge (cs:List Cs):(Aj cs).length=cs.length*12:=by
 induction cs with
 | nil=>rfl
 | cons c r ih=>rw [Mm,List.length_append,ih];simp [Xt];omega
theorem E6 (cs:List Cs):∀ (k j:Nat),k<cs.length→j<12→(Aj cs)[k*12+j]?=(Xt (A8 cs k)).toList[j]?:=by
 induction cs with
 | nil=>intro k j h;simp at h
 | cons c r ih =>
  intro k j hk hj;rw [Mm]
  cases k with
  | zero =>
   rw [List.getElem?_append_left (by simp [Xt];omega)]
   simp [A8]
  | succ k =>
   have hl:(Xt c).toList.length=12:=by simp [Xt]
   rw [List.getElem?_append_right (by rw [hl];omega),hl,show (k+1) * 12+j - 12=k*12+j by omega,ih k j (by simpa using hk) hj]
   simp [A8]
theorem Vx (cs:List Cs):∀ u ∈ Aj cs,u.oneCell'=true:=by
 intro u hu
 simp [Aj,Xt] at hu
 obtain ⟨c,_,h⟩:=hu
 rcases h with rfl | rfl | rfl | rfl | rfl | rfl | rfl | rfl | rfl | rfl | rfl | rfl <;> rfl
theorem F2 {w:World} {base n:Nat} {t:TypeId} {ao:Option Addr} {cap:Nat} {cs:List Cs} (h:w.ownsRow base t 12 (.slice ao n cap) n (Aj cs)):A0 w ao cs:=by
 rcases h.2 with ⟨hv,h0⟩ | ⟨g,cap',cur,hv,hrest⟩
 ·have hl:=h.1
  obtain ⟨rfl,rfl,rfl⟩:ao=none∧n=0∧cap=0:=by simpa using hv
  rw [Ge] at hl
  exact .inl (List.length_eq_zero_iff.1 (by omega))
 ·have hl:=h.1
  rw [Ge] at hl
  obtain ⟨rfl,rfl⟩:ao=some ⟨g,0,none⟩∧cap=cap':=by simpa using hv
  by_cases hz:cs=[]
  ·exact .inl hz
  ·have hlt:=(h.lt g rfl).2
   refine .inr ⟨g,0,rfl,hlt,fun i hi=>?_⟩
   have e:∀ j,j<12→w.cell? ⟨g,0+i*12+j,none⟩=(Xt (A8 cs i)).toList[j]?:=fun j hj=>by
    rw [Nat.zero_add,h.cellAt (i*12+j) (by omega),E6 cs i j hi hj]
   exact ⟨e 0 (by omega),e 1 (by omega),e 2 (by omega),e 3 (by omega),e 4 (by omega),e 5 (by omega),e 6 (by omega),e 7 (by omega),e 8 (by omega),e 9 (by omega),e 10 (by omega),e 11 (by omega)⟩
end Go.Proofs.YtomiclakhjncbaaGreatDoor
namespace Go.Proofs.YtomiclakhjncbaaGreatDoor
open Go.RowKit Go.Proofs.Tryz
set_option maxRecDepth 100000
set_option maxHeartbeats 12800000
theorem Vq (ao:Option Addr) (cap n:Nat) (left:Int) (w:World) (h0:0≤left) (h1:left≤1048576) (hn:n≤9223372036854775807) :
  Calls prog 69 #[.slice ao n cap,.int .i64 left] w fun e w'=>e=.returned (.int .i64 (Fw n left))∧w'=w:=by
 have hw:wrap64 (left - (n:Int))=left - (n:Int):=by unfold wrap64;omega
 by_cases h:left - (n:Int)<0
 ·have e:Fw n left = -1:=if_pos h
  rw [e]
  go_enter func69,ntmps69
  go_wp2;go_ret;exact ⟨rfl,rfl⟩
 ·have e:Fw n left=left - (n:Int):=if_neg h
  rw [e]
  go_enter func69,ntmps69
  go_wp2;go_ret;exact ⟨rfl,rfl⟩
theorem T1 (ao bo:Option Addr) (c1 c2:Nat) (cs:List Cs) (w:World) (hx:A0 w ao cs) (hy:A0 w bo cs) (h1:cs.length≤1099511627776) :
  Calls prog 54 #[.slice ao cs.length c1,.slice bo cs.length c2] w fun e w'=>e=.returned (.bool true)∧BW w w':=by
 have HX:Hid (A0 w ao cs):=hx;have HY:Hid (A0 w bo cs):=hy;clear hx hy
 have nn:((cs.length:Int) != (cs.length:Int))=false:=by simp
 go_enter func54,ntmps54
 go_wp2
 go_loopw [5] (fun i wr=>∃ k:Nat,k≤cs.length∧i=.int .i64 k∧BW w wr) (fun i _=>cs.length - (intOf i).toNat)
 case atStart=>exact ⟨0,Nat.zero_le _,rfl,bR⟩
 case round =>
  obtain ⟨k,hk,rfl,hbr⟩:=hrel;have HBR:Hid (BW w wr):=hbr;clear hbr
  by_cases hlt:k<cs.length
  ·have hki:(k:Int)<(cs.length:Int):=by omega
   obtain ⟨b,off,ha,hb,cx⟩:=A0.at (A0.below HX.o HBR.o) hlt;obtain ⟨d,off2,hb2,hd,cy⟩:=A0.at (A0.below HY.o HBR.o) hlt;subst ha;subst hb2;obtain ⟨⟨iss,acq,cur,am,st,rsn,cl,bk,fee,cop,sta,due⟩,hf⟩:∃ f,A8 cs k=f:=⟨_,rfl⟩;rw [hf] at cx cy;clear hf hb hd;obtain ⟨x0,x1,x2,x3,x4,x5,x6,x7,x8,x9,x10,x11⟩:=cx;obtain ⟨y0,y1,y2,y3,y4,y5,y6,y7,y8,y9,y10,y11⟩:=cy
   simp only at x0 y0 x1 y1 x2 y2 x3 y3 x4 y4 x5 y5 x6 y6 x7 y7 x8 y8 x9 y9 x10 y10 x11 y11
   have hne:=K0 wr;have ox0:=As x0;have oy0:=As y0;have ox1:=As x1;have oy1:=As y1;have ox2:=As x2;have oy2:=As y2;have ox3:=As x3;have oy3:=As y3;have ox4:=As x4;have oy4:=As y4;have ox5:=As x5;have oy5:=As y5;have ox6:=As x6;have oy6:=As y6;have ox7:=As x7;have oy7:=As y7;have ox8:=As x8;have oy8:=As y8;have ox9:=As x9;have oy9:=As y9;have ox10:=As x10;have oy10:=As y10;have ox11:=As x11;have oy11:=As y11
   have HEQ:Hid (∀ z:W7 wr,Calls prog 116 #[.agg #[.int .i64 iss,.int .i64 acq,.int .i64 cur,.int .i64 am,.int .i64 st,.int .i64 rsn,.int .i64 cl,.int .i64 bk,.int .i64 fee,.bool cop,.int .i64 sta,.int .i64 due],.agg #[.int .i64 iss,.int .i64 acq,.int .i64 cur,.int .i64 am,.int .i64 st,.int .i64 rsn,.int .i64 cl,.int .i64 bk,.int .i64 fee,.bool cop,.int .i64 sta,.int .i64 due]] z.x fun e w'=>e=.returned (.bool true)∧Below z.x.heap.size z.x w'):=fun z=>Xm ⟨iss,acq,cur,am,st,rsn,cl,bk,fee,cop,sta,due⟩ z.x
   clear x0 y0 x1 y1 x2 y2 x3 y3 x4 y4 x5 y5 x6 y6 x7 y7 x8 y8 x9 y9 x10 y10 x11 y11;go_upto_region 6 with fail
   refine B6 (by kernel_rfl) (by kernel_rfl) ?_
   repeat (go_big_quiet_step (exact F8 (HEQ.o _)))
   refine wpQuiet_nil ?_;rintro w6 ⟨⟨wz,b6⟩,hw6⟩;subst hw6;have HB6:Hid (BW w w6):=HBR.o.trans (b6.mono HBR.o.size);clear ox0 oy0 ox1 oy1 ox2 oy2 ox3 oy3 ox4 oy4 ox5 oy5 ox6 oy6 ox7 oy7 ox8 oy8 ox9 oy9 ox10 oy10 ox11 oy11 hne HEQ b6;go_wp2
   go_roundw
   case rel=>exact ⟨k+1,by omega,by go_num,HB6.o⟩
   case measure=>simp [intOf];omega
  ·have hki:¬ (k:Int)<(cs.length:Int):=by omega
   go_wp2;go_ret;exact ⟨rfl,HBR.o⟩
structure Bk where
 today:Int
 off:List Int
 az:List Au
 cs:List Cs
 ls:List Ln
 log:Be
structure Bp where
 o:Option Addr
 oc:Nat
 a:Option Addr
 ac:Nat
 c:Option Addr
 cc:Nat
 l:Option Addr
 lc:Nat
 g:Option Addr
 gc:Nat
def C5 (b:Bk) (p:Bp):Value:=.agg #[.int .i64 b.today,.slice p.o b.off.length p.oc,.slice p.a b.az.length p.ac,.slice p.c b.cs.length p.cc,.slice p.l b.ls.length p.lc,.slice p.g b.log.length p.gc]
structure Aq (u:World) (b:Bk) (p:Bp):Prop where
 off:Aw u p.o b.off
 az:Ar u p.a b.az
 cs:A0 u p.c b.cs
 ls:Ai u p.l b.ls
 log:Bh u p.g b.log
theorem Aq.below {u u':World} {b:Bk} {p:Bp} (h:Aq u b p) (hb:BW u u'):Aq u' b p:=⟨h.off.below hb,h.az.below hb,h.cs.below hb,h.ls.below hb,h.log.below hb⟩
def D0 (b:Bk):Prop:=b.off.length≤1048576∧b.az.length≤1048576∧b.cs.length≤1048576∧b.ls.length≤1048576∧b.log.length≤1048576
structure S6 (B:Nat) (b:Bk) (p:Bp) (u:World):Prop where
 c0:u.cell? ⟨B,0,none⟩=some (.int .i64 b.today)
 c1:u.cell? ⟨B,1,none⟩=some (.slice p.o b.off.length p.oc)
 c2:u.cell? ⟨B,2,none⟩=some (.slice p.a b.az.length p.ac)
 c3:u.cell? ⟨B,3,none⟩=some (.slice p.c b.cs.length p.cc)
 c4:u.cell? ⟨B,4,none⟩=some (.slice p.l b.ls.length p.lc)
 c5:u.cell? ⟨B,5,none⟩=some (.slice p.g b.log.length p.gc)
theorem S6.lt {B:Nat} {b:Bk} {p:Bp} {u:World} (h:S6 B b p u):B<u.heap.size:=World.block_lt_of_cell? u _ h.c0
theorem S6.below {B:Nat} {b:Bk} {p:Bp} {u u':World} (h:S6 B b p u) (hb:BW u u'):S6 B b p u':=by
 have l:=h.lt;exact ⟨(hb.cell (p:=⟨B,0,none⟩) l).trans h.c0,(hb.cell (p:=⟨B,1,none⟩) l).trans h.c1,(hb.cell (p:=⟨B,2,none⟩) l).trans h.c2,(hb.cell (p:=⟨B,3,none⟩) l).trans h.c3,(hb.cell (p:=⟨B,4,none⟩) l).trans h.c4,(hb.cell (p:=⟨B,5,none⟩) l).trans h.c5⟩
theorem S6.new (w:World) (b:Bk) (p:Bp) (ty:TypeId):S6 w.heap.size b p (w.alloc (.cells #[.int .i64 b.today,.slice p.o b.off.length p.oc,.slice p.a b.az.length p.ac,.slice p.c b.cs.length p.cc,.slice p.l b.ls.length p.lc,.slice p.g b.log.length p.gc] ty)):=⟨by simp,by simp,by simp,by simp,by simp,by simp⟩
theorem Ow (b:Bk) (p q:Bp) (w:World) (hx:Aq w b p) (hy:Aq w b q) (hn:D0 b) :
  Calls prog 15 #[C5 b p,C5 b q] w fun e w'=>e=.returned (.bool true)∧BW w w':=by
 obtain ⟨W,hW⟩:∃ W,W=(w.alloc (.cells #[.int .i64 b.today,.slice p.o b.off.length p.oc,.slice p.a b.az.length p.ac,.slice p.c b.cs.length p.cc,.slice p.l b.ls.length p.lc,.slice p.g b.log.length p.gc] 31)).alloc (.cells #[.int .i64 b.today,.slice q.o b.off.length q.oc,.slice q.a b.az.length q.ac,.slice q.c b.cs.length q.cc,.slice q.l b.ls.length q.lc,.slice q.g b.log.length q.gc] 31):=⟨_,rfl⟩
 have bW:BW w W:=by rw [hW];go_grown
 have s1:S6 w.heap.size b p W:=by rw [hW];exact (S6.new w b p _).below (bR.alloc nL _)
 have s2:S6 (w.heap.size+1) b q W:=by
  rw [hW];have h:=S6.new (w.alloc (.cells #[.int .i64 b.today,.slice p.o b.off.length p.oc,.slice p.a b.az.length p.ac,.slice p.c b.cs.length p.cc,.slice p.l b.ls.length p.lc,.slice p.g b.log.length p.gc] 31)) b q 31
  simpa using h
 have HW:Hid _:=hW;have HX:Hid (Aq W b p∧Aq W b q):=⟨hx.below bW,hy.below bW⟩;have HBW:Hid (BW w W):=bW;have HS:Hid (S6 w.heap.size b p W∧S6 (w.heap.size+1) b q W):=⟨s1,s2⟩;have HN:Hid (D0 b):=hn;clear hx hy bW hW s1 s2 hn;obtain ⟨td,fo,az,cs,ls,lg⟩:=b;obtain ⟨o,oc,a,ac,c,cc,l,lc,g,gc⟩:=p;obtain ⟨o',oc',a',ac',c',cc',l',lc',g',gc'⟩:=q;unfold C5
 simp only at HW ⊢
 obtain ⟨c0,c1,c2,c3,c4,c5⟩:=HS.o.1;obtain ⟨d0,d1,d2,d3,d4,d5⟩:=HS.o.2
 simp only at c0 c1 c2 c3 c4 c5 d0 d1 d2 d3 d4 d5
 have nt:(td != td)=false:=by simp
 go_enter func15,ntmps15
 go_upto_region 1 with fail
 rw [← HW.o];clear HW;go_wp2_with fail
 refine (aU _ _ _ _ fo fo _ HX.o.1.off HX.o.2.off (by have:=HN.o.1;simp only at this;omega) (by have:=HN.o.1;simp only at this;omega)).mono ?_
 rintro e w1 ⟨rfl,b1⟩;have HX1:Hid _:=And.intro (HX.o.1.below b1) (HX.o.2.below b1);have HS1:Hid _:=And.intro (HS.o.1.below b1) (HS.o.2.below b1);have HB1:Hid (BW w w1):=next HBW.o b1;clear c0 c1 c2 c3 c4 c5 d0 d1 d2 d3 d4 d5 b1 HX HS HBW;obtain ⟨c0,c1,c2,c3,c4,c5⟩:=HS1.o.1;obtain ⟨d0,d1,d2,d3,d4,d5⟩:=HS1.o.2
 simp only at c0 c1 c2 c3 c4 c5 d0 d1 d2 d3 d4 d5
 go_wp2_with fail
 refine (T3 _ _ _ _ az _ HX1.o.1.az HX1.o.2.az (by have:=HN.o.2.1;simp only at this;omega)).mono ?_
 rintro e w2 ⟨rfl,b2⟩;have HX2:Hid _:=And.intro (HX1.o.1.below b2) (HX1.o.2.below b2);have HS2:Hid _:=And.intro (HS1.o.1.below b2) (HS1.o.2.below b2);have HB2:Hid (BW w w2):=next HB1.o b2;clear c0 c1 c2 c3 c4 c5 d0 d1 d2 d3 d4 d5 b2 HX1 HS1 HB1;obtain ⟨c0,c1,c2,c3,c4,c5⟩:=HS2.o.1;obtain ⟨d0,d1,d2,d3,d4,d5⟩:=HS2.o.2
 simp only at c0 c1 c2 c3 c4 c5 d0 d1 d2 d3 d4 d5
 go_wp2_with fail
 refine (T1 _ _ _ _ cs _ HX2.o.1.cs HX2.o.2.cs (by have:=HN.o.2.2.1;simp only at this;omega)).mono ?_
 rintro e w3 ⟨rfl,b3⟩;have HX3:Hid _:=And.intro (HX2.o.1.below b3) (HX2.o.2.below b3);have HS3:Hid _:=And.intro (HS2.o.1.below b3) (HS2.o.2.below b3);have HB3:Hid (BW w w3):=next HB2.o b3;clear c0 c1 c2 c3 c4 c5 d0 d1 d2 d3 d4 d5 b3 HX2 HS2 HB2;obtain ⟨c0,c1,c2,c3,c4,c5⟩:=HS3.o.1;obtain ⟨d0,d1,d2,d3,d4,d5⟩:=HS3.o.2
 simp only at c0 c1 c2 c3 c4 c5 d0 d1 d2 d3 d4 d5
 go_wp2_with fail
 refine (R6 _ _ _ _ ls _ HX3.o.1.ls HX3.o.2.ls (by have:=HN.o.2.2.2.1;simp only at this;omega)).mono ?_
 rintro e w4 ⟨rfl,b4⟩;have HX4:Hid _:=And.intro (HX3.o.1.below b4) (HX3.o.2.below b4);have HS4:Hid _:=And.intro (HS3.o.1.below b4) (HS3.o.2.below b4);have HB4:Hid (BW w w4):=next HB3.o b4;clear c0 c1 c2 c3 c4 c5 d0 d1 d2 d3 d4 d5 b4 HX3 HS3 HB3;obtain ⟨c0,c1,c2,c3,c4,c5⟩:=HS4.o.1;obtain ⟨d0,d1,d2,d3,d4,d5⟩:=HS4.o.2
 simp only at c0 c1 c2 c3 c4 c5 d0 d1 d2 d3 d4 d5
 go_wp2_with fail
 refine (Rr _ _ _ _ lg lg _ HX4.o.1.log HX4.o.2.log (by have:=HN.o.2.2.2.2;simp only at this;omega) (by have:=HN.o.2.2.2.2;simp only at this;omega)).mono ?_
 rintro e w5 ⟨rfl,b5⟩;have HB5:Hid (BW w w5):=next HB4.o b5;clear c0 c1 c2 c3 c4 c5 d0 d1 d2 d3 d4 d5 b5;go_wp2;go_ret;exact ⟨rfl,HB5.o⟩
def zC:Cs:=⟨0,0,0,0,0,0,0,0,0,false,0,0⟩
theorem Pc (cs:List Cs) (c:Cs):∀ k,k<cs.length→(((((((((((((Aj cs).set (k*12) (.int .i64 c.iss)).set (k*12+1) (.int .i64 c.acq)).set (k*12+2) (.int .i64 c.cur)).set (k*12+3) (.int .i64 c.am)).set (k*12+4) (.int .i64 c.st)).set (k*12+5) (.int .i64 c.rsn)).set (k*12+6) (.int .i64 c.cl)).set (k*12+7) (.int .i64 c.bk)).set (k*12+8) (.int .i64 c.fee)).set (k*12+9) (.bool c.cop)).set (k*12+10) (.int .i64 c.sta)).set (k*12+11) (.int .i64 c.due))=Aj (cs.set k c):=by
 induction cs with
 | nil=>intro k h;simp at h
 | cons g r ih =>
  intro k h
  cases k with
  | zero=>rfl
  | succ k =>
   have:=ih k (by simpa using h)
   have e:Aj (g::r)=.int .i64 g.iss::.int .i64 g.acq::.int .i64 g.cur::.int .i64 g.am::.int .i64 g.st::.int .i64 g.rsn::.int .i64 g.cl::.int .i64 g.bk::.int .i64 g.fee::.bool g.cop::.int .i64 g.sta::.int .i64 g.due::Aj r:=rfl
   rw [e,show (k+1) * 12=k*12+1+1+1+1+1+1+1+1+1+1+1+1 by omega,show k*12+1+1+1+1+1+1+1+1+1+1+1+1+1=(k*12+1)+1+1+1+1+1+1+1+1+1+1+1+1 by omega,show k*12+1+1+1+1+1+1+1+1+1+1+1+1+2=(k*12+2)+1+1+1+1+1+1+1+1+1+1+1+1 by omega,show k*12+1+1+1+1+1+1+1+1+1+1+1+1+3=(k*12+3)+1+1+1+1+1+1+1+1+1+1+1+1 by omega,show k*12+1+1+1+1+1+1+1+1+1+1+1+1+4=(k*12+4)+1+1+1+1+1+1+1+1+1+1+1+1 by omega,show k*12+1+1+1+1+1+1+1+1+1+1+1+1+5=(k*12+5)+1+1+1+1+1+1+1+1+1+1+1+1 by omega,show k*12+1+1+1+1+1+1+1+1+1+1+1+1+6=(k*12+6)+1+1+1+1+1+1+1+1+1+1+1+1 by omega,show k*12+1+1+1+1+1+1+1+1+1+1+1+1+7=(k*12+7)+1+1+1+1+1+1+1+1+1+1+1+1 by omega,show k*12+1+1+1+1+1+1+1+1+1+1+1+1+8=(k*12+8)+1+1+1+1+1+1+1+1+1+1+1+1 by omega,show k*12+1+1+1+1+1+1+1+1+1+1+1+1+9=(k*12+9)+1+1+1+1+1+1+1+1+1+1+1+1 by omega,show k*12+1+1+1+1+1+1+1+1+1+1+1+1+10=(k*12+10)+1+1+1+1+1+1+1+1+1+1+1+1 by omega,show k*12+1+1+1+1+1+1+1+1+1+1+1+1+11=(k*12+11)+1+1+1+1+1+1+1+1+1+1+1+1 by omega]
   simp only [List.set_cons_succ,this]
   rfl
def Gq (cs:List Cs) (k:Nat):List Cs:=cs.take k++List.replicate (cs.length - k) zC
theorem Ya (cs:List Cs):Gq cs 0=List.replicate cs.length zC:=by simp [Gq]
theorem gC (cs:List Cs):Gq cs cs.length=cs:=by simp [Gq]
theorem Sf (cs:List Cs) (k:Nat) (h:k≤cs.length):(Gq cs k).length=cs.length:=by simp [Gq];omega
theorem Yk (cs:List Cs) (k:Nat) (h:k<cs.length):(Gq cs k).set k (A8 cs k)=Gq cs (k+1):=by
 unfold Gq
 rw [List.set_append,if_neg (by simp;omega),List.length_take,Nat.min_eq_left (Nat.le_of_lt h),Nat.sub_self,show cs.length - k=cs.length - (k+1)+1 by omega,List.replicate_succ,List.set_cons_zero,List.take_succ_eq_append_getElem h,bT h,List.append_assoc]
 rfl
theorem jQ (cs:List Cs) (k:Nat) (h:k<cs.length):A8 (Gq cs k) k=zC:=by
 simp [A8,Gq,List.getD_eq_getElem?_getD,List.getElem?_append,Nat.min_eq_left (Nat.le_of_lt h),List.getElem?_replicate]
 split <;> rfl
theorem pU:(prog.info? 61).map (fun i=>(i.zero,i.size,i.bytes))=some (some (.agg #[.int .i64 0,.int .i64 0,.int .i64 0,.int .i64 0,.int .i64 0,.int .i64 0,.int .i64 0,.int .i64 0,.int .i64 0,.bool false,.int .i64 0,.int .i64 0]),12,96):=by kernel_rfl
theorem Zz (m:Nat):(madeCells (Value.agg #[.int .i64 0,.int .i64 0,.int .i64 0,.int .i64 0,.int .i64 0,.int .i64 0,.int .i64 0,.int .i64 0,.int .i64 0,.bool false,.int .i64 0,.int .i64 0]).cells (m*12)).toList=Aj (List.replicate m zC):=by
 apply List.ext_getElem?;intro j
 by_cases hj:j<m*12
 ·have hq:j / 12<(List.replicate m zC).length:=by simp;omega
  have ha:A8 (List.replicate m zC) (j / 12)=zC:=by
   simp [A8,List.getD_eq_getElem?_getD,List.getElem?_replicate];split <;> rfl
  have h:=E6 _ (j / 12) (j % 12) hq (by omega)
  rw [ha,show j / 12*12+j % 12=j by omega] at h
  rw [h]
  have hl:(madeCells (Value.agg #[.int .i64 0,.int .i64 0,.int .i64 0,.int .i64 0,.int .i64 0,.int .i64 0,.int .i64 0,.int .i64 0,.int .i64 0,.bool false,.int .i64 0,.int .i64 0]).cells (m*12)).toList[j]?=some ((#[.int .i64 0,.int .i64 0,.int .i64 0,.int .i64 0,.int .i64 0,.int .i64 0,.int .i64 0,.int .i64 0,.int .i64 0,.bool false,.int .i64 0,.int .i64 0]:Array Value)[j % 12]!):=by
   simp [madeCells,hj,Value.cells]
  rw [hl]
  rcases (show j % 12=0∨j % 12=1∨j % 12=2∨j % 12=3∨j % 12=4∨j % 12=5∨j % 12=6∨j % 12=7∨j % 12=8∨j % 12=9∨j % 12=10∨j % 12=11 by omega) with e | e | e | e | e | e | e | e | e | e | e | e <;> rw [e] <;> rfl
 ·rw [List.getElem?_eq_none (by simp [madeCells];omega),List.getElem?_eq_none (by rw [Ge];simp;omega)]
theorem Vn (ao:Option Addr) (cap:Nat) (cs:List Cs) (w:World) (hz:A0 w ao cs) (hn:cs.length≤1048576) :
  Calls prog 74 #[.slice ao cs.length cap] w fun e w'=>e=.returned (.slice (some ⟨w.heap.size,0,none⟩) cs.length cs.length) ∧
   w'.ownsRow w.heap.size 61 12 (.slice (some ⟨w.heap.size,0,none⟩) cs.length cs.length) cs.length (Aj cs)∧BW w w':=by
 obtain ⟨i0,hi,hz0,hz1,hz2⟩:=info_parts pU;have hm0:=Zz cs.length;have HZ:Hid (A0 w ao cs):=hz;clear hz
 go_enter func74,ntmps74
 go_wp2_with (refine wpList_make_full _ rfl (.tmp 6) (.tmp 6) 26 rfl w.heap.size 61 i0 _ 12 underlying26 hi hz0 hz1 .i64 .i64 _ _ cs.length rfl rfl rfl rfl (by rw [hz2];omega) (by unfold maxLen;omega) nL ?_;intro w1 hown hg)
 rw [hm0,← Ya cs] at hown
 have hb1:BW w w1:=bR.grown hg nL (fun k hk=>by cases hk)
 clear hm0 hg
 go_loopw [4] (fun i wr=>∃ k:Nat,k≤cs.length∧i=.int .i64 k∧wr.ownsRow w.heap.size 61 12 (.slice (some ⟨w.heap.size,0,none⟩) cs.length cs.length) cs.length (Aj (Gq cs k))∧BW w wr) (fun i _=>cs.length - (intOf i).toNat)
 case atStart=>exact ⟨0,Nat.zero_le _,rfl,hown,hb1⟩
 case round =>
  obtain ⟨k,hk,rfl,ho,hbr⟩:=hrel;clear hown hb1
  by_cases hlt:k<cs.length
  ·have hki:(k:Int)<(cs.length:Int):=by omega
   obtain ⟨b,off,ha,hb,cx⟩:=A0.at (A0.below HZ.o hbr) hlt;subst ha;have HS:Hid _:=Yk cs k hlt
   have HT:Hid _:=Pc (Gq cs k) (A8 cs k) k (by rw [Sf cs k hk];exact hlt)
   have HA:Hid _:=jQ cs k hlt;obtain ⟨⟨iss,acq,cur,am,st,rsn,cl,bk,fee,cop,sta,due⟩,hf⟩:∃ f,A8 cs k=f:=⟨_,rfl⟩;rw [hf] at cx HS HT;obtain ⟨x0,x1,x2,x3,x4,x5,x6,x7,x8,x9,x10,x11⟩:=cx
   simp only at x0 x1 x2 x3 x4 x5 x6 x7 x8 x9 x10 x11 HT
   have HO:Hid (wr.ownsRow w.heap.size 61 12 (.slice (some ⟨w.heap.size,0,none⟩) cs.length cs.length) cs.length (Aj (Gq cs k))):=ho;have HBR:Hid (BW w wr):=hbr
   have HTC:Hid (∀ u,Calls prog 125 #[.agg #[.int .i64 iss,.int .i64 acq,.int .i64 cur,.int .i64 am,.int .i64 st,.int .i64 rsn,.int .i64 cl,.int .i64 bk,.int .i64 fee,.bool cop,.int .i64 sta,.int .i64 due]] u fun e w'=>e=.returned (.agg #[.int .i64 iss,.int .i64 acq,.int .i64 cur,.int .i64 am,.int .i64 st,.int .i64 rsn,.int .i64 cl,.int .i64 bk,.int .i64 fee,.bool cop,.int .i64 sta,.int .i64 due])∧BW u w'):=fun u=>Zp ⟨iss,acq,cur,am,st,rsn,cl,bk,fee,cop,sta,due⟩ u
   clear hf ho hbr hb;go_wp2_with fail
   refine (HTC.o _).mono ?_;rintro e w2 ⟨rfl,b2⟩;have ho:=Av HO.o b2
   have hat:∀ j,j<12→(Aj (Gq cs k))[k*12+j]?=(Xt zC).toList[j]?:=fun j hj=>by rw [E6 _ k j (by rw [Sf cs k hk];exact hlt) hj,HA.o]
   have y0:w2.cell? ⟨w.heap.size,k*12,none⟩=some (.int .i64 0):=by rw [ho.cellAt (k*12) (by omega)];exact hat 0 (by omega)
   have z0:w2.frozen? ⟨w.heap.size,k*12,none⟩=false:=ho.frozenAt _
   have y1:w2.cell? ⟨w.heap.size,k*12+1,none⟩=some (.int .i64 0):=by rw [ho.cellAt (k*12+1) (by omega)];exact hat 1 (by omega)
   have z1:w2.frozen? ⟨w.heap.size,k*12+1,none⟩=false:=ho.frozenAt _
   have y2:w2.cell? ⟨w.heap.size,k*12+2,none⟩=some (.int .i64 0):=by rw [ho.cellAt (k*12+2) (by omega)];exact hat 2 (by omega)
   have z2:w2.frozen? ⟨w.heap.size,k*12+2,none⟩=false:=ho.frozenAt _
   have y3:w2.cell? ⟨w.heap.size,k*12+3,none⟩=some (.int .i64 0):=by rw [ho.cellAt (k*12+3) (by omega)];exact hat 3 (by omega)
   have z3:w2.frozen? ⟨w.heap.size,k*12+3,none⟩=false:=ho.frozenAt _
   have y4:w2.cell? ⟨w.heap.size,k*12+4,none⟩=some (.int .i64 0):=by rw [ho.cellAt (k*12+4) (by omega)];exact hat 4 (by omega)
   have z4:w2.frozen? ⟨w.heap.size,k*12+4,none⟩=false:=ho.frozenAt _
   have y5:w2.cell? ⟨w.heap.size,k*12+5,none⟩=some (.int .i64 0):=by rw [ho.cellAt (k*12+5) (by omega)];exact hat 5 (by omega)
   have z5:w2.frozen? ⟨w.heap.size,k*12+5,none⟩=false:=ho.frozenAt _
   have y6:w2.cell? ⟨w.heap.size,k*12+6,none⟩=some (.int .i64 0):=by rw [ho.cellAt (k*12+6) (by omega)];exact hat 6 (by omega)
   have z6:w2.frozen? ⟨w.heap.size,k*12+6,none⟩=false:=ho.frozenAt _
   have y7:w2.cell? ⟨w.heap.size,k*12+7,none⟩=some (.int .i64 0):=by rw [ho.cellAt (k*12+7) (by omega)];exact hat 7 (by omega)
   have z7:w2.frozen? ⟨w.heap.size,k*12+7,none⟩=false:=ho.frozenAt _
   have y8:w2.cell? ⟨w.heap.size,k*12+8,none⟩=some (.int .i64 0):=by rw [ho.cellAt (k*12+8) (by omega)];exact hat 8 (by omega)
   have z8:w2.frozen? ⟨w.heap.size,k*12+8,none⟩=false:=ho.frozenAt _
   have y9:w2.cell? ⟨w.heap.size,k*12+9,none⟩=some (.bool false):=by rw [ho.cellAt (k*12+9) (by omega)];exact hat 9 (by omega)
   have z9:w2.frozen? ⟨w.heap.size,k*12+9,none⟩=false:=ho.frozenAt _
   have y10:w2.cell? ⟨w.heap.size,k*12+10,none⟩=some (.int .i64 0):=by rw [ho.cellAt (k*12+10) (by omega)];exact hat 10 (by omega)
   have z10:w2.frozen? ⟨w.heap.size,k*12+10,none⟩=false:=ho.frozenAt _
   have y11:w2.cell? ⟨w.heap.size,k*12+11,none⟩=some (.int .i64 0):=by rw [ho.cellAt (k*12+11) (by omega)];exact hat 11 (by omega)
   have z11:w2.frozen? ⟨w.heap.size,k*12+11,none⟩=false:=ho.frozenAt _
   have HR:Hid (((((((((((((w2.setCell ⟨w.heap.size,k*12,none⟩ (.int .i64 iss)).setCell ⟨w.heap.size,k*12+1,none⟩ (.int .i64 acq)).setCell ⟨w.heap.size,k*12+2,none⟩ (.int .i64 cur)).setCell ⟨w.heap.size,k*12+3,none⟩ (.int .i64 am)).setCell ⟨w.heap.size,k*12+4,none⟩ (.int .i64 st)).setCell ⟨w.heap.size,k*12+5,none⟩ (.int .i64 rsn)).setCell ⟨w.heap.size,k*12+6,none⟩ (.int .i64 cl)).setCell ⟨w.heap.size,k*12+7,none⟩ (.int .i64 bk)).setCell ⟨w.heap.size,k*12+8,none⟩ (.int .i64 fee)).setCell ⟨w.heap.size,k*12+9,none⟩ (.bool cop)).setCell ⟨w.heap.size,k*12+10,none⟩ (.int .i64 sta)).setCell ⟨w.heap.size,k*12+11,none⟩ (.int .i64 due)).ownsRow w.heap.size 61 12 (.slice (some ⟨w.heap.size,0,none⟩) cs.length cs.length) cs.length (Aj (Gq cs (k+1)))):=by
    have R:=((((((((((((ho.stored (k*12) (.int .i64 iss)).1.stored (k*12+1) (.int .i64 acq)).1.stored (k*12+2) (.int .i64 cur)).1.stored (k*12+3) (.int .i64 am)).1.stored (k*12+4) (.int .i64 st)).1.stored (k*12+5) (.int .i64 rsn)).1.stored (k*12+6) (.int .i64 cl)).1.stored (k*12+7) (.int .i64 bk)).1.stored (k*12+8) (.int .i64 fee)).1.stored (k*12+9) (.bool cop)).1.stored (k*12+10) (.int .i64 sta)).1.stored (k*12+11) (.int .i64 due)).1;rw [HT.o,HS.o] at R;exact R
   have HBB:Hid (Below w.heap.size w ((((((((((((w2.setCell ⟨w.heap.size,k*12,none⟩ (.int .i64 iss)).setCell ⟨w.heap.size,k*12+1,none⟩ (.int .i64 acq)).setCell ⟨w.heap.size,k*12+2,none⟩ (.int .i64 cur)).setCell ⟨w.heap.size,k*12+3,none⟩ (.int .i64 am)).setCell ⟨w.heap.size,k*12+4,none⟩ (.int .i64 st)).setCell ⟨w.heap.size,k*12+5,none⟩ (.int .i64 rsn)).setCell ⟨w.heap.size,k*12+6,none⟩ (.int .i64 cl)).setCell ⟨w.heap.size,k*12+7,none⟩ (.int .i64 bk)).setCell ⟨w.heap.size,k*12+8,none⟩ (.int .i64 fee)).setCell ⟨w.heap.size,k*12+9,none⟩ (.bool cop)).setCell ⟨w.heap.size,k*12+10,none⟩ (.int .i64 sta)).setCell ⟨w.heap.size,k*12+11,none⟩ (.int .i64 due))):=(((((((((((((HBR.o.trans (b2.mono HBR.o.size)).setCell nL _).setCell nL _).setCell nL _).setCell nL _).setCell nL _).setCell nL _).setCell nL _).setCell nL _).setCell nL _).setCell nL _).setCell nL _).setCell nL _);clear ho hat b2 HS HT HA HO HBR x0 x1 x2 x3 x4 x5 x6 x7 x8 x9 x10 x11;go_wp2
   go_roundw
   case rel=>exact ⟨k+1,by omega,by go_num,HR.o,HBB.o⟩
   case measure=>simp [intOf];omega
  ·have:k=cs.length:=by omega
   subst this;rw [gC] at ho;go_wp2;go_ret;exact ⟨rfl,ho,hbr⟩
structure Z6 (B:Nat) (v0 v1 v2 v3 v4 v5:Value) (u:World):Prop where
 c0:u.cell? ⟨B,0,none⟩=some v0
 c1:u.cell? ⟨B,1,none⟩=some v1
 c2:u.cell? ⟨B,2,none⟩=some v2
 c3:u.cell? ⟨B,3,none⟩=some v3
 c4:u.cell? ⟨B,4,none⟩=some v4
 c5:u.cell? ⟨B,5,none⟩=some v5
 z0:u.frozen? ⟨B,0,none⟩=false
 z1:u.frozen? ⟨B,1,none⟩=false
 z2:u.frozen? ⟨B,2,none⟩=false
 z3:u.frozen? ⟨B,3,none⟩=false
 z4:u.frozen? ⟨B,4,none⟩=false
 z5:u.frozen? ⟨B,5,none⟩=false
theorem Z6.lt {B:Nat} {v0 v1 v2 v3 v4 v5:Value} {u:World} (h:Z6 B v0 v1 v2 v3 v4 v5 u):B<u.heap.size:=World.block_lt_of_cell? u _ h.c0
theorem Z6.below {B:Nat} {v0 v1 v2 v3 v4 v5:Value} {u u':World} (h:Z6 B v0 v1 v2 v3 v4 v5 u) (b:BW u u'):Z6 B v0 v1 v2 v3 v4 v5 u':=by
 have l:=h.lt;exact ⟨(b.cell (p:=⟨B,0,none⟩) l).trans h.c0,(b.cell (p:=⟨B,1,none⟩) l).trans h.c1,(b.cell (p:=⟨B,2,none⟩) l).trans h.c2,(b.cell (p:=⟨B,3,none⟩) l).trans h.c3,(b.cell (p:=⟨B,4,none⟩) l).trans h.c4,(b.cell (p:=⟨B,5,none⟩) l).trans h.c5,(b.frozen (p:=⟨B,0,none⟩) l).trans h.z0,(b.frozen (p:=⟨B,1,none⟩) l).trans h.z1,(b.frozen (p:=⟨B,2,none⟩) l).trans h.z2,(b.frozen (p:=⟨B,3,none⟩) l).trans h.z3,(b.frozen (p:=⟨B,4,none⟩) l).trans h.z4,(b.frozen (p:=⟨B,5,none⟩) l).trans h.z5⟩
theorem Z6.far {B B' i:Nat} {v0 v1 v2 v3 v4 v5:Value} {u:World} {x:Value} (h:Z6 B v0 v1 v2 v3 v4 v5 u) (hne:B'≠B):Z6 B v0 v1 v2 v3 v4 v5 (u.setCell ⟨B',i,none⟩ x):=by
 have l:=h.lt
 have gr:u.grownBy (u.setCell ⟨B',i,none⟩ x) (some B'):=⟨rfl,rfl,rfl,by simp,fun j _ hj=>Below.heap_setCell _ _ _ _ (fun e=>hj (by rw [e]))⟩
 have hs:some B≠some B':=fun e=>hne (by injection e with e;exact e.symm)
 exact ⟨(gr.cell_far ⟨B,0,none⟩ l hs).trans h.c0,(gr.cell_far ⟨B,1,none⟩ l hs).trans h.c1,(gr.cell_far ⟨B,2,none⟩ l hs).trans h.c2,(gr.cell_far ⟨B,3,none⟩ l hs).trans h.c3,(gr.cell_far ⟨B,4,none⟩ l hs).trans h.c4,(gr.cell_far ⟨B,5,none⟩ l hs).trans h.c5,by simp [h.z0],by simp [h.z1],by simp [h.z2],by simp [h.z3],by simp [h.z4],by simp [h.z5]⟩
theorem Z6.set0 {B:Nat} {v0 v1 v2 v3 v4 v5:Value} {u:World} (h:Z6 B v0 v1 v2 v3 v4 v5 u) (x:Value):Z6 B x v1 v2 v3 v4 v5 (u.setCell ⟨B,0,none⟩ x):=by
 obtain ⟨c0,c1,c2,c3,c4,c5,z0,z1,z2,z3,z4,z5⟩:=h
 constructor<;>simp [go_sem, *]
theorem Z6.set1 {B:Nat} {v0 v1 v2 v3 v4 v5:Value} {u:World} (h:Z6 B v0 v1 v2 v3 v4 v5 u) (x:Value):Z6 B v0 x v2 v3 v4 v5 (u.setCell ⟨B,1,none⟩ x):=by
 obtain ⟨c0,c1,c2,c3,c4,c5,z0,z1,z2,z3,z4,z5⟩:=h
 constructor<;>simp [go_sem, *]
theorem Z6.set2 {B:Nat} {v0 v1 v2 v3 v4 v5:Value} {u:World} (h:Z6 B v0 v1 v2 v3 v4 v5 u) (x:Value):Z6 B v0 v1 x v3 v4 v5 (u.setCell ⟨B,2,none⟩ x):=by
 obtain ⟨c0,c1,c2,c3,c4,c5,z0,z1,z2,z3,z4,z5⟩:=h
 constructor<;>simp [go_sem, *]
theorem Z6.set3 {B:Nat} {v0 v1 v2 v3 v4 v5:Value} {u:World} (h:Z6 B v0 v1 v2 v3 v4 v5 u) (x:Value):Z6 B v0 v1 v2 x v4 v5 (u.setCell ⟨B,3,none⟩ x):=by
 obtain ⟨c0,c1,c2,c3,c4,c5,z0,z1,z2,z3,z4,z5⟩:=h
 constructor<;>simp [go_sem, *]
theorem Z6.set4 {B:Nat} {v0 v1 v2 v3 v4 v5:Value} {u:World} (h:Z6 B v0 v1 v2 v3 v4 v5 u) (x:Value):Z6 B v0 v1 v2 v3 x v5 (u.setCell ⟨B,4,none⟩ x):=by
 obtain ⟨c0,c1,c2,c3,c4,c5,z0,z1,z2,z3,z4,z5⟩:=h
 constructor<;>simp [go_sem, *]
theorem Z6.set5 {B:Nat} {v0 v1 v2 v3 v4 v5:Value} {u:World} (h:Z6 B v0 v1 v2 v3 v4 v5 u) (x:Value):Z6 B v0 v1 v2 v3 v4 x (u.setCell ⟨B,5,none⟩ x):=by
 obtain ⟨c0,c1,c2,c3,c4,c5,z0,z1,z2,z3,z4,z5⟩:=h
 constructor<;>simp [go_sem, *]
theorem Z6.new (w:World) (v0 v1 v2 v3 v4 v5:Value) (ty:TypeId):Z6 w.heap.size v0 v1 v2 v3 v4 v5 (w.alloc (.cells #[v0,v1,v2,v3,v4,v5] ty)) :=
 ⟨by simp,by simp,by simp,by simp,by simp,by simp,by simp [go_sem],by simp [go_sem],by simp [go_sem],by simp [go_sem],by simp [go_sem],by simp [go_sem]⟩
structure Ih (base:Nat) (b:Bk) (q:Bp) (u:World):Prop where
 off:u.ownsRow base 3 1 (.slice q.o b.off.length q.oc) b.off.length (b.off.map (Value.int .i64))
 az:u.ownsRow base 107 6 (.slice q.a b.az.length q.ac) b.az.length (Ah b.az)
 cs:u.ownsRow base 61 12 (.slice q.c b.cs.length q.cc) b.cs.length (Aj b.cs)
 ls:u.ownsRow base 113 3 (.slice q.l b.ls.length q.lc) b.ls.length (Ag b.ls)
 log:u.ownsRow base 9 1 (.slice q.g b.log.length q.gc) b.log.length (Am b.log)
 apart:∃ g1 g2 g3 g4 g5,q.o=some ⟨g1,0,none⟩∧q.a=some ⟨g2,0,none⟩∧q.c=some ⟨g3,0,none⟩∧q.l=some ⟨g4,0,none⟩∧q.g=some ⟨g5,0,none⟩∧g1<g2∧g2<g3∧g3<g4∧g4<g5
theorem Ih.below {base:Nat} {b:Bk} {q:Bp} {u u':World} (h:Ih base b q u) (hb:BW u u'):Ih base b q u':=⟨Av h.off hb,Av h.az hb,Av h.cs hb,Av h.ls hb,Av h.log hb,h.apart⟩
theorem Ih.at {base:Nat} {b:Bk} {q:Bp} {u:World} (h:Ih base b q u):Aq u b q:=⟨Hq h.off,Fd h.az,F2 h.cs,Df h.ls,Ep h.log⟩
abbrev Z0(R:Nat)(u:World):Prop:=Z6 R (.int .i64 0) (.slice none 0 0) (.slice none 0 0) (.slice none 0 0) (.slice none 0 0) (.slice none 0 0) u
abbrev ZQ(X:Nat)(b:Bk)(q:Bp)(u:World):Prop:=Z6 X (.int .i64 b.today) (.slice q.o b.off.length q.oc) (.slice q.a b.az.length q.ac) (.slice q.c b.cs.length q.cc) (.slice q.l b.ls.length q.lc) (.slice q.g b.log.length q.gc) u
theorem S6.under {s B:Nat} {b:Bk} {p:Bp} {u u':World} (h:S6 s b p u) (hb:Below B u u') (l:s<B):S6 s b p u' :=
 ⟨(hb.cell (p:=⟨s,0,none⟩) l).trans h.c0,(hb.cell (p:=⟨s,1,none⟩) l).trans h.c1,(hb.cell (p:=⟨s,2,none⟩) l).trans h.c2,(hb.cell (p:=⟨s,3,none⟩) l).trans h.c3,(hb.cell (p:=⟨s,4,none⟩) l).trans h.c4,(hb.cell (p:=⟨s,5,none⟩) l).trans h.c5⟩
theorem Z6.under {s B:Nat} {v0 v1 v2 v3 v4 v5:Value} {u u':World} (h:Z6 s v0 v1 v2 v3 v4 v5 u) (hb:Below B u u') (l:s<B):Z6 s v0 v1 v2 v3 v4 v5 u' :=
 ⟨(hb.cell (p:=⟨s,0,none⟩) l).trans h.c0,(hb.cell (p:=⟨s,1,none⟩) l).trans h.c1,(hb.cell (p:=⟨s,2,none⟩) l).trans h.c2,(hb.cell (p:=⟨s,3,none⟩) l).trans h.c3,(hb.cell (p:=⟨s,4,none⟩) l).trans h.c4,(hb.cell (p:=⟨s,5,none⟩) l).trans h.c5,(hb.frozen (p:=⟨s,0,none⟩) l).trans h.z0,(hb.frozen (p:=⟨s,1,none⟩) l).trans h.z1,(hb.frozen (p:=⟨s,2,none⟩) l).trans h.z2,(hb.frozen (p:=⟨s,3,none⟩) l).trans h.z3,(hb.frozen (p:=⟨s,4,none⟩) l).trans h.z4,(hb.frozen (p:=⟨s,5,none⟩) l).trans h.z5⟩
theorem Ti (u:World) (h i:Nat) (x:Value):Below h u (u.setCell ⟨h,i,none⟩ x):=Below.setCell (p:=⟨h,i,none⟩) (Below.refl h u) (Nat.le_refl h) x
theorem Ad {u:World} {base n size B i:Nat} {t:TypeId} {v x:Value} {xs:List Value} (o:u.ownsRow base t size v n xs) (hB:B<base):(u.setCell ⟨B,i,none⟩ x).ownsRow base t size v n xs :=
 o.kept (row:=some B) ⟨rfl,rfl,rfl,by simp,fun j _ hj=>Below.heap_setCell _ _ _ _ (fun e=>hj (by rw [e]))⟩ (.inr fun h=>by have:=(o.lt _ h).1;omega)
theorem aZ (b:Bk) (p:Bp) (w:World) (hx:Aq w b p) (hn:D0 b) :
  Calls prog 26 #[C5 b p] w fun e w'=>∃ q,e=.returned (C5 b q)∧Ih w.heap.size b q w'∧BW w w':=by
 obtain ⟨W,hW⟩:∃ W,W=((w.alloc (.cells #[.int .i64 b.today,.slice p.o b.off.length p.oc,.slice p.a b.az.length p.ac,.slice p.c b.cs.length p.cc,.slice p.l b.ls.length p.lc,.slice p.g b.log.length p.gc] 50)).alloc (.cells #[.int .i64 0,.slice none 0 0,.slice none 0 0,.slice none 0 0,.slice none 0 0,.slice none 0 0] 31)).alloc (.cells #[.int .i64 0,.slice none 0 0,.slice none 0 0,.slice none 0 0,.slice none 0 0,.slice none 0 0] 31):=⟨_,rfl⟩
 have bW:BW w W:=by rw [hW];go_grown
 have hWs:W.heap.size=w.heap.size+3:=by rw [hW];simp
 have pb:∀ (u:World) (o:Obj),Below u.heap.size u (u.alloc o):=fun u o=>bR.alloc nL _
 have s1:S6 w.heap.size b p W:=by rw [hW];exact ((S6.new w b p _).below (pb _ _)).below (pb _ _)
 have s2:Z6 (w.heap.size+1) (.int .i64 0) (.slice none 0 0) (.slice none 0 0) (.slice none 0 0) (.slice none 0 0) (.slice none 0 0) W:=by
  rw [hW];have h:=(Z6.new (w.alloc (.cells #[.int .i64 b.today,.slice p.o b.off.length p.oc,.slice p.a b.az.length p.ac,.slice p.c b.cs.length p.cc,.slice p.l b.ls.length p.lc,.slice p.g b.log.length p.gc] 50)) (.int .i64 0) (.slice none 0 0) (.slice none 0 0) (.slice none 0 0) (.slice none 0 0) (.slice none 0 0) 31).below (pb _ (.cells #[.int .i64 0,.slice none 0 0,.slice none 0 0,.slice none 0 0,.slice none 0 0,.slice none 0 0] 31))
  simpa only [World.size_alloc] using h
 have s3:Z6 (w.heap.size+1+1) (.int .i64 0) (.slice none 0 0) (.slice none 0 0) (.slice none 0 0) (.slice none 0 0) (.slice none 0 0) W:=by
  rw [hW];have h:=Z6.new ((w.alloc (.cells #[.int .i64 b.today,.slice p.o b.off.length p.oc,.slice p.a b.az.length p.ac,.slice p.c b.cs.length p.cc,.slice p.l b.ls.length p.lc,.slice p.g b.log.length p.gc] 50)).alloc (.cells #[.int .i64 0,.slice none 0 0,.slice none 0 0,.slice none 0 0,.slice none 0 0,.slice none 0 0] 31)) (.int .i64 0) (.slice none 0 0) (.slice none 0 0) (.slice none 0 0) (.slice none 0 0) (.slice none 0 0) 31
  simpa only [World.size_alloc] using h
 have HW:Hid _:=hW;have HX:Hid (Aq w b p):=hx;have HBA:Hid (BW w W):=bW;have HSA:Hid (S6 w.heap.size b p W):=s1;have HZA:Hid (Z6 (w.heap.size+1) (.int .i64 0) (.slice none 0 0) (.slice none 0 0) (.slice none 0 0) (.slice none 0 0) (.slice none 0 0) W):=s2;have HTA:Hid (Z6 (w.heap.size+1+1) (.int .i64 0) (.slice none 0 0) (.slice none 0 0) (.slice none 0 0) (.slice none 0 0) (.slice none 0 0) W):=s3
 have HGA:Hid (w.heap.size+3≤W.heap.size):=by rw [Hid,hWs];exact nL
 have HN:Hid (D0 b):=hn;clear hx bW hW s1 s2 s3 hWs pb hn;obtain ⟨td,fo,az,cs,ls,lg⟩:=b;obtain ⟨o,oc,a,ac,c,cc,l,lc,g,gc⟩:=p;unfold C5
 simp only at HW ⊢
 have f0:=HSA.o.c0;have t0:=HTA.o.c0;have y0:=HTA.o.z0
 simp only at f0
 go_enter func26,ntmps26
 go_upto_region 2 with fail
 rw [← HW.o];clear HW;go_upto_region 3 with fail
 have bs:Below (w.heap.size+1+1) W (W.setCell ⟨w.heap.size+1+1,0,none⟩ (.int .i64 td)):=Ti _ _ _ _
 have HBB:Hid (Below w.heap.size w (W.setCell ⟨w.heap.size+1+1,0,none⟩ (.int .i64 td))):=HBA.o.setCell (show w.heap.size≤w.heap.size+1+1 by omega) _
 have HSB:Hid (S6 w.heap.size ⟨td,fo,az,cs,ls,lg⟩ ⟨o,oc,a,ac,c,cc,l,lc,g,gc⟩ (W.setCell ⟨w.heap.size+1+1,0,none⟩ (.int .i64 td))):=HSA.o.under bs (by omega)
 have HZB:Hid (Z6 (w.heap.size+1) (.int .i64 0) (.slice none 0 0) (.slice none 0 0) (.slice none 0 0) (.slice none 0 0) (.slice none 0 0) (W.setCell ⟨w.heap.size+1+1,0,none⟩ (.int .i64 td))):=HZA.o.under bs (by omega)
 have HTB:Hid (Z6 (w.heap.size+1+1) (.int .i64 td) (.slice none 0 0) (.slice none 0 0) (.slice none 0 0) (.slice none 0 0) (.slice none 0 0) (W.setCell ⟨w.heap.size+1+1,0,none⟩ (.int .i64 td))):=HTA.o.set0 _
 have HGB:Hid (w.heap.size+3≤(W.setCell ⟨w.heap.size+1+1,0,none⟩ (.int .i64 td)).heap.size):=by rw [Hid];have:=HGA.o;simp;omega
 clear bs f0 t0 y0 HBA HSA HZA HTA HGA 
 generalize (W.setCell ⟨w.heap.size+1+1,0,none⟩ (.int .i64 td))=uB at HBB HSB HZB HTB HGB ⊢
 have f1:=HSB.o.c1;have t1:=HTB.o.c1;have y1:=HTB.o.z1
 simp only at f1
 go_wp2_with fail
 refine (aM _ _ fo _ (HX.o.below HBB.o).off (by have:=HN.o.1;simp only at this;omega)).mono ?_
 rintro e uCm ⟨rfl,o1,b1⟩;obtain ⟨g1,hg1⟩:∃ x,x=uB.heap.size:=⟨_,rfl⟩;rw [← hg1] at o1 ⊢;have HBCm:Hid (BW w uCm):=next HBB.o b1;have HSCm:Hid (S6 w.heap.size ⟨td,fo,az,cs,ls,lg⟩ ⟨o,oc,a,ac,c,cc,l,lc,g,gc⟩ uCm):=HSB.o.below b1;have HZCm:Hid (Z6 (w.heap.size+1) (.int .i64 0) (.slice none 0 0) (.slice none 0 0) (.slice none 0 0) (.slice none 0 0) (.slice none 0 0) uCm):=HZB.o.below b1;have HTCm:Hid (Z6 (w.heap.size+1+1) (.int .i64 td) (.slice none 0 0) (.slice none 0 0) (.slice none 0 0) (.slice none 0 0) (.slice none 0 0) uCm):=HTB.o.below b1;have HGCm:Hid (w.heap.size+3≤uCm.heap.size):=Nat.le_trans HGB.o b1.size
 have HL1:Hid (uB.heap.size≤g1∧g1<uCm.heap.size):=by
  rw [Hid];have hlt:=o1.lt g1 rfl
  omega
 have HM1:Hid (uCm.heap.size≤uCm.heap.size):=nL
 have R1Cm:Hid (uCm.ownsRow (w.heap.size+3) 3 1 (.slice (some ⟨g1,0,none⟩) fo.length fo.length) fo.length (fo.map (Value.int .i64))):=Bi o1 (by have:=HGB.o;omega)
 clear t1 y1 f1 o1 hg1 HM1 HBB HSB HZB HTB HGB ;have f1:=HSCm.o.c1;have t1:=HTCm.o.c1;have y1:=HTCm.o.z1;go_upto_region 4 with fail
 have HQ1:Hid (uCm.heap.size≤uCm.heap.size):=nL;have bs:Below (w.heap.size+1+1) uCm (uCm.setCell ⟨w.heap.size+1+1,1,none⟩ (.slice (some ⟨g1,0,none⟩) fo.length fo.length)):=Ti _ _ _ _
 have HBC:Hid (Below w.heap.size w (uCm.setCell ⟨w.heap.size+1+1,1,none⟩ (.slice (some ⟨g1,0,none⟩) fo.length fo.length))):=HBCm.o.setCell (show w.heap.size≤w.heap.size+1+1 by omega) _
 have HSC:Hid (S6 w.heap.size ⟨td,fo,az,cs,ls,lg⟩ ⟨o,oc,a,ac,c,cc,l,lc,g,gc⟩ (uCm.setCell ⟨w.heap.size+1+1,1,none⟩ (.slice (some ⟨g1,0,none⟩) fo.length fo.length))):=HSCm.o.under bs (by omega)
 have HZC:Hid (Z6 (w.heap.size+1) (.int .i64 0) (.slice none 0 0) (.slice none 0 0) (.slice none 0 0) (.slice none 0 0) (.slice none 0 0) (uCm.setCell ⟨w.heap.size+1+1,1,none⟩ (.slice (some ⟨g1,0,none⟩) fo.length fo.length))):=HZCm.o.under bs (by omega)
 have HTC:Hid (Z6 (w.heap.size+1+1) (.int .i64 td) (.slice (some ⟨g1,0,none⟩) fo.length fo.length) (.slice none 0 0) (.slice none 0 0) (.slice none 0 0) (.slice none 0 0) (uCm.setCell ⟨w.heap.size+1+1,1,none⟩ (.slice (some ⟨g1,0,none⟩) fo.length fo.length))):=HTCm.o.set1 _
 have HGC:Hid (w.heap.size+3≤(uCm.setCell ⟨w.heap.size+1+1,1,none⟩ (.slice (some ⟨g1,0,none⟩) fo.length fo.length)).heap.size):=by rw [Hid];have:=HGCm.o;simp;omega
 have R1C:Hid ((uCm.setCell ⟨w.heap.size+1+1,1,none⟩ (.slice (some ⟨g1,0,none⟩) fo.length fo.length)).ownsRow (w.heap.size+3) 3 1 (.slice (some ⟨g1,0,none⟩) fo.length fo.length) fo.length (fo.map (Value.int .i64))):=Ad R1Cm.o (by omega)
 have HE1:Hid ((uCm.setCell ⟨w.heap.size+1+1,1,none⟩ (.slice (some ⟨g1,0,none⟩) fo.length fo.length)).heap.size=uCm.heap.size):=by simp [Hid]
 clear HQ1 bs f1 t1 y1 HBCm HSCm HZCm HTCm HGCm R1Cm
 generalize (uCm.setCell ⟨w.heap.size+1+1,1,none⟩ (.slice (some ⟨g1,0,none⟩) fo.length fo.length))=uC at HE1 HBC HSC HZC HTC HGC R1C ⊢
 have f2:=HSC.o.c2;have t2:=HTC.o.c2;have y2:=HTC.o.z2
 simp only at f2
 go_wp2_with fail
 refine (Wg _ _ az _ (HX.o.below HBC.o).az (by have:=HN.o.2.1;simp only at this;omega)).mono ?_
 rintro e uDm ⟨rfl,o2,b2⟩;obtain ⟨g2,hg2⟩:∃ x,x=uC.heap.size:=⟨_,rfl⟩;rw [← hg2] at o2 ⊢;have HBDm:Hid (BW w uDm):=next HBC.o b2;have HSDm:Hid (S6 w.heap.size ⟨td,fo,az,cs,ls,lg⟩ ⟨o,oc,a,ac,c,cc,l,lc,g,gc⟩ uDm):=HSC.o.below b2;have HZDm:Hid (Z6 (w.heap.size+1) (.int .i64 0) (.slice none 0 0) (.slice none 0 0) (.slice none 0 0) (.slice none 0 0) (.slice none 0 0) uDm):=HZC.o.below b2;have HTDm:Hid (Z6 (w.heap.size+1+1) (.int .i64 td) (.slice (some ⟨g1,0,none⟩) fo.length fo.length) (.slice none 0 0) (.slice none 0 0) (.slice none 0 0) (.slice none 0 0) uDm):=HTC.o.below b2;have HGDm:Hid (w.heap.size+3≤uDm.heap.size):=Nat.le_trans HGC.o b2.size
 have HL2:Hid (uC.heap.size≤g2∧g2<uDm.heap.size):=by
  rw [Hid];have hlt:=o2.lt g2 rfl
  omega
 have HM2:Hid (uDm.heap.size≤uDm.heap.size):=nL;have R1Dm:Hid (uDm.ownsRow (w.heap.size+3) 3 1 (.slice (some ⟨g1,0,none⟩) fo.length fo.length) fo.length (fo.map (Value.int .i64))):=Av R1C.o b2
 have R2Dm:Hid (uDm.ownsRow (w.heap.size+3) 107 6 (.slice (some ⟨g2,0,none⟩) az.length az.length) az.length (Ah az)):=Bi o2 (by have:=HGC.o;omega)
 clear t2 y2 f2 o2 hg2 HM2 HBC HSC HZC HTC HGC R1C;have f2:=HSDm.o.c2;have t2:=HTDm.o.c2;have y2:=HTDm.o.z2;go_upto_region 5 with fail
 have HQ2:Hid (uDm.heap.size≤uDm.heap.size):=nL;have bs:Below (w.heap.size+1+1) uDm (uDm.setCell ⟨w.heap.size+1+1,2,none⟩ (.slice (some ⟨g2,0,none⟩) az.length az.length)):=Ti _ _ _ _
 have HBD:Hid (Below w.heap.size w (uDm.setCell ⟨w.heap.size+1+1,2,none⟩ (.slice (some ⟨g2,0,none⟩) az.length az.length))):=HBDm.o.setCell (show w.heap.size≤w.heap.size+1+1 by omega) _
 have HSD:Hid (S6 w.heap.size ⟨td,fo,az,cs,ls,lg⟩ ⟨o,oc,a,ac,c,cc,l,lc,g,gc⟩ (uDm.setCell ⟨w.heap.size+1+1,2,none⟩ (.slice (some ⟨g2,0,none⟩) az.length az.length))):=HSDm.o.under bs (by omega)
 have HZD:Hid (Z6 (w.heap.size+1) (.int .i64 0) (.slice none 0 0) (.slice none 0 0) (.slice none 0 0) (.slice none 0 0) (.slice none 0 0) (uDm.setCell ⟨w.heap.size+1+1,2,none⟩ (.slice (some ⟨g2,0,none⟩) az.length az.length))):=HZDm.o.under bs (by omega)
 have HTD:Hid (Z6 (w.heap.size+1+1) (.int .i64 td) (.slice (some ⟨g1,0,none⟩) fo.length fo.length) (.slice (some ⟨g2,0,none⟩) az.length az.length) (.slice none 0 0) (.slice none 0 0) (.slice none 0 0) (uDm.setCell ⟨w.heap.size+1+1,2,none⟩ (.slice (some ⟨g2,0,none⟩) az.length az.length))):=HTDm.o.set2 _
 have HGD:Hid (w.heap.size+3≤(uDm.setCell ⟨w.heap.size+1+1,2,none⟩ (.slice (some ⟨g2,0,none⟩) az.length az.length)).heap.size):=by rw [Hid];have:=HGDm.o;simp;omega
 have R1D:Hid ((uDm.setCell ⟨w.heap.size+1+1,2,none⟩ (.slice (some ⟨g2,0,none⟩) az.length az.length)).ownsRow (w.heap.size+3) 3 1 (.slice (some ⟨g1,0,none⟩) fo.length fo.length) fo.length (fo.map (Value.int .i64))):=Ad R1Dm.o (by omega)
 have R2D:Hid ((uDm.setCell ⟨w.heap.size+1+1,2,none⟩ (.slice (some ⟨g2,0,none⟩) az.length az.length)).ownsRow (w.heap.size+3) 107 6 (.slice (some ⟨g2,0,none⟩) az.length az.length) az.length (Ah az)):=Ad R2Dm.o (by omega)
 have HE2:Hid ((uDm.setCell ⟨w.heap.size+1+1,2,none⟩ (.slice (some ⟨g2,0,none⟩) az.length az.length)).heap.size=uDm.heap.size):=by simp [Hid]
 clear HQ2 bs f2 t2 y2 HBDm HSDm HZDm HTDm HGDm R1Dm R2Dm
 generalize (uDm.setCell ⟨w.heap.size+1+1,2,none⟩ (.slice (some ⟨g2,0,none⟩) az.length az.length))=uD at HE2 HBD HSD HZD HTD HGD R1D R2D ⊢
 have f3:=HSD.o.c3;have t3:=HTD.o.c3;have y3:=HTD.o.z3
 simp only at f3
 go_wp2_with fail
 refine (Vn _ _ cs _ (HX.o.below HBD.o).cs (by have:=HN.o.2.2.1;simp only at this;omega)).mono ?_
 rintro e uEm ⟨rfl,o3,b3⟩;obtain ⟨g3,hg3⟩:∃ x,x=uD.heap.size:=⟨_,rfl⟩;rw [← hg3] at o3 ⊢;have HBEm:Hid (BW w uEm):=next HBD.o b3;have HSEm:Hid (S6 w.heap.size ⟨td,fo,az,cs,ls,lg⟩ ⟨o,oc,a,ac,c,cc,l,lc,g,gc⟩ uEm):=HSD.o.below b3;have HZEm:Hid (Z6 (w.heap.size+1) (.int .i64 0) (.slice none 0 0) (.slice none 0 0) (.slice none 0 0) (.slice none 0 0) (.slice none 0 0) uEm):=HZD.o.below b3;have HTEm:Hid (Z6 (w.heap.size+1+1) (.int .i64 td) (.slice (some ⟨g1,0,none⟩) fo.length fo.length) (.slice (some ⟨g2,0,none⟩) az.length az.length) (.slice none 0 0) (.slice none 0 0) (.slice none 0 0) uEm):=HTD.o.below b3;have HGEm:Hid (w.heap.size+3≤uEm.heap.size):=Nat.le_trans HGD.o b3.size
 have HL3:Hid (uD.heap.size≤g3∧g3<uEm.heap.size):=by
  rw [Hid];have hlt:=o3.lt g3 rfl
  omega
 have HM3:Hid (uEm.heap.size≤uEm.heap.size):=nL;have R1Em:Hid (uEm.ownsRow (w.heap.size+3) 3 1 (.slice (some ⟨g1,0,none⟩) fo.length fo.length) fo.length (fo.map (Value.int .i64))):=Av R1D.o b3;have R2Em:Hid (uEm.ownsRow (w.heap.size+3) 107 6 (.slice (some ⟨g2,0,none⟩) az.length az.length) az.length (Ah az)):=Av R2D.o b3
 have R3Em:Hid (uEm.ownsRow (w.heap.size+3) 61 12 (.slice (some ⟨g3,0,none⟩) cs.length cs.length) cs.length (Aj cs)):=Bi o3 (by have:=HGD.o;omega)
 clear t3 y3 f3 o3 hg3 HM3 HBD HSD HZD HTD HGD R1D R2D;have f3:=HSEm.o.c3;have t3:=HTEm.o.c3;have y3:=HTEm.o.z3;go_upto_region 6 with fail
 have HQ3:Hid (uEm.heap.size≤uEm.heap.size):=nL;have bs:Below (w.heap.size+1+1) uEm (uEm.setCell ⟨w.heap.size+1+1,3,none⟩ (.slice (some ⟨g3,0,none⟩) cs.length cs.length)):=Ti _ _ _ _
 have HBE:Hid (Below w.heap.size w (uEm.setCell ⟨w.heap.size+1+1,3,none⟩ (.slice (some ⟨g3,0,none⟩) cs.length cs.length))):=HBEm.o.setCell (show w.heap.size≤w.heap.size+1+1 by omega) _
 have HSE:Hid (S6 w.heap.size ⟨td,fo,az,cs,ls,lg⟩ ⟨o,oc,a,ac,c,cc,l,lc,g,gc⟩ (uEm.setCell ⟨w.heap.size+1+1,3,none⟩ (.slice (some ⟨g3,0,none⟩) cs.length cs.length))):=HSEm.o.under bs (by omega)
 have HZE:Hid (Z6 (w.heap.size+1) (.int .i64 0) (.slice none 0 0) (.slice none 0 0) (.slice none 0 0) (.slice none 0 0) (.slice none 0 0) (uEm.setCell ⟨w.heap.size+1+1,3,none⟩ (.slice (some ⟨g3,0,none⟩) cs.length cs.length))):=HZEm.o.under bs (by omega)
 have HTE:Hid (Z6 (w.heap.size+1+1) (.int .i64 td) (.slice (some ⟨g1,0,none⟩) fo.length fo.length) (.slice (some ⟨g2,0,none⟩) az.length az.length) (.slice (some ⟨g3,0,none⟩) cs.length cs.length) (.slice none 0 0) (.slice none 0 0) (uEm.setCell ⟨w.heap.size+1+1,3,none⟩ (.slice (some ⟨g3,0,none⟩) cs.length cs.length))):=HTEm.o.set3 _
 have HGE:Hid (w.heap.size+3≤(uEm.setCell ⟨w.heap.size+1+1,3,none⟩ (.slice (some ⟨g3,0,none⟩) cs.length cs.length)).heap.size):=by rw [Hid];have:=HGEm.o;simp;omega
 have R1E:Hid ((uEm.setCell ⟨w.heap.size+1+1,3,none⟩ (.slice (some ⟨g3,0,none⟩) cs.length cs.length)).ownsRow (w.heap.size+3) 3 1 (.slice (some ⟨g1,0,none⟩) fo.length fo.length) fo.length (fo.map (Value.int .i64))):=Ad R1Em.o (by omega)
 have R2E:Hid ((uEm.setCell ⟨w.heap.size+1+1,3,none⟩ (.slice (some ⟨g3,0,none⟩) cs.length cs.length)).ownsRow (w.heap.size+3) 107 6 (.slice (some ⟨g2,0,none⟩) az.length az.length) az.length (Ah az)):=Ad R2Em.o (by omega)
 have R3E:Hid ((uEm.setCell ⟨w.heap.size+1+1,3,none⟩ (.slice (some ⟨g3,0,none⟩) cs.length cs.length)).ownsRow (w.heap.size+3) 61 12 (.slice (some ⟨g3,0,none⟩) cs.length cs.length) cs.length (Aj cs)):=Ad R3Em.o (by omega)
 have HE3:Hid ((uEm.setCell ⟨w.heap.size+1+1,3,none⟩ (.slice (some ⟨g3,0,none⟩) cs.length cs.length)).heap.size=uEm.heap.size):=by simp [Hid]
 clear HQ3 bs f3 t3 y3 HBEm HSEm HZEm HTEm HGEm R1Em R2Em R3Em
 generalize (uEm.setCell ⟨w.heap.size+1+1,3,none⟩ (.slice (some ⟨g3,0,none⟩) cs.length cs.length))=uE at HE3 HBE HSE HZE HTE HGE R1E R2E R3E ⊢
 have f4:=HSE.o.c4;have t4:=HTE.o.c4;have y4:=HTE.o.z4
 simp only at f4
 go_wp2_with fail
 refine (Uz _ _ ls _ (HX.o.below HBE.o).ls (by have:=HN.o.2.2.2.1;simp only at this;omega)).mono ?_
 rintro e uFm ⟨g4,rfl,o4,b4⟩;have HBFm:Hid (BW w uFm):=next HBE.o b4;have HSFm:Hid (S6 w.heap.size ⟨td,fo,az,cs,ls,lg⟩ ⟨o,oc,a,ac,c,cc,l,lc,g,gc⟩ uFm):=HSE.o.below b4;have HZFm:Hid (Z6 (w.heap.size+1) (.int .i64 0) (.slice none 0 0) (.slice none 0 0) (.slice none 0 0) (.slice none 0 0) (.slice none 0 0) uFm):=HZE.o.below b4;have HTFm:Hid (Z6 (w.heap.size+1+1) (.int .i64 td) (.slice (some ⟨g1,0,none⟩) fo.length fo.length) (.slice (some ⟨g2,0,none⟩) az.length az.length) (.slice (some ⟨g3,0,none⟩) cs.length cs.length) (.slice none 0 0) (.slice none 0 0) uFm):=HTE.o.below b4;have HGFm:Hid (w.heap.size+3≤uFm.heap.size):=Nat.le_trans HGE.o b4.size
 have HL4:Hid (uE.heap.size≤g4∧g4<uFm.heap.size):=by
  rw [Hid];have hlt:=o4.lt g4 rfl
  omega
 have HM4:Hid (uFm.heap.size≤uFm.heap.size):=nL;have R1Fm:Hid (uFm.ownsRow (w.heap.size+3) 3 1 (.slice (some ⟨g1,0,none⟩) fo.length fo.length) fo.length (fo.map (Value.int .i64))):=Av R1E.o b4;have R2Fm:Hid (uFm.ownsRow (w.heap.size+3) 107 6 (.slice (some ⟨g2,0,none⟩) az.length az.length) az.length (Ah az)):=Av R2E.o b4;have R3Fm:Hid (uFm.ownsRow (w.heap.size+3) 61 12 (.slice (some ⟨g3,0,none⟩) cs.length cs.length) cs.length (Aj cs)):=Av R3E.o b4
 have R4Fm:Hid (uFm.ownsRow (w.heap.size+3) 113 3 (.slice (some ⟨g4,0,none⟩) ls.length ls.length) ls.length (Ag ls)):=Bi o4 (by have:=HGE.o;omega)
 clear t4 y4 f4 o4 HM4 HBE HSE HZE HTE HGE R1E R2E R3E;have f4:=HSFm.o.c4;have t4:=HTFm.o.c4;have y4:=HTFm.o.z4;go_upto_region 7 with fail
 have HQ4:Hid (uFm.heap.size≤uFm.heap.size):=nL;have bs:Below (w.heap.size+1+1) uFm (uFm.setCell ⟨w.heap.size+1+1,4,none⟩ (.slice (some ⟨g4,0,none⟩) ls.length ls.length)):=Ti _ _ _ _
 have HBF:Hid (Below w.heap.size w (uFm.setCell ⟨w.heap.size+1+1,4,none⟩ (.slice (some ⟨g4,0,none⟩) ls.length ls.length))):=HBFm.o.setCell (show w.heap.size≤w.heap.size+1+1 by omega) _
 have HSF:Hid (S6 w.heap.size ⟨td,fo,az,cs,ls,lg⟩ ⟨o,oc,a,ac,c,cc,l,lc,g,gc⟩ (uFm.setCell ⟨w.heap.size+1+1,4,none⟩ (.slice (some ⟨g4,0,none⟩) ls.length ls.length))):=HSFm.o.under bs (by omega)
 have HZF:Hid (Z6 (w.heap.size+1) (.int .i64 0) (.slice none 0 0) (.slice none 0 0) (.slice none 0 0) (.slice none 0 0) (.slice none 0 0) (uFm.setCell ⟨w.heap.size+1+1,4,none⟩ (.slice (some ⟨g4,0,none⟩) ls.length ls.length))):=HZFm.o.under bs (by omega)
 have HTF:Hid (Z6 (w.heap.size+1+1) (.int .i64 td) (.slice (some ⟨g1,0,none⟩) fo.length fo.length) (.slice (some ⟨g2,0,none⟩) az.length az.length) (.slice (some ⟨g3,0,none⟩) cs.length cs.length) (.slice (some ⟨g4,0,none⟩) ls.length ls.length) (.slice none 0 0) (uFm.setCell ⟨w.heap.size+1+1,4,none⟩ (.slice (some ⟨g4,0,none⟩) ls.length ls.length))):=HTFm.o.set4 _
 have HGF:Hid (w.heap.size+3≤(uFm.setCell ⟨w.heap.size+1+1,4,none⟩ (.slice (some ⟨g4,0,none⟩) ls.length ls.length)).heap.size):=by rw [Hid];have:=HGFm.o;simp;omega
 have R1F:Hid ((uFm.setCell ⟨w.heap.size+1+1,4,none⟩ (.slice (some ⟨g4,0,none⟩) ls.length ls.length)).ownsRow (w.heap.size+3) 3 1 (.slice (some ⟨g1,0,none⟩) fo.length fo.length) fo.length (fo.map (Value.int .i64))):=Ad R1Fm.o (by omega)
 have R2F:Hid ((uFm.setCell ⟨w.heap.size+1+1,4,none⟩ (.slice (some ⟨g4,0,none⟩) ls.length ls.length)).ownsRow (w.heap.size+3) 107 6 (.slice (some ⟨g2,0,none⟩) az.length az.length) az.length (Ah az)):=Ad R2Fm.o (by omega)
 have R3F:Hid ((uFm.setCell ⟨w.heap.size+1+1,4,none⟩ (.slice (some ⟨g4,0,none⟩) ls.length ls.length)).ownsRow (w.heap.size+3) 61 12 (.slice (some ⟨g3,0,none⟩) cs.length cs.length) cs.length (Aj cs)):=Ad R3Fm.o (by omega)
 have R4F:Hid ((uFm.setCell ⟨w.heap.size+1+1,4,none⟩ (.slice (some ⟨g4,0,none⟩) ls.length ls.length)).ownsRow (w.heap.size+3) 113 3 (.slice (some ⟨g4,0,none⟩) ls.length ls.length) ls.length (Ag ls)):=Ad R4Fm.o (by omega)
 have HE4:Hid ((uFm.setCell ⟨w.heap.size+1+1,4,none⟩ (.slice (some ⟨g4,0,none⟩) ls.length ls.length)).heap.size=uFm.heap.size):=by simp [Hid]
 clear HQ4 bs f4 t4 y4 HBFm HSFm HZFm HTFm HGFm R1Fm R2Fm R3Fm R4Fm
 generalize (uFm.setCell ⟨w.heap.size+1+1,4,none⟩ (.slice (some ⟨g4,0,none⟩) ls.length ls.length))=uF at HE4 HBF HSF HZF HTF HGF R1F R2F R3F R4F ⊢
 have f5:=HSF.o.c5;have t5:=HTF.o.c5;have y5:=HTF.o.z5
 simp only at f5
 go_wp2_with fail
 refine (R8 _ _ lg _ (HX.o.below HBF.o).log (by have:=HN.o.2.2.2.2;simp only at this;omega)).mono ?_
 rintro e uGm ⟨rfl,o5,b5⟩;obtain ⟨g5,hg5⟩:∃ x,x=uF.heap.size:=⟨_,rfl⟩;rw [← hg5] at o5 ⊢;have HBGm:Hid (BW w uGm):=next HBF.o b5;have HSGm:Hid (S6 w.heap.size ⟨td,fo,az,cs,ls,lg⟩ ⟨o,oc,a,ac,c,cc,l,lc,g,gc⟩ uGm):=HSF.o.below b5;have HZGm:Hid (Z6 (w.heap.size+1) (.int .i64 0) (.slice none 0 0) (.slice none 0 0) (.slice none 0 0) (.slice none 0 0) (.slice none 0 0) uGm):=HZF.o.below b5;have HTGm:Hid (Z6 (w.heap.size+1+1) (.int .i64 td) (.slice (some ⟨g1,0,none⟩) fo.length fo.length) (.slice (some ⟨g2,0,none⟩) az.length az.length) (.slice (some ⟨g3,0,none⟩) cs.length cs.length) (.slice (some ⟨g4,0,none⟩) ls.length ls.length) (.slice none 0 0) uGm):=HTF.o.below b5;have HGGm:Hid (w.heap.size+3≤uGm.heap.size):=Nat.le_trans HGF.o b5.size
 have HL5:Hid (uF.heap.size≤g5∧g5<uGm.heap.size):=by
  rw [Hid];have hlt:=o5.lt g5 rfl
  omega
 have HM5:Hid (uGm.heap.size≤uGm.heap.size):=nL;have R1Gm:Hid (uGm.ownsRow (w.heap.size+3) 3 1 (.slice (some ⟨g1,0,none⟩) fo.length fo.length) fo.length (fo.map (Value.int .i64))):=Av R1F.o b5;have R2Gm:Hid (uGm.ownsRow (w.heap.size+3) 107 6 (.slice (some ⟨g2,0,none⟩) az.length az.length) az.length (Ah az)):=Av R2F.o b5;have R3Gm:Hid (uGm.ownsRow (w.heap.size+3) 61 12 (.slice (some ⟨g3,0,none⟩) cs.length cs.length) cs.length (Aj cs)):=Av R3F.o b5;have R4Gm:Hid (uGm.ownsRow (w.heap.size+3) 113 3 (.slice (some ⟨g4,0,none⟩) ls.length ls.length) ls.length (Ag ls)):=Av R4F.o b5
 have R5Gm:Hid (uGm.ownsRow (w.heap.size+3) 9 1 (.slice (some ⟨g5,0,none⟩) lg.length lg.length) lg.length (Am lg)):=Bi o5 (by have:=HGF.o;omega)
 clear t5 y5 f5 o5 hg5 HM5 HBF HSF HZF HTF HGF R1F R2F R3F R4F;have f5:=HSGm.o.c5;have t5:=HTGm.o.c5;have y5:=HTGm.o.z5;go_upto_region 8 with fail
 have HQ5:Hid (uGm.heap.size≤uGm.heap.size):=nL;have bs:Below (w.heap.size+1+1) uGm (uGm.setCell ⟨w.heap.size+1+1,5,none⟩ (.slice (some ⟨g5,0,none⟩) lg.length lg.length)):=Ti _ _ _ _
 have HBG:Hid (Below w.heap.size w (uGm.setCell ⟨w.heap.size+1+1,5,none⟩ (.slice (some ⟨g5,0,none⟩) lg.length lg.length))):=HBGm.o.setCell (show w.heap.size≤w.heap.size+1+1 by omega) _
 have HSG:Hid (S6 w.heap.size ⟨td,fo,az,cs,ls,lg⟩ ⟨o,oc,a,ac,c,cc,l,lc,g,gc⟩ (uGm.setCell ⟨w.heap.size+1+1,5,none⟩ (.slice (some ⟨g5,0,none⟩) lg.length lg.length))):=HSGm.o.under bs (by omega)
 have HZG:Hid (Z6 (w.heap.size+1) (.int .i64 0) (.slice none 0 0) (.slice none 0 0) (.slice none 0 0) (.slice none 0 0) (.slice none 0 0) (uGm.setCell ⟨w.heap.size+1+1,5,none⟩ (.slice (some ⟨g5,0,none⟩) lg.length lg.length))):=HZGm.o.under bs (by omega)
 have HTG:Hid (Z6 (w.heap.size+1+1) (.int .i64 td) (.slice (some ⟨g1,0,none⟩) fo.length fo.length) (.slice (some ⟨g2,0,none⟩) az.length az.length) (.slice (some ⟨g3,0,none⟩) cs.length cs.length) (.slice (some ⟨g4,0,none⟩) ls.length ls.length) (.slice (some ⟨g5,0,none⟩) lg.length lg.length) (uGm.setCell ⟨w.heap.size+1+1,5,none⟩ (.slice (some ⟨g5,0,none⟩) lg.length lg.length))):=HTGm.o.set5 _
 have HGG:Hid (w.heap.size+3≤(uGm.setCell ⟨w.heap.size+1+1,5,none⟩ (.slice (some ⟨g5,0,none⟩) lg.length lg.length)).heap.size):=by rw [Hid];have:=HGGm.o;simp;omega
 have R1G:Hid ((uGm.setCell ⟨w.heap.size+1+1,5,none⟩ (.slice (some ⟨g5,0,none⟩) lg.length lg.length)).ownsRow (w.heap.size+3) 3 1 (.slice (some ⟨g1,0,none⟩) fo.length fo.length) fo.length (fo.map (Value.int .i64))):=Ad R1Gm.o (by omega)
 have R2G:Hid ((uGm.setCell ⟨w.heap.size+1+1,5,none⟩ (.slice (some ⟨g5,0,none⟩) lg.length lg.length)).ownsRow (w.heap.size+3) 107 6 (.slice (some ⟨g2,0,none⟩) az.length az.length) az.length (Ah az)):=Ad R2Gm.o (by omega)
 have R3G:Hid ((uGm.setCell ⟨w.heap.size+1+1,5,none⟩ (.slice (some ⟨g5,0,none⟩) lg.length lg.length)).ownsRow (w.heap.size+3) 61 12 (.slice (some ⟨g3,0,none⟩) cs.length cs.length) cs.length (Aj cs)):=Ad R3Gm.o (by omega)
 have R4G:Hid ((uGm.setCell ⟨w.heap.size+1+1,5,none⟩ (.slice (some ⟨g5,0,none⟩) lg.length lg.length)).ownsRow (w.heap.size+3) 113 3 (.slice (some ⟨g4,0,none⟩) ls.length ls.length) ls.length (Ag ls)):=Ad R4Gm.o (by omega)
 have R5G:Hid ((uGm.setCell ⟨w.heap.size+1+1,5,none⟩ (.slice (some ⟨g5,0,none⟩) lg.length lg.length)).ownsRow (w.heap.size+3) 9 1 (.slice (some ⟨g5,0,none⟩) lg.length lg.length) lg.length (Am lg)):=Ad R5Gm.o (by omega)
 have HE5:Hid ((uGm.setCell ⟨w.heap.size+1+1,5,none⟩ (.slice (some ⟨g5,0,none⟩) lg.length lg.length)).heap.size=uGm.heap.size):=by simp [Hid]
 clear HQ5 bs f5 t5 y5 HBGm HSGm HZGm HTGm HGGm R1Gm R2Gm R3Gm R4Gm R5Gm
 generalize (uGm.setCell ⟨w.heap.size+1+1,5,none⟩ (.slice (some ⟨g5,0,none⟩) lg.length lg.length))=uG at HE5 HBG HSG HZG HTG HGG R1G R2G R3G R4G R5G ⊢
 obtain ⟨x0,x1,x2,x3,x4,x5,-,-,-,-,-,-⟩:=HTG.o;obtain ⟨q0,q1,q2,q3,q4,q5,r0,r1,r2,r3,r4,r5⟩:=HZG.o;go_wp2
 refine bodyPost_ret (by simp [results,results26,go_sem,q0,q1,q2,q3,q4,q5];try rfl) rfl ?_
 have hl1:=HL1.o;have hl2:=HL2.o;have hl3:=HL3.o;have hl4:=HL4.o;have hl5:=HL5.o;have he1:=HE1.o;have he2:=HE2.o;have he3:=HE3.o;have he4:=HE4.o
 exact ⟨⟨some ⟨g1,0,none⟩,fo.length,some ⟨g2,0,none⟩,az.length,some ⟨g3,0,none⟩,cs.length,some ⟨g4,0,none⟩,ls.length,some ⟨g5,0,none⟩,lg.length⟩,rfl,⟨(Bi (Ad (Ad (Ad (Ad (Ad (Ad R1G.o (by omega)) (by omega)) (by omega)) (by omega)) (by omega)) (by omega)) (by omega)),(Bi (Ad (Ad (Ad (Ad (Ad (Ad R2G.o (by omega)) (by omega)) (by omega)) (by omega)) (by omega)) (by omega)) (by omega)),(Bi (Ad (Ad (Ad (Ad (Ad (Ad R3G.o (by omega)) (by omega)) (by omega)) (by omega)) (by omega)) (by omega)) (by omega)),(Bi (Ad (Ad (Ad (Ad (Ad (Ad R4G.o (by omega)) (by omega)) (by omega)) (by omega)) (by omega)) (by omega)) (by omega)),(Bi (Ad (Ad (Ad (Ad (Ad (Ad R5G.o (by omega)) (by omega)) (by omega)) (by omega)) (by omega)) (by omega)) (by omega)),⟨g1,g2,g3,g4,g5,rfl,rfl,rfl,rfl,rfl,by omega,by omega,by omega,by omega⟩⟩,((((((HBG.o.setCell (show w.heap.size≤w.heap.size+1 by omega) _).setCell (show w.heap.size≤w.heap.size+1 by omega) _).setCell (show w.heap.size≤w.heap.size+1 by omega) _).setCell (show w.heap.size≤w.heap.size+1 by omega) _).setCell (show w.heap.size≤w.heap.size+1 by omega) _).setCell (show w.heap.size≤w.heap.size+1 by omega) _)⟩
theorem aF {w:World} {b off:Nat} {xs:List Cs} (h:A0 w (some ⟨b,off,none⟩) xs):∀ j u,(Aj xs)[j]?=some u→w.cell? ((⟨b,off,none⟩:Addr).add j)=some u:=by
 intro j u hj
 have hlt:j<xs.length*12:=by
  rw [← Ge];exact (List.getElem?_eq_some_iff.1 hj).1
 rcases h with rfl | ⟨b',off',hq,hb,hc⟩
 ·simp at hlt
 ·obtain ⟨rfl,rfl⟩:b=b'∧off=off':=by simpa using hq
  have e:((⟨b,off,none⟩:Addr).add j)=⟨b,off+j,none⟩:=by unfold Addr.add;split <;> simp_all
  obtain ⟨k0,k1,k2,k3,k4,k5,k6,k7,k8,k9,k10,k11⟩:=hc (j / 12) (by omega)
  have hat:=E6 xs (j / 12) (j % 12) (by omega) (by omega)
  rw [show j / 12*12+j % 12=j by omega,hj] at hat
  rw [e]
  rcases (show j % 12=0∨j % 12=1∨j % 12=2∨j % 12=3∨j % 12=4∨j % 12=5∨j % 12=6∨j % 12=7∨j % 12=8∨j % 12=9∨j % 12=10∨j % 12=11 by omega) with e | e | e | e | e | e | e | e | e | e | e | e
  ·rw [e] at hat
   rw [show off+j=off+j / 12*12 by omega,k0]
   exact hat.symm
  ·rw [e] at hat
   rw [show off+j=off+j / 12*12+1 by omega,k1]
   exact hat.symm
  ·rw [e] at hat
   rw [show off+j=off+j / 12*12+2 by omega,k2]
   exact hat.symm
  ·rw [e] at hat
   rw [show off+j=off+j / 12*12+3 by omega,k3]
   exact hat.symm
  ·rw [e] at hat
   rw [show off+j=off+j / 12*12+4 by omega,k4]
   exact hat.symm
  ·rw [e] at hat
   rw [show off+j=off+j / 12*12+5 by omega,k5]
   exact hat.symm
  ·rw [e] at hat
   rw [show off+j=off+j / 12*12+6 by omega,k6]
   exact hat.symm
  ·rw [e] at hat
   rw [show off+j=off+j / 12*12+7 by omega,k7]
   exact hat.symm
  ·rw [e] at hat
   rw [show off+j=off+j / 12*12+8 by omega,k8]
   exact hat.symm
  ·rw [e] at hat
   rw [show off+j=off+j / 12*12+9 by omega,k9]
   exact hat.symm
  ·rw [e] at hat
   rw [show off+j=off+j / 12*12+10 by omega,k10]
   exact hat.symm
  ·rw [e] at hat
   rw [show off+j=off+j / 12*12+11 by omega,k11]
   exact hat.symm
theorem Ix (w:World) (base:Nat) (ty:TypeId) (v:Value) (n:Nat) (xs:List Value) (hown:w.ownsRow base 61 12 v n xs) (ao:Option Addr) (c:Nat) (az:List Cs) (hz:A0 w ao az)
  (hn:n+az.length≤5000000) (hbase:base≤w.heap.size) :
  ∃ v' w',(Builtin.append_ #[26,26] ty #[v,.slice ao az.length c]).run prog w=.ok v' w'∧w'.ownsRow base 61 12 v' (n+az.length) (xs++Aj az)∧w.grownBy w' v.ownBlock ∧
   (v≠.slice none 0 0→v'≠.slice none 0 0):=by
 obtain ⟨i0,hi,hz0,hz1,hz2⟩:=info_parts pU
 cases ao with
 | none =>
  have hf:az=[]:=by
   rcases hz with h | ⟨b,off,h,_⟩
   ·exact h
   ·cases h
  subst hf
  refine ⟨v,w,?_,by simpa [Aj] using hown,⟨rfl,rfl,rfl,nL,fun _ _ _=>rfl⟩,id⟩
  have hu:=underlying26
  rcases hown.2 with ⟨rfl,rfl⟩ | ⟨g,cap,cur,rfl,hbg,hg,hnc,hcm,hcs,htake⟩
  ·simp [Builtin.append_,run_underlying hu,sizeOf,typeInfo,hi,Builtin.lenOf,Builtin.firstCells]
  ·simp [Builtin.append_,run_underlying hu,sizeOf,typeInfo,hi,Builtin.lenOf,Builtin.firstCells,loadCells,hnc,storeCells]
 | some a =>
  have hnews:∀ j u,(Aj az)[j]?=some u→w.cell? (a.add j)=some u:=by
   rcases hz with rfl | ⟨b,off,hq,hb,hc⟩
   ·intro j u hj;simp [Aj] at hj
   ·obtain rfl:a=⟨b,off,none⟩:=by simpa using hq
    exact aF (.inr ⟨b,off,rfl,hb,hc⟩)
  obtain ⟨v',w',h1,h2,h3,h4,_⟩:=run_append_own_at (P:=prog) w base 26 ty 61 i0 _ 12 96 underlying26 hi hz0 hz1 hz2 rfl (by decide) v n xs hown a az.length c (Aj az) (Ge az) hnews (Vx az) (by unfold maxLen;omega) (by omega) hbase
  exact ⟨v',w',h1,h2,h3,fun hne h=>hne (h4.1 h).1⟩
theorem Eh {ops:Array Oper} {rest:List Oper} {o:Oper} {a:Act} {Q:Exit→Act→World→Prop} (w:World) (hgd:o.guard=none) (s x:Operand)
  (ho:o.op=.call { callee:=.builtin .append,args:=#[s,x],argTypes:=#[26,26] }) (base:Nat) (v:Value) (n:Nat) (xs:List Value) (hs:a.eval s=v) (hown:w.ownsRow base 61 12 v n xs)
  (ao:Option Addr) (c:Nat) (az:List Cs) (hx:a.eval x=.slice ao az.length c) (hz:A0 w ao az) (hn:n+az.length≤5000000) (hbase:base≤w.heap.size)
  (h:∀ v' w',w'.ownsRow base 61 12 v' (n+az.length) (xs++Aj az)→w.grownBy w' v.ownBlock→(v≠.slice none 0 0→v'≠.slice none 0 0)→wpList prog ops Q rest (a.put o.dst v') w'):wpList prog ops Q (o::rest) a w:=by
 obtain ⟨v',w',hr,h1,h2,h3⟩:=Ix w base o.type v n xs hown ao c az hz hn hbase;exact Lib.wpList_append_run w hgd s x _ _ ho _ _ hs hx v' w' hr (h v' w' h1 h2 h3)
theorem mM (w:World):(w.alloc (.cells #[] 61)).ownsRow w.heap.size 61 12 (.slice (some ⟨w.heap.size,0,none⟩) 0 0) 0 []:=World.ownsRow_lit w #[] 0 nL (by unfold maxLen;omega) rfl
theorem Xi (x:Int) (w:World):Calls prog 361 #[.int .i64 x] w fun e w'=>e=.returned (.bool false)∧w'=w:=by
 have h:(x != x)=false:=by simp
 go_enter func361,ntmps361
 go_wp2;go_ret
 exact ⟨Aa (by simp),rfl⟩
theorem lL (x:Int) (w:World):Calls prog 187 #[.int .i64 x] w fun e w'=>e=.returned (.bool false)∧w'=w:=by
 go_enter func187,ntmps187
 go_wp2;go_ret
 exact ⟨Aa (by simp),rfl⟩
theorem Wp (x y:Int) (w:World):Calls prog 360 #[.int .i64 x,.int .i64 y] w fun e w'=>e=.returned (.bool (decide (x<y)))∧w'=w:=by
 go_enter func360,ntmps360
 go_wp2_with (go_at_call 187;refine (lL _ _).mono ?_;rintro e w' ⟨rfl,rfl⟩)
 go_ret;exact ⟨rfl,rfl⟩
theorem bB (t:Int) (b off c:Nat) (zs:List Int) (w:World) (hcx:∀ i,i<zs.length→w.cell? ⟨b,off+i,none⟩=some (.int .i64 (zs.getD i 0))) (h1:zs.length≤400) (ha:Er (-1) zs=true) :
  Calls prog 359 #[.slice (some ⟨b,off,none⟩) zs.length c,.int .i64 t] w fun e w'=>(∃ i:Int,e=.returned (.tuple #[.int .i64 i,.bool (decide (t ∈ zs))]))∧w'=w:=by
 have HA:Hid _:=ha;clear ha
 go_enter func359,ntmps359
 go_wp2
 go_loop [7,8,9] (fun i j _=>∃ (m n:Nat),m≤n∧n≤zs.length∧i=.int .i64 m∧j=.int .i64 n∧(∀ k,k<m→zs.getD k 0<t)∧(∀ k,n≤k→k<zs.length→t≤zs.getD k 0)) (fun i j _=>(intOf j - intOf i).toNat)
 case atStart=>exact ⟨0,zs.length,Nat.zero_le _,nL,rfl,rfl,fun k hk=>by omega,fun k h1 h2=>by omega⟩
 case round =>
  obtain ⟨m,n,hmn,hn,rfl,rfl,hlo,hhi⟩:=hrel;have HL:Hid _:=hlo;have HH:Hid _:=hhi;clear hlo hhi
  by_cases hlt:m<n
  ·have hlti:(m:Int)<(n:Int):=by omega
   have e1:=hcx ((m+n) / 2) (by omega)
   obtain ⟨x,hxk⟩:∃ x,zs.getD ((m+n) / 2) 0=x:=⟨_,rfl⟩;rw [hxk] at e1;have HX:Hid _:=hxk;clear hxk hcx
   by_cases hxt:x<t
   ·have HL2:Hid (∀ k,k<(m+n) / 2+1→zs.getD k 0<t):=fun k hk=>by
      rcases (show k<(m+n) / 2∨k=(m+n) / 2 from by omega) with h | h
      ·have:=Ye zs _ HA.o k ((m+n) / 2) h (by omega)
       rw [HX.o] at this;omega
      ·rw [h,HX.o];exact hxt
    go_wp2_with (go_at_call 360;refine (Wp _ _ _).mono ?_;rintro e w' ⟨rfl,rfl⟩)
    go_round
    case rel=>exact ⟨(m+n) / 2+1,n,by omega,hn,by go_num,rfl,HL2.o,HH.o⟩
    case measure=>simp [intOf];omega
   ·have hxt':t≤x:=by omega
    have HH2:Hid (∀ k,(m+n) / 2≤k→k<zs.length→t≤zs.getD k 0):=fun k hk hkl=>by
     rcases (show (m+n) / 2<k∨k=(m+n) / 2 from by omega) with h | h
     ·have:=Ye zs _ HA.o ((m+n) / 2) k h hkl
      rw [HX.o] at this;omega
     ·rw [h,HX.o];exact hxt'
    go_wp2_with (go_at_call 360;refine (Wp _ _ _).mono ?_;rintro e w' ⟨rfl,rfl⟩)
    go_round
    case rel=>exact ⟨m,(m+n) / 2,by omega,by omega,rfl,by go_num,HL.o,HH2.o⟩
    case measure=>simp [intOf];omega
  ·have hmn':m=n:=by omega
   subst hmn';have HE:Hid _:=Yl HA.o HL.o HH.o
   by_cases hml:m<zs.length
   ·have hmli:(m:Int)<(zs.length:Int):=by omega
    have e1:=hcx m hml;obtain ⟨x,hxk⟩:∃ x,zs.getD m 0=x:=⟨_,rfl⟩;rw [hxk] at e1;have HX:Hid _:=hxk;clear hxk hcx
    cases he:(x == t)
    ·have HR:Hid (decide (t ∈ zs)=false):=decide_eq_false (fun hm=>by
       have:=(HE.o.1 hm).2
       rw [HX.o] at this;subst this;simp at he)
     go_wp2_with (go_at_call 361;refine (Xi _ _).mono ?_;rintro e w' ⟨rfl,rfl⟩)
     go_ret2;exact ⟨⟨m,Ji rfl HR.o.symm⟩,rfl⟩
    ·have HR:Hid (decide (t ∈ zs)=true):=decide_eq_true (HE.o.2 ⟨hml,by rw [HX.o];simpa using he⟩)
     go_wp2_with (go_at_call 361;refine (Xi _ _).mono ?_;rintro e w' ⟨rfl,rfl⟩)
     go_ret2;exact ⟨⟨m,Ji rfl HR.o.symm⟩,rfl⟩
   ·have hmli:¬ (m:Int)<(zs.length:Int):=by omega
    have HR:Hid (decide (t ∈ zs)=false):=decide_eq_false (fun hm=>hml (HE.o.1 hm).1)
    clear hcx;go_wp2_with fail
    go_ret2;exact ⟨⟨m,Ji rfl HR.o.symm⟩,rfl⟩
theorem Y6 (t:Int) (ao:Option Addr) (c:Nat) (w:World) :
  Calls prog 359 #[.slice ao 0 c,.int .i64 t] w fun e w'=>(∃ i:Int,e=.returned (.tuple #[.int .i64 i,.bool false]))∧w'=w:=by
 go_enter func359,ntmps359
 go_wp2;refine wp_loop_rounds 1 ?_;rw [rounds_succ];go_wp2;go_ret2;exact ⟨⟨0,Ji rfl rfl⟩,rfl⟩
theorem cI (d:Int) (ao:Option Addr) (c:Nat) (zs:List Int) (w:World) (hx:Aw w ao zs) (h1:zs.length≤400) (ha:Er (-1) zs=true) :
  Calls prog 356 #[.slice ao zs.length c,.int .i64 d] w fun e w'=>e=.returned (.bool (decide (d ∈ zs)))∧w'=w:=by
 rcases hx with rfl | ⟨b,off,rfl,hb,hcx⟩
 ·go_enter func356,ntmps356
  go_wp2_with fail
  refine (Y6 _ _ _ _).mono ?_;rintro e w' ⟨⟨i,rfl⟩,hw⟩;subst hw;go_wp2;go_ret
  exact ⟨Aa (by simp),rfl⟩
 ·go_enter func356,ntmps356
  go_wp2_with fail
  refine (bB _ _ _ _ zs _ hcx h1 ha).mono ?_;rintro e w' ⟨⟨i,rfl⟩,hw⟩;subst hw;go_wp2;go_ret;exact ⟨rfl,rfl⟩
theorem Jv (x:Int) (w:World) (hd:Dn x=true) :
  Calls prog 355 #[.int .i64 x] w fun e w'=>e=.returned (.bool (!decide ((x+5) % 7<5)))∧w'=w:=by
 have hv:=Pt hd
 have HB:Hid (decide (4<(x+5) % 7) = !decide ((x+5) % 7<5)):=by
  by_cases h:(x+5) % 7<5
  ·rw [Hid,decide_eq_true h,decide_eq_false (by omega)];rfl
  ·rw [Hid,decide_eq_false h,decide_eq_true (by omega)];rfl
 clear hd
 go_enter func355,ntmps355
 go_wp2_with (go_at_call 358;refine (Ur _ _).mono ?_;rintro e w' ⟨rfl,rfl⟩;rw [hv])
 go_ret;exact ⟨Aa HB.o,rfl⟩
end Go.Proofs.YtomiclakhjncbaaGreatDoor
namespace Go.Proofs.YtomiclakhjncbaaGreatDoor
open Go.RowKit Go.Shelf Go.Proofs.Tryz
set_option maxRecDepth 100000
set_option maxHeartbeats 12800000
def Il (N:Nat) (w:World) (ao:Option Addr) (zs:List Int):Prop :=
 zs=[]∨∃ b off,ao=some ⟨b,off,none⟩∧b<N∧∀ i,i<zs.length→w.cell? ⟨b,off+i,none⟩=some (.int .i64 (zs.getD i 0))
theorem Il.keep {N:Nat} {w w':World} {ao:Option Addr} {zs:List Int} (h:Il N w ao zs) (hb:Below N w w'):Il N w' ao zs:=by
 rcases h with h | ⟨b,off,h1,h2,h3⟩
 ·exact .inl h
 ·exact .inr ⟨b,off,h1,h2,fun i hi=>(hb.cell (p:=⟨b,off+i,none⟩) h2).trans (h3 i hi)⟩
theorem Il.at {N:Nat} {w:World} {ao:Option Addr} {zs:List Int} (h:Il N w ao zs) (hN:N≤w.heap.size):Aw w ao zs:=by
 rcases h with h | ⟨b,off,h1,h2,h3⟩
 ·exact .inl h
 ·exact .inr ⟨b,off,h1,by omega,h3⟩
theorem Aw.in {w:World} {ao:Option Addr} {zs:List Int} (h:Aw w ao zs):Il w.heap.size w ao zs:=h
def Vu (N Bo:Nat) (W W':World):Prop:=Below N W W'∧∀ v,W.cell? ⟨Bo,0,none⟩=some v→W'.cell? ⟨Bo,0,none⟩=some v
theorem kS {N Bo:Nat} {A B C:World} (h:Vu N Bo A B) (k:Vu N Bo B C):Vu N Bo A C:=⟨h.1.trans k.1,fun v hv=>k.2 v (h.2 v hv)⟩
theorem rT {N Bo:Nat} {w:World} (hn:N≤w.heap.size) (W:World) (l:Nat) (o o':Obj) (hl:w.heap.size≤l) (h:W.heap[l]?=some o) (hc:o.isCells=false) (hw:o.isWalk=false):Vu N Bo W (W.putObj l o') :=
 ⟨belowK_b hn W l o o' hl h hc hw,fun _ hv=>cell_kept hv (grownBy_putObj' W l o') (fun r e=>by cases e;exact ⟨o,h,hc⟩)⟩
theorem G6 {k:IntKind} {a b:Int} (h:a=b):Value.int k a=Value.int k b:=by rw [h]
theorem rZ (zs:List Int) (y:Int):wk zs y=(decide ((y+5) % 7<5) && !decide (y ∈ zs)):=rfl
theorem fI (n:Nat) (hn:1≤n) (l Bd Bo N c:Nat) (ao:Option Addr) (zs:List Int) (d:Int) (hd:Dn d=true) (ho:Ct zs=true) (J Jx:List Int→World→Prop)
  (hY:∀ pre x W,J pre W→pre.length<(wd zs (80000 - d).toNat).length→YieldAt Fence.wide (n - 1) prog l #[.int .i64 x] W fun e W' =>
   (e=.returned (.bool true)∧J (pre++[x]) W'∧Vu N Bo W W')∨(e=.returned (.bool false)∧Jx (pre++[x]) W'))
  (W:World) (hN:N≤W.heap.size) (cd:W.cell? ⟨Bd,0,none⟩=some (.int .i64 d)) (co:W.cell? ⟨Bo,0,none⟩=some (.slice ao zs.length c)) (hz:Il N W ao zs) (h0:J [] W) :
  CallsIn Fence.wide n prog 354 #[.func (.yield l) #[] #[],.pointer (some ⟨Bd,0,none⟩),.pointer (some ⟨Bo,0,none⟩)] W fun e W'=>(∃ v,e=.returned v) ∧
   ((∃ ys,ys=wd zs (80000 - d).toNat∧J ys W')∨(∃ pre,pre <+: wd zs (80000 - d).toNat∧Jx pre W')):=by
 have hb:=Ei hd;have HL:Hid _:=pF ho;have HA:Hid _:=pD ho;clear hd ho;refine callsIn_of_wp func354 rfl trivial ?_ rfl
 simp only [ntmps354,List.size_toArray,List.length_cons,List.length_nil,Nat.reduceAdd,Nat.reduceSub,Array.replicate_succ,Array.replicate_zero,List.push_toArray,List.append_toArray,List.nil_append,List.cons_append]
 gi_wp2
 gi_loopw [4] (fun p wr=>∃ (f:Nat) (pre:List Int),f≤80000∧p=.int .i64 (80001 - f)∧pre++wd zs f=wd zs (80000 - d).toNat∧J pre wr∧Vu N Bo W wr) (fun p _=>(80001 - intOf p).toNat)
 case atStart=>exact ⟨(80000 - d).toNat,[],by omega,G6 (by omega),rfl,h0,bR,fun _ h=>h⟩
 case round =>
  obtain ⟨f,pre,hf,rfl,hx,hJs,hk⟩:=hrel;have HX:Hid _:=hx;clear hx;obtain ⟨y,hy⟩:∃ y:Int,80001 - (f:Int)=y:=⟨_,rfl⟩;rw [hy];have HY:Hid _:=hy
  by_cases hyl:y≤80000
  ·obtain ⟨g,rfl⟩:∃ g,f=g+1:=⟨f - 1,by omega⟩
   have hyg:80000 - (g:Int)=y:=by omega
   have hyd:Dn y=true:=Nq (by omega) hyl
   have HG:Hid _:=hyg
   have hy0:0≤y:=by omega
   clear hy hyg;have hwe:=rZ zs y;have HW:Hid _:=hwe;clear hwe;have co':wr.cell? ⟨Bo,0,none⟩=some (.slice ao zs.length c):=hk.2 _ co;have HZ:Hid (Aw wr ao zs):=(hz.keep hk.1).at (Nat.le_trans hN hk.1.size);have hn':1≤n:=hn
   by_cases h5:(y+5) % 7<5
   ·have hdec:decide ((y+5) % 7<5)=true:=decide_eq_true h5
    by_cases hin:y ∈ zs
    ·have hdin:decide (y ∈ zs)=true:=decide_eq_true hin
     have HN:Hid (wk zs y=false):=by rw [Hid,HW.o,hdec,hdin];rfl
     clear h5 hin
     gi_wp2_with fail
     refine ⟨trivial,(callsIn_wide.2 (Jv _ _ hyd)).mono ?_⟩;rintro e w1 ⟨rfl,hw1⟩;subst hw1;rw [hdec]
     gi_wp2_with fail
     refine ⟨trivial,(callsIn_wide.2 (cI _ _ _ zs _ HZ.o HL.o HA.o)).mono ?_⟩;rintro e w1 ⟨rfl,hw1⟩;subst hw1;rw [hdin]
     gi_wp2
     go_roundw
     case rel=>exact ⟨g,pre,by omega,G6 (by have:=HG.o;omega),by rw [← HX.o,kN (by rw [HG.o];exact HN.o)],hJs,hk⟩
     case measure=>simp [intOf];have:=HG.o;omega
    ·have hdin:decide (y ∈ zs)=false:=decide_eq_false hin
     have HN:Hid (wk zs y=true):=by rw [Hid,HW.o,hdec,hdin];rfl
     have HX2:Hid (wd zs (80000 - d).toNat=(pre++[y])++wd zs g):=by rw [Hid,← HX.o,mN (by rw [HG.o];exact HN.o),HG.o];simp
     clear h5 hin
     obtain ⟨fn,tmps,assign,body,hyy,hR⟩:=hY pre y wr hJs (by rw [HX2.o];simp)
     gi_wp2_with fail
     refine ⟨trivial,(callsIn_wide.2 (Jv _ _ hyd)).mono ?_⟩;rintro e w1 ⟨rfl,hw1⟩;subst hw1;rw [hdec]
     gi_wp2_with fail
     refine ⟨trivial,(callsIn_wide.2 (cI _ _ _ zs _ HZ.o HL.o HA.o)).mono ?_⟩;rintro e w1 ⟨rfl,hw1⟩;subst hw1;rw [hdin]
     gi_wp2
     refine hR.mono ?_
     rintro e W3 (⟨rfl,hJ3,hk3⟩ | ⟨rfl,hJx3⟩)
     ·gi_wp2
      go_roundw
      case rel=>exact ⟨g,pre++[y],by omega,G6 (by have:=HG.o;omega),HX2.o.symm,hJ3,kS hk hk3⟩
      case measure=>simp [intOf];have:=HG.o;omega
     ·gi_wp2
      refine bodyPost_ret (results_none rfl _ _ _) rfl ?_;exact ⟨⟨_,rfl⟩,.inr ⟨pre++[y],⟨wd zs g,HX2.o.symm⟩,hJx3⟩⟩
   ·have hdec:decide ((y+5) % 7<5)=false:=decide_eq_false h5
    have HN:Hid (wk zs y=false):=by rw [Hid,HW.o,hdec];rfl
    clear h5
    gi_wp2_with fail
    refine ⟨trivial,(callsIn_wide.2 (Jv _ _ hyd)).mono ?_⟩;rintro e w1 ⟨rfl,hw1⟩;subst hw1;rw [hdec]
    gi_wp2
    refine ⟨trivial,?_⟩
    gi_wp2
    go_roundw
    case rel=>exact ⟨g,pre,by omega,G6 (by have:=HG.o;omega),by rw [← HX.o,kN (by rw [HG.o];exact HN.o)],hJs,hk⟩
    case measure=>simp [intOf];have:=HG.o;omega
  ·have hf0:f=0:=by omega
   subst hf0;clear hy
   gi_wp2
   go_end0
   exact ⟨⟨_,rfl⟩,.inl (by rw [← HX.o];simpa [wd] using hJs)⟩
theorem Un (n:Nat) (hn:1≤n) (Bd Bo N c:Nat) (ao:Option Addr) (zs:List Int) (d:Int) (w:World) (hd:Dn d=true) (ho:Ct zs=true) (hBd:Bd<w.heap.size) (hBo:Bo<w.heap.size) (hN:N≤w.heap.size)
  (cd:w.cell? ⟨Bd,0,none⟩=some (.int .i64 d)) (co:w.cell? ⟨Bo,0,none⟩=some (.slice ao zs.length c)) (hz:Il N w ao zs) :
  SeqStopsK Fence.wide n prog 354 #[.pointer (some ⟨Bd,0,none⟩),.pointer (some ⟨Bo,0,none⟩)] (fun x:Int=>#[Value.int .i64 x]) (Vu N Bo)
   (fun ys=>ys=wd zs (80000 - d).toNat) (fun pre=>pre <+: wd zs (80000 - d).toNat) (wd zs (80000 - d).toNat).length w:=fun l J Jx W hW _ _ hY h0 =>
 fI n hn l Bd Bo N c ao zs d hd ho J Jx hY W (Nat.le_trans hN hW.size) ((hW.cell (p:=⟨Bd,0,none⟩) hBd).trans cd) ((hW.cell (p:=⟨Bo,0,none⟩) hBo).trans co) (hz.keep (hW.mono hN)) h0
theorem Re (ao:Option Addr) (m c:Nat) (d:Int) (w:World) :
  Calls prog 348 #[.slice ao m c,.int .i64 d] w fun e w' =>
   e=.returned (.func (.func 354) #[] #[.pointer (some ⟨w.heap.size+1,0,none⟩),.pointer (some ⟨w.heap.size,0,none⟩)]) ∧
   w'=(w.alloc (.cells #[.slice ao m c] 120)).alloc (.cells #[.int .i64 d] 3):=by
 go_enter func348,ntmps348
 go_wp2;go_ret;exact ⟨rfl,rfl⟩
theorem Ps {d n:Int} {zs:List Int} (h:Dn d=false∨n<0∨400<n∨Ct zs=false):Lh d n zs=none:=by
 unfold Lh;rw [if_neg];rintro ⟨a,b,c,e⟩
 rcases h with h | h | h | h
 ·rw [a] at h;cases h
 ·omega
 ·omega
 ·rw [e] at h;cases h
theorem V6 {d n:Int} {zs:List Int} (a:Dn d=true) (b:0≤n) (c:n≤400) (e:Ct zs=true):Lh d n zs=Pk zs (80000 - d).toNat n.toNat:=by
 unfold Lh;rw [if_pos ⟨a,b,c,e⟩]
theorem Si (w:World) (x:Int) (y:Bool):((w.alloc (.cells #[.int .i64 x] 3)).alloc (.cells #[.bool y] 4)).cell? ⟨w.heap.size,0,none⟩=some (.int .i64 x) ∧
  ((w.alloc (.cells #[.int .i64 x] 3)).alloc (.cells #[.bool y] 4)).cell? ⟨w.heap.size+1,0,none⟩=some (.bool y):=by
 refine ⟨?_,?_⟩
 ·rw [World.cell?_alloc_lt _ _ _ (by simp)];simp
 ·rw [← World.size_alloc w (.cells #[.int .i64 x] 3)];simp
theorem Hi (w:World) (o o':Obj):Below w.heap.size w ((w.alloc o).alloc o'):=((Below.refl _ w).alloc nL _).alloc (by simp) _
theorem oH (d n:Int) (ao:Option Addr) (c:Nat) (zs:List Int) (w:World) (hx:Aw w ao zs) (h1:zs.length≤1099511627776) (h:Dn d=false∨n<0∨400<n∨Ct zs=false) :
  Calls prog 338 #[.int .i64 d,.int .i64 n,.slice ao zs.length c] w fun e w'=>e=.returned (.tuple #[.int .i64 0,.bool false])∧BW w w':=by
 have HX:Hid (Aw w ao zs):=hx;clear hx;have tc:=Si w 0 false;have HB:Hid _:=Hi w (.cells #[.int .i64 0] 3) (.cells #[.bool false] 4)
 cases hd:Dn d
 ·go_enter func338,ntmps338
  go_wp2_with fail
  refine (Bm _ _).mono ?_;rintro e w' ⟨rfl,hw⟩;subst hw;go_wp2
  refine bodyPost_ret (v:=.tuple #[.int .i64 0,.bool false]) (by simp [results,Tryz.f338,go_sem]) rfl ⟨rfl,HB.o⟩
 ·by_cases hn0:n<0
  ·go_enter func338,ntmps338
   go_wp2_with fail
   refine (Bm _ _).mono ?_;rintro e w' ⟨rfl,hw⟩;subst hw;go_wp2
   refine bodyPost_ret (v:=.tuple #[.int .i64 0,.bool false]) (by simp [results,Tryz.f338,go_sem]) rfl ⟨rfl,HB.o⟩
  ·by_cases hn4:400<n
   ·go_enter func338,ntmps338
    go_wp2_with fail
    refine (Bm _ _).mono ?_;rintro e w' ⟨rfl,hw⟩;subst hw;go_wp2
    refine bodyPost_ret (v:=.tuple #[.int .i64 0,.bool false]) (by simp [results,Tryz.f338,go_sem]) rfl ⟨rfl,HB.o⟩
   ·have ho:Ct zs=false:=by
      rcases h with h | h | h | h
      ·rw [hd] at h;cases h
      ·omega
      ·omega
      ·exact h
    clear h
    go_enter func338,ntmps338
    go_wp2_with fail
    refine (Bm _ _).mono ?_;rintro e w' ⟨rfl,hw⟩;subst hw;go_wp2_with fail
    refine (Pp _ _ zs _ (Aw.below HX.o HB.o) h1).mono ?_;rintro e w' ⟨rfl,hw⟩;subst hw;go_wp2
    refine bodyPost_ret (v:=.tuple #[.int .i64 0,.bool false]) (by simp [results,Tryz.f338,go_sem]) rfl ⟨rfl,HB.o⟩
theorem gN (d:Int) (ao:Option Addr) (c:Nat) (zs:List Int) (w:World) (hx:Aw w ao zs) (h1:zs.length≤1099511627776) (hd:Dn d=true) (ho:Ct zs=true) :
  Calls prog 338 #[.int .i64 d,.int .i64 0,.slice ao zs.length c] w fun e w'=>e=.returned (.tuple #[.int .i64 d,.bool true])∧BW w w':=by
 have HX:Hid (Aw w ao zs):=hx;clear hx;have tc:=Si w d true;have HB0:Hid _:=Hi w (.cells #[.int .i64 0] 3) (.cells #[.bool false] 4);have HB:Hid _:=Hi w (.cells #[.int .i64 d] 3) (.cells #[.bool true] 4)
 go_enter func338,ntmps338
 go_wp2_with fail
 refine (Bm _ _).mono ?_;rintro e w' ⟨rfl,hw⟩;subst hw;go_wp2_with fail
 refine (Pp _ _ zs _ (Aw.below HX.o HB0.o) h1).mono ?_;rintro e w' ⟨rfl,hw⟩;subst hw;go_wp2
 refine bodyPost_ret (v:=.tuple #[.int .i64 d,.bool true]) (by simp [results,Tryz.f338,go_sem]) rfl ⟨rfl,HB.o⟩
def Cl (W:World) (k:Nat) (v:Value):Prop:=W.cell? ⟨k,0,none⟩=some v∧W.frozen? ⟨k,0,none⟩=false
theorem Cl.kept {W W':World} {row:Option Nat} {k:Nat} {v:Value} (h:Cl W k v) (hg:W.grownBy W' row) (hr:∀ r,row=some r→∃ o:Obj,W.heap[r]?=some o∧o.isCells=false):Cl W' k v :=
 ⟨cell_kept h.1 hg hr,(frozen_kept h.1 hg hr).trans h.2⟩
theorem Cl.new (W:World) (v:Value) (t:TypeId):Cl (W.alloc (.cells #[v] t)) W.heap.size v:=by
 have h:=World.alloc_heap_new W (.cells #[v] t)
 constructor
 ·unfold World.cell?
  simp only [h]
  rfl
 ·unfold World.frozen?
  simp only [h]
  rfl
theorem Cl.alloc {W:World} {k:Nat} {v:Value} (h:Cl W k v) (o:Obj):Cl (W.alloc o) k v:=h.kept (World.grownBy_alloc W o none) (fun r e=>by cases e)
theorem Cl.other {W:World} {k j:Nat} {v u:Value} (h:Cl W k v) (hj:j≠k):Cl (W.setCell ⟨j,0,none⟩ u) k v:=by
 refine ⟨?_,by rw [World.frozen?_setCell];exact h.2⟩
 rw [World.cell?_setCell_other W ⟨j,0,none⟩ u (b:=⟨k,0,none⟩) (fun e=>by injection e with e1;exact hj e1)];exact h.1
theorem Cl.same {W:World} {k:Nat} {v u:Value} (h:Cl W k v):Cl (W.setCell ⟨k,0,none⟩ u) k u :=
 ⟨World.cell?_setCell_same W ⟨k,0,none⟩ u h.1,by rw [World.frozen?_setCell];exact h.2⟩
theorem Cl.put {W:World} {k D:Nat} {v:Value} {o o':Obj} (h:Cl W k v) (hD:W.heap[D]?=some o) (ho:o.isCells=false):Cl (W.putObj D o') k v :=
 h.kept (grownBy_putObj' W D o') (fun r e=>by cases e;exact ⟨_,hD,ho⟩)
theorem Ld {N j:Nat} {w W:World} (h:Below N w W) (hj:N≤j) (u:Value):Below N w (W.setCell ⟨j,0,none⟩ u):=h.setCell (p:=⟨j,0,none⟩) hj u
theorem mF {N Bo j:Nat} (W:World) (u:Value) (hN:N≤j) (hj:j≠Bo):Vu N Bo W (W.setCell ⟨j,0,none⟩ u) :=
 ⟨(Below.refl N W).setCell (p:=⟨j,0,none⟩) hN _,fun v hv=>by
  rw [World.cell?_setCell_other W ⟨j,0,none⟩ u (b:=⟨Bo,0,none⟩) (fun e=>by injection e with e1;exact hj e1)];exact hv⟩
theorem mE {zs:List Int} {f m:Nat} (hm:1≤m) (h:(wd zs f).length<m):Pk zs f m=none:=by
 obtain ⟨k,rfl⟩:∃ k,m=k+1:=⟨m - 1,by omega⟩
 rw [Pk];exact List.getElem?_eq_none (by omega)
theorem nJ {zs:List Int} {f m:Nat} {pre:List Int} {x:Int} (hp:pre++[x] <+: wd zs f) (hm:(pre++[x]).length=m):Pk zs f m=some x:=by
 obtain ⟨t,ht⟩:=hp
 simp at hm
 subst hm
 rw [Pk,← ht];simp
theorem tJ (w:World) (m:Nat) (ao:Option Addr) (k c:Nat) (d:Int):∀ W0,W0=(((((w.alloc (.cells #[.int .i64 0] 3)).alloc (.cells #[.bool false] 4)).alloc (.cells #[.int .i64 m] 3)).alloc (.cells #[.slice ao k c] 120)).alloc (.cells #[.int .i64 d] 3)) →
  W0.heap.size=w.heap.size+5∧BW w W0∧Cl W0 w.heap.size (.int .i64 0)∧Cl W0 (w.heap.size+1) (.bool false)∧Cl W0 (w.heap.size+1+1) (.int .i64 m)∧Cl W0 (w.heap.size+1+1+1) (.slice ao k c)∧Cl W0 (w.heap.size+1+1+1+1) (.int .i64 d):=by
 rintro _ rfl;have z1:=World.size_alloc w (.cells #[.int .i64 0] 3);have z2:=World.size_alloc (w.alloc (.cells #[.int .i64 0] 3)) (.cells #[.bool false] 4);have z3:=World.size_alloc ((w.alloc (.cells #[.int .i64 0] 3)).alloc (.cells #[.bool false] 4)) (.cells #[.int .i64 m] 3);have z4:=World.size_alloc (((w.alloc (.cells #[.int .i64 0] 3)).alloc (.cells #[.bool false] 4)).alloc (.cells #[.int .i64 m] 3)) (.cells #[.slice ao k c] 120);have k1:=Cl.new w (.int .i64 0) 3;have k2:=Cl.new (w.alloc (.cells #[.int .i64 0] 3)) (.bool false) 4;have k3:=Cl.new ((w.alloc (.cells #[.int .i64 0] 3)).alloc (.cells #[.bool false] 4)) (.int .i64 m) 3;have k4:=Cl.new (((w.alloc (.cells #[.int .i64 0] 3)).alloc (.cells #[.bool false] 4)).alloc (.cells #[.int .i64 m] 3)) (.slice ao k c) 120;have k5:=Cl.new ((((w.alloc (.cells #[.int .i64 0] 3)).alloc (.cells #[.bool false] 4)).alloc (.cells #[.int .i64 m] 3)).alloc (.cells #[.slice ao k c] 120)) (.int .i64 d) 3;rw [z4,z3,z2,z1] at k5;rw [z3,z2,z1] at k4;rw [z2,z1] at k3;rw [z1] at k2;refine ⟨?_,?_,(((k1.alloc _).alloc _).alloc _).alloc _,((k2.alloc _).alloc _).alloc _,(k3.alloc _).alloc _,k4.alloc _,k5⟩
 ·rw [World.size_alloc,z4,z3,z2,z1]
 ·exact (((Hi w _ _).alloc (by rw [z2,z1];omega) _).alloc (by rw [z3,z2,z1];omega) _).alloc (by rw [z4,z3,z2,z1];omega) _
theorem gO (d:Int) (m:Nat) (ao:Option Addr) (c:Nat) (zs:List Int) (w:World) (hx:Aw w ao zs) (h1:zs.length≤1099511627776) (hd:Dn d=true) (ho:Ct zs=true) (hm0:1≤m) (hm:m≤400) :
  CallsIn Fence.wide 6 prog 338 #[.int .i64 d,.int .i64 m,.slice ao zs.length c] w fun e w'=>e=.returned (.tuple #[.int .i64 ((Pk zs (80000 - d).toNat m).getD 0),.bool (Pk zs (80000 - d).toNat m).isSome])∧BW w w':=by
 have HX:Hid (Aw w ao zs):=hx;clear hx
 have hm1:¬ (m:Int)<0:=by omega
 have hm2:¬ (400:Int)<(m:Int):=by omega
 have hm3:((m:Int) == 0)=false:=by simp;omega
 refine callsIn_of_wp_marks func338 rfl trivial ?_ rfl
 simp only [ntmps338,List.size_toArray,List.length_cons,List.length_nil,Nat.reduceAdd,Nat.reduceSub,Array.replicate_succ,Array.replicate_zero,List.push_toArray,List.append_toArray,List.nil_append,List.cons_append]
 gi_wp2_with fail
 refine ⟨trivial,(callsIn_wide.2 (Bm _ _)).mono ?_⟩;rintro e w1 ⟨rfl,hw1⟩;subst hw1
 gi_wp2_with fail
 refine ⟨trivial,(callsIn_wide.2 (Pp _ _ zs _ (Aw.below HX.o (Hi w _ _)) h1)).mono ?_⟩;rintro e w1 ⟨rfl,hw1⟩;subst hw1
 gi_wp2_with fail
 refine ⟨trivial,(callsIn_wide.2 (Re _ _ _ _ _)).mono ?_⟩;rintro e w1 ⟨rfl,hw1⟩;subst hw1
 gi_wp2_with fail
 obtain ⟨W0,hW0⟩:∃ W0,(((((w.alloc (.cells #[.int .i64 0] 3)).alloc (.cells #[.bool false] 4)).alloc (.cells #[.int .i64 m] 3)).alloc (.cells #[.slice ao zs.length c] 120)).alloc (.cells #[.int .i64 d] 3))=W0:=⟨_,rfl⟩;obtain ⟨hsz,hB0,k1,k2,k3,k4,k5⟩:=tJ w m ao zs.length c d W0 hW0.symm;rw [hW0];clear hW0;have HZ:Il w.heap.size W0 ao zs:=(Aw.in HX.o).keep hB0
 refine wpIn_rangeFunc_ownF (α:=Int) rfl (by omega) (gf:=354) (lb:=#[.pointer (some ⟨w.heap.size+1+1+1+1,0,none⟩),.pointer (some ⟨w.heap.size+1+1+1,0,none⟩)]) rfl trivial (enters_of func354 (by kernel_rfl) rfl)
  (Un 5 (by omega) (w.heap.size+1+1+1+1) (w.heap.size+1+1+1) w.heap.size c ao zs d W0 hd ho (by omega) (by omega) (by omega) k5.1 k4.1 HZ) kS (rT (by omega)) bR (fun _=>rfl)
  (fun pre W=>(pre.length<m∧Cl W (w.heap.size+1+1) (.int .i64 ((m:Int) - pre.length))∧Cl W w.heap.size (.int .i64 0)∧Cl W (w.heap.size+1) (.bool false))∧BW w W)
  (fun cd pre W=>(cd=.ret∧∃ (p:List Int) (x:Int),pre=p++[x]∧pre.length=m∧Cl W w.heap.size (.int .i64 x)∧Cl W (w.heap.size+1) (.bool true))∧BW w W)
  (OwnFrom.and (Own.from (fun s A B row hs hg hr=>⟨hs.1,hs.2.1.kept hg hr,hs.2.2.1.kept hg hr,hs.2.2.2.kept hg hr⟩) _) (ownFrom_below nL (by omega)))
  (fun cd=>OwnFrom.and (Own.from (fun s A B row hs hg hr=>by obtain ⟨e1,p,x,e2,e3,e4,e5⟩:=hs;exact ⟨e1,p,x,e2,e3,e4.kept hg hr,e5.kept hg hr⟩) _) (ownFrom_below nL (by omega)))
  ⟨⟨by simp;omega,by simpa using k3,k1,k2⟩,hB0⟩
  (fun x=>{ tmps:=#[.int .i64 d,.int .i64 m,.slice ao zs.length c,undef,undef,undef,.pointer (some ⟨w.heap.size,0,none⟩),.pointer (some ⟨w.heap.size+1,0,none⟩),.slice ao zs.length c,.pointer (some ⟨w.heap.size+1+1,0,none⟩),.int .i64 x,.slice ao zs.length c,.int .i64 d,.bool true,.bool false,.bool false,.int .i64 m,.bool (decide ((m:Int)<0)),.bool (decide ((m:Int)<0)),.bool (decide ((m:Int)<0)),.int .i64 m,.bool (decide ((400:Int)<(m:Int))),.bool (decide ((m:Int)<0) || decide ((400:Int)<(m:Int))),.bool (decide ((m:Int)<0) || decide ((400:Int)<(m:Int))),.slice ao zs.length c,.bool true,.bool false,.bool (decide ((m:Int)<0) || decide ((400:Int)<(m:Int))),.int .i64 m,.bool false,undef,.int .i64 m,.slice ao zs.length c,.int .i64 d,.func (.func 354) #[] #[.pointer (some ⟨w.heap.size+1+1+1+1,0,none⟩),.pointer (some ⟨w.heap.size+1+1+1,0,none⟩)],.int .i64 x,undef,undef,undef,undef,undef],defers:=[] }) ?assign ?body ?done ?stop
 case assign =>
  intro l x W K hK;have hsm:=Oper.semAt_some
  gi_wp2
  exact hK
 case body =>
  rintro l pre x W ⟨⟨hlen,kl,ka,kb⟩,hB⟩ _;obtain ⟨v,hv⟩:∃ v:Int,(m:Int) - pre.length=v:=⟨_,rfl⟩;rw [hv] at kl
  have hv1:1≤v:=by omega
  have hv2:v≤400:=by omega
  have HV:Hid _:=hv;have kl1:=kl.1;have kl2:=kl.2;have ka1:=ka.1;have ka2:=ka.2;have kb1:=kb.1;have kb2:=kb.2;clear hv
  cases he:(v - 1 == 0)
  ·have hne:v≠1:=by intro h;subst h;simp at he
   have hsm:=Oper.semAt_some
   gi_wp2
   exact ⟨KeepsOthers.setCell _ _ _,mF W _ (by omega) (by omega),⟨by have:=HV.o;simp;omega,by rw [show (m:Int) - (pre++[x]).length=v - 1 from by have:=HV.o;simp;omega];exact kl.same,ka.other (by omega),kb.other (by omega)⟩,Ld hB (by omega) _⟩
  ·have hve0:v - 1=0:=by simpa using he
   have hve:v=1:=by omega
   have hsm:=Oper.semAt_some
   gi_wp2
   refine ⟨((KeepsOthers.setCell _ _ _).trans (KeepsOthers.setCell _ _ _)).trans (KeepsOthers.setCell _ _ _),⟨rfl,pre,x,rfl,by have:=HV.o;simp;omega,((ka.other (by omega)).same).other (by omega),((kb.other (by omega)).other (by omega)).same⟩,?_⟩
   exact Ld (Ld (Ld hB (by omega) _) nL _) (by omega) _
 case done =>
  rintro D ys W hD rfl ⟨⟨hlen,kl,ka,kb⟩,hB⟩ hK;have HN:Hid _:=mE hm0 hlen;have ka1:=ka.1;have ka2:=ka.2;have kb1:=kb.1;have kb2:=kb.2
  gi_wp2
  have hK':=(KeepsOthers.setCell (W.setCell ⟨w.heap.size,0,none⟩ (.int .i64 0)) ⟨w.heap.size+1,0,none⟩ (.bool false)).same D _ ((KeepsOthers.setCell W ⟨w.heap.size,0,none⟩ (.int .i64 0)).same D _ hK rfl) rfl
  refine ⟨by simp,.inl ⟨_,_,rfl,run_takeDeferred hK',?_⟩⟩
  have qa:=(((ka.same (u:=.int .i64 0)).other (j:=w.heap.size+1) (u:=.bool false) (by omega)).put (o':=.deferred none) hK' rfl).1
  have qb:=(((kb.other (j:=w.heap.size) (u:=.int .i64 0) (by omega)).same (u:=.bool false)).put (o':=.deferred none) hK' rfl).1
  refine ⟨.tuple #[.int .i64 0,.bool false],?_,by rw [HN.o];rfl,(Ld (Ld hB nL _) (by omega) _).trans (belowK_b (w:=w) nL _ D _ _ (by omega) hK' rfl rfl)⟩
  simp [results,Tryz.f338,go_sem,qa,qb]
 case stop =>
  rintro D cd pre W hD hpre ⟨⟨rfl,p,x,rfl,hlen,ka,kb⟩,hB⟩ hK;have HN:Hid _:=nJ hpre hlen
  gi_wp2
  refine ⟨by simp,.inl ⟨_,_,rfl,run_takeDeferred hK,?_⟩⟩
  have qa:=(ka.put (o':=.deferred none) hK rfl).1;have qb:=(kb.put (o':=.deferred none) hK rfl).1
  refine ⟨.tuple #[.int .i64 x,.bool true],?_,by rw [HN.o];rfl,hB.trans (belowK_b (w:=w) nL W D _ _ (by omega) hK rfl rfl)⟩
  simp [results,Tryz.f338,go_sem,qa,qb]
theorem V1 (d n:Int) (ao:Option Addr) (c:Nat) (zs:List Int) (w:World) (hx:Aw w ao zs) (h1:zs.length≤1099511627776) :
  Calls prog 338 #[.int .i64 d,.int .i64 n,.slice ao zs.length c] w fun e w'=>e=.returned (.tuple #[.int .i64 ((Lh d n zs).getD 0),.bool (Lh d n zs).isSome])∧BW w w':=by
 by_cases h:Dn d=false∨n<0∨400<n∨Ct zs=false
 ·rw [Ps h];exact oH d n ao c zs w hx h1 h
 ·have hd:Dn d=true:=by cases e:Dn d;exact absurd (.inl e) h;rfl
  have ho:Ct zs=true:=by cases e:Ct zs;exact absurd (.inr (.inr (.inr e))) h;rfl
  obtain ⟨m,rfl⟩:=Int.eq_ofNat_of_zero_le (show 0≤n by omega)
  rw [V6 hd (by omega) (by omega) ho,show ((m:Int)).toNat=m from by omega]
  cases m with
  | zero =>
   have hb:=Ei hd
   rw [Wb,show 80000 - (((80000 - d).toNat:Nat):Int)=d from by omega]
   exact gN d ao c zs w hx h1 hd ho
  | succ m=>exact callsIn_wide.1 (gO d (m+1) ao c zs w hx h1 hd ho (by omega) (by omega))
theorem nP (w:World) (b:Int) (ao:Option Addr) (k c:Nat) (d:Int):∀ W0,W0=((((w.alloc (.cells #[.int .i64 b] 3)).alloc (.cells #[.int .i64 0] 3)).alloc (.cells #[.slice ao k c] 120)).alloc (.cells #[.int .i64 d] 3)) →
  W0.heap.size=w.heap.size+4∧BW w W0∧Cl W0 w.heap.size (.int .i64 b)∧Cl W0 (w.heap.size+1) (.int .i64 0)∧Cl W0 (w.heap.size+1+1) (.slice ao k c)∧Cl W0 (w.heap.size+1+1+1) (.int .i64 d):=by
 rintro _ rfl;have z1:=World.size_alloc w (.cells #[.int .i64 b] 3);have z2:=World.size_alloc (w.alloc (.cells #[.int .i64 b] 3)) (.cells #[.int .i64 0] 3);have z3:=World.size_alloc ((w.alloc (.cells #[.int .i64 b] 3)).alloc (.cells #[.int .i64 0] 3)) (.cells #[.slice ao k c] 120);have k1:=Cl.new w (.int .i64 b) 3;have k2:=Cl.new (w.alloc (.cells #[.int .i64 b] 3)) (.int .i64 0) 3;have k3:=Cl.new ((w.alloc (.cells #[.int .i64 b] 3)).alloc (.cells #[.int .i64 0] 3)) (.slice ao k c) 120;have k4:=Cl.new (((w.alloc (.cells #[.int .i64 b] 3)).alloc (.cells #[.int .i64 0] 3)).alloc (.cells #[.slice ao k c] 120)) (.int .i64 d) 3;rw [z3,z2,z1] at k4;rw [z2,z1] at k3;rw [z1] at k2;refine ⟨?_,?_,((k1.alloc _).alloc _).alloc _,(k2.alloc _).alloc _,k3.alloc _,k4⟩
 ·rw [World.size_alloc,z3,z2,z1]
 ·exact ((Hi w _ _).alloc (by rw [z2,z1];omega) _).alloc (by rw [z3,z2,z1];omega) _
end Go.Proofs.YtomiclakhjncbaaGreatDoor
namespace Go.Proofs.YtomiclakhjncbaaGreatDoor
open Go.RowKit Go.Proofs.Tryz
set_option maxRecDepth 100000
set_option maxHeartbeats 12800000
theorem V0 (d n:Int) (ao:Option Addr) (c:Nat) (zs:List Int) (w:World) (hx:Aw w ao zs) (h1:zs.length≤1099511627776) :
  Calls prog 264 #[.int .i64 d,.int .i64 n,.slice ao zs.length c] w fun e w'=>e=.returned (.tuple #[.int .i64 ((Lh d n zs).getD 0),.bool (Lh d n zs).isSome])∧BW w w':=by
 have HX:Hid (Aw w ao zs):=hx;clear hx
 cases hd:Dn d
 ·have HN:Hid _:=Ps (n:=n) (zs:=zs) (.inl hd)
  go_enter func264,ntmps264
  go_wp2_with fail
  refine (A9 _ _).mono ?_;rintro e w' ⟨rfl,hw⟩;subst hw;go_wp2;go_ret2
  exact ⟨Ji (by rw [HN.o];rfl) (by rw [HN.o];rfl),bR⟩
 ·cases hn:Gk n 0 400
  ·have HN:Hid (Lh d n zs=none):=by
     refine Ps ?_
     by_cases h0:n<0
     ·exact .inr (.inl h0)
     ·by_cases h4:400<n
      ·exact .inr (.inr (.inl h4))
      ·rw [Uh (by omega) (by omega)] at hn;cases hn
   go_enter func264,ntmps264
   go_wp2_with fail
   refine (A9 _ _).mono ?_;rintro e w' ⟨rfl,hw⟩;subst hw;go_wp2_with fail
   refine (Dl _ _ _ _).mono ?_;rintro e w' ⟨rfl,hw⟩;subst hw;go_wp2;go_ret2
   exact ⟨Ji (by rw [HN.o];rfl) (by rw [HN.o];rfl),bR⟩
  ·have hnb:0≤n∧n≤400:=by simpa [Gk] using hn
   cases ho:Ct zs
   ·have HN:Hid _:=Ps (d:=d) (n:=n) (.inr (.inr (.inr ho)))
    go_enter func264,ntmps264
    go_wp2_with fail
    refine (A9 _ _).mono ?_;rintro e w' ⟨rfl,hw⟩;subst hw;go_wp2_with fail
    refine (Dl _ _ _ _).mono ?_;rintro e w' ⟨rfl,hw⟩;subst hw;go_wp2_with fail
    refine (Rk _ _ zs _ HX.o h1).mono ?_;rintro e w1 ⟨rfl,b1⟩;go_wp2;go_ret2
    exact ⟨Ji (by rw [HN.o];rfl) (by rw [HN.o];rfl),b1⟩
   ·have HV:Hid _:=V6 hd hnb.1 hnb.2 ho
    have hdb:=Ei hd
    go_enter func264,ntmps264
    go_wp2_with fail
    refine (A9 _ _).mono ?_;rintro e w' ⟨rfl,hw⟩;subst hw;go_wp2_with fail
    refine (Dl _ _ _ _).mono ?_;rintro e w' ⟨rfl,hw⟩;subst hw;go_wp2_with fail
    refine (Rk _ _ zs _ HX.o h1).mono ?_;rintro e w1 ⟨rfl,b1⟩;have HX1:Hid (Aw w1 ao zs):=Aw.below HX.o b1;go_wp2
    go_loop [0,1] (fun p q=>∃ (f m:Nat),f≤80000∧m≤400∧p=.int .i64 (80000 - f)∧q=.int .i64 m∧Pk zs f m=Pk zs (80000 - d).toNat n.toNat) (fun p _=>(80000 - intOf p).toNat)
    case atStart=>exact ⟨(80000 - d).toNat,n.toNat,by omega,by omega,G6 (by omega),G6 (by omega),rfl⟩
    case round =>
     obtain ⟨f,m,hf,hm,rfl,rfl,ht⟩:=hrel;have HT:Hid _:=ht;clear ht;obtain ⟨y,hy⟩:∃ y:Int,80000 - (f:Int)=y:=⟨_,rfl⟩;rw [hy]
     have hy1:0≤y:=by omega
     have hy2:y≤80000:=by omega
     have HY:Hid _:=hy
     cases m with
     | zero =>
      have HE:Hid (Lh d n zs=some y):=by rw [Hid,HV.o,← HT.o,Wb,hy]
      clear hy;go_wp2;go_ret2
      exact ⟨Ji (by rw [HE.o];rfl) (by rw [HE.o];rfl),b1⟩
     | succ m =>
      have hmp:(0:Int)<((m+1:Nat):Int):=by omega
      cases f with
      | zero =>
       have hye:y=80000:=by omega
       have HE:Hid (Lh d n zs=none):=by rw [Hid,HV.o,← HT.o,pC]
       have hdk:Dn (y+1)=false:=pI (by omega)
       clear hy;go_wp2_with fail
       refine (A9 _ _).mono ?_;rintro e w' ⟨rfl,hw⟩;subst hw;go_wp2;go_ret2
       exact ⟨Ji (by rw [HE.o];rfl) (by rw [HE.o];rfl),b1⟩
      | succ f =>
       have HF:Hid (80000 - (f:Int)=y+1):=by rw [Hid];omega
       have hye:y≤79999:=by omega
       have hdk:Dn (y+1)=true:=Nq (by omega) (by omega)
       cases hw2:wk zs (y+1)
       ·have HR:Hid (Pk zs f (m+1)=Pk zs (80000 - d).toNat n.toNat):=by rw [Hid,← HT.o,qO (by rw [HF.o];exact hw2)]
        clear hy;go_wp2_with fail
        refine (A9 _ _).mono ?_;rintro e w' ⟨rfl,hw⟩;subst hw;go_wp2_with fail
        refine (Oh _ _ _ zs _ HX1.o h1 hdk).mono ?_;rintro e w' ⟨rfl,hw⟩;subst hw;go_wp2
        go_round
        case rel=>exact ⟨f,m+1,by omega,hm,G6 HF.o.symm,rfl,HR.o⟩
        case measure=>simp [intOf];omega
       ·have HR:Hid (Pk zs f m=Pk zs (80000 - d).toNat n.toNat):=by rw [Hid,← HT.o,oO (by rw [HF.o];exact hw2)]
        clear hy;go_wp2_with fail
        refine (A9 _ _).mono ?_;rintro e w' ⟨rfl,hw⟩;subst hw;go_wp2_with fail
        refine (Oh _ _ _ zs _ HX1.o h1 hdk).mono ?_;rintro e w' ⟨rfl,hw⟩;subst hw;go_wp2
        go_round
        case rel=>exact ⟨f,m,by omega,by omega,G6 HF.o.symm,G6 (by omega),HR.o⟩
        case measure=>simp [intOf];omega
def C6 (d n:Int) (zs:List Int):Int:=(Lh d n zs).getD (-1)
theorem bO {d n:Int} {zs:List Int} (h:Lh d n zs=none):C6 d n zs = -1:=by rw [C6,h];rfl
theorem Vz {d n y:Int} {zs:List Int} (h:Lh d n zs=some y):C6 d n zs=y:=by rw [C6,h];rfl
theorem Wi (d n:Int) (ao:Option Addr) (c:Nat) (zs:List Int) (w:World) (hx:Aw w ao zs) (h1:zs.length≤1099511627776) :
  Calls prog 330 #[.int .i64 d,.int .i64 n,.slice ao zs.length c] w fun e w'=>e=.returned (.int .i64 (C6 d n zs))∧BW w w':=by
 cases h:Lh d n zs with
 | none =>
  have HV:Hid _:=bO h
  have HC:Hid (Calls prog 338 #[.int .i64 d,.int .i64 n,.slice ao zs.length c] w fun e w'=>e=.returned (.tuple #[.int .i64 0,.bool false])∧BW w w'):=by
   have g:=V1 d n ao c zs w hx h1;rw [h] at g;exact g
  clear hx
  go_enter func330,ntmps330
  go_wp2_with fail
  refine Calls.mono HC.o ?_;rintro e w1 ⟨rfl,b1⟩;go_wp2;go_ret;exact ⟨Af HV.o.symm,b1⟩
 | some y =>
  have HV:Hid _:=Vz h
  have HC:Hid (Calls prog 338 #[.int .i64 d,.int .i64 n,.slice ao zs.length c] w fun e w'=>e=.returned (.tuple #[.int .i64 y,.bool true])∧BW w w'):=by
   have g:=V1 d n ao c zs w hx h1;rw [h] at g;exact g
  clear hx
  go_enter func330,ntmps330
  go_wp2_with fail
  refine Calls.mono HC.o ?_;rintro e w1 ⟨rfl,b1⟩;go_wp2;go_ret;exact ⟨Af HV.o.symm,b1⟩
theorem Ir (d n:Int) (ao:Option Addr) (c:Nat) (zs:List Int) (w:World) (hx:Aw w ao zs) (h1:zs.length≤1099511627776) :
  Calls prog 222 #[.int .i64 d,.int .i64 n,.slice ao zs.length c] w fun e w'=>e=.returned (.int .i64 (C6 d n zs))∧BW w w':=by
 cases h:Lh d n zs with
 | none =>
  have HV:Hid _:=bO h
  have HC:Hid (Calls prog 264 #[.int .i64 d,.int .i64 n,.slice ao zs.length c] w fun e w'=>e=.returned (.tuple #[.int .i64 0,.bool false])∧BW w w'):=by
   have g:=V0 d n ao c zs w hx h1;rw [h] at g;exact g
  clear hx
  go_enter func222,ntmps222
  go_wp2_with fail
  refine Calls.mono HC.o ?_;rintro e w1 ⟨rfl,b1⟩;go_wp2;go_ret;exact ⟨Af HV.o.symm,b1⟩
 | some y =>
  have HV:Hid _:=Vz h
  have HC:Hid (Calls prog 264 #[.int .i64 d,.int .i64 n,.slice ao zs.length c] w fun e w'=>e=.returned (.tuple #[.int .i64 y,.bool true])∧BW w w'):=by
   have g:=V0 d n ao c zs w hx h1;rw [h] at g;exact g
  clear hx
  go_enter func222,ntmps222
  go_wp2_with fail
  refine Calls.mono HC.o ?_;rintro e w1 ⟨rfl,b1⟩;go_wp2;go_ret;exact ⟨Af HV.o.symm,b1⟩
end Go.Proofs.YtomiclakhjncbaaGreatDoor
namespace Go.Proofs.YtomiclakhjncbaaGreatDoor
open Go.Proofs.Tryz
set_option maxRecDepth 100000
set_option maxHeartbeats 12800000
def Bg (c:Cs) (x:Int):List En:=if x=0 then [] else [(c.acq,c.iss,c.cur,x)]
def Dw (c:Cs) (x:Int):List En:=if x=0 then [] else [(c.iss,c.acq,c.cur,x)]
def I5 (c:Cs) (x:Int):Cs:=⟨c.iss,c.acq,c.cur,c.am,7,c.rsn,0,c.bk+x,c.fee,c.cop,c.sta,-1⟩
def Oo (c:Cs) (x:Int):Int:=if c.cl≤2*x then c.acq else c.iss
def Es (c:Cs) (x:Int):Cs:=⟨c.iss,c.acq,c.cur,c.am,7,c.rsn,0,c.bk+x,c.fee+50000,c.cop,c.sta,-1⟩
def Dg (c:Cs) (x:Int):List En:=Bg c x++[(Oo c x,9999,c.cur,50000)]
def J9 (c:Cs):Cs:=⟨c.iss,c.acq,c.cur,c.am,2,c.rsn,c.cl,c.bk,c.fee,true,c.sta,-1⟩
def Dx (st k:Int):Bool :=
 if k=0 then decide (st=0) else if k=1 then decide (st=1) else if k=2 then decide (0≤st∧st≤2) else if k=3 then decide (st=3) else if k=4 then decide (st=4)
 else if k=5 then decide (st=5) else if k=6 then decide (st=5) else if k=7 then decide (st=6) else if k=8 then decide (st=1∨3≤st∧st≤6) else if k=9 then decide (st=0∨st=2) else false
theorem Jt {st k:Int} (h:Dx st k=true):(k=0∧st=0)∨(k=1∧st=1)∨(k=2∧(st=0∨st=1∨st=2))∨(k=3∧st=3)∨(k=4∧st=4)∨(k=5∧st=5)∨(k=6∧st=5)∨(k=7∧st=6)∨(k=8∧(st=1∨st=3∨st=4∨st=5∨st=6))∨(k=9∧(st=0∨st=2)):=by
 unfold Dx at h
 repeat' split at h
 all_goals simp at h
 all_goals omega
def E4 (c:Cs) (t:Int):Bool:=c.cop || (decide (c.st=1) && Bv t c.due)
def Bs (c:Cs) (a:Ac) (t:Int) (zs:List Int):Int :=
 if Oy a.rsn=false∨(E8 a.rsn=true∧E4 c t=false) then 3
 else if ¬ (1≤a.am∧a.am≤c.am)∨(a.am<c.am∧Gb a.rsn=false) then 2
 else if Bv t (C6 c.sta (Fs a.rsn) zs)=true then 4 else 0
def B4 (c:Cs) (a:Ac) (t:Int) (zs:List Int):Int :=
 if a.kind=2 then Bs c a t zs
 else if a.kind=1∨a.kind=6 then (if Bv t c.due=true then 4 else 0)
 else if a.kind=3∨a.kind=4 then (if Bv t c.due=true then 4 else if 1≤a.am∧a.am≤c.cl then 0 else 2)
 else if a.kind=7 then (if 0≤a.am∧a.am≤c.cl then 0 else 2)
 else if a.kind=8 then (if Bv t c.due=true then 0 else 4) else 0
def Cx (c:Cs):Cs:=if c.st=1 then J9 c else if c.st=5 then I5 c c.cl else if c.st=6 then Es c (c.cl / 2) else I5 c 0
def Ck (c:Cs):List En:=if c.st=1 then [] else if c.st=5 then Bg c c.cl else if c.st=6 then Dg c (c.cl / 2) else []
def Bx (c:Cs) (a:Ac) (t:Int) (zs:List Int):Cs :=
 if a.kind=0 then ⟨c.iss,c.acq,c.cur,c.am,1,c.rsn,c.cl,c.bk,c.fee,c.cop,c.sta,C6 t 20 zs⟩
 else if a.kind=1 then J9 c
 else if a.kind=2 then ⟨c.iss,c.acq,c.cur,c.am,3,a.rsn,a.am,a.am,c.fee,c.cop,c.sta,C6 t 30 zs⟩
 else if a.kind=3 then ⟨c.iss,c.acq,c.cur,c.am,4,c.rsn,a.am,c.bk - a.am,c.fee,c.cop,c.sta,C6 t 30 zs⟩
 else if a.kind=4 then ⟨c.iss,c.acq,c.cur,c.am,5,c.rsn,a.am,c.bk,c.fee,c.cop,c.sta,C6 t 15 zs⟩
 else if a.kind=5 then I5 c c.cl
 else if a.kind=6 then ⟨c.iss,c.acq,c.cur,c.am,6,c.rsn,c.cl,c.bk,c.fee,c.cop,c.sta,C6 t 60 zs⟩
 else if a.kind=7 then Es c a.am
 else if a.kind=8 then Cx c
 else ⟨c.iss,c.acq,c.cur,c.am,7,c.rsn,c.cl,c.bk,c.fee,c.cop,c.sta,-1⟩
def Bw (c:Cs) (a:Ac):List En :=
 if a.kind=2 then Bg c a.am else if a.kind=3 then Dw c a.am else if a.kind=5 then Bg c c.cl else if a.kind=7 then Dg c a.am else if a.kind=8 then Ck c else []
def D7 (c:Cs) (t:Int) (zs:List Int):Bool:=Ao c && (Dn t && (decide (c.sta≤t) && Ct zs))
def doV (c:Cs) (a:Ac) (t:Int) (zs:List Int):Int :=
 if D7 c t zs=false then 5 else if Dx c.st a.kind=false then 1 else if B4 c a t zs≠0 then B4 c a t zs else if Ao (Bx c a t zs)=true then 0 else 1
def doC (c:Cs) (a:Ac) (t:Int) (zs:List Int):Cs:=if doV c a t zs=0 then Bx c a t zs else c
def doE (c:Cs) (a:Ac) (t:Int) (zs:List Int):List En:=if doV c a t zs=0 then Bw c a else []
theorem Lc (c:Cs) (n:Int):(Bg c n).length≤1:=by unfold Bg;split <;> simp
theorem Xq (c:Cs) (n:Int):(Dw c n).length≤1:=by unfold Dw;split <;> simp
theorem S3 (c:Cs) (n:Int):(Dg c n).length≤2:=by
 have:=Lc c n
 unfold Dg;simp;omega
theorem Xb (c:Cs):(Ck c).length≤2:=by
 have h1:=Lc c c.cl;have h2:=S3 c (c.cl / 2);unfold Ck
 split
 ·simp
 ·split
  ·omega
  ·split
   ·omega
   ·simp
theorem dZ (c:Cs) (a:Ac):(Bw c a).length≤2:=by
 have h1:=Lc c a.am;have h2:=Xq c a.am;have h3:=Lc c c.cl;have h4:=S3 c a.am;have h5:=Xb c;unfold Bw
 split
 ·omega
 ·split
  ·omega
  ·split
   ·omega
   ·split
    ·omega
    ·split
     ·omega
     ·simp
theorem bM (c:Cs) (a:Ac) (t:Int) (zs:List Int):(doE c a t zs).length≤2:=by
 unfold doE;split
 ·exact dZ c a
 ·simp
theorem Zn (c:Cs) (a:Ac) (t:Int) (zs:List Int):0≤Bs c a t zs∧Bs c a t zs≤4:=by
 unfold Bs
 split
 ·omega
 ·split
  ·omega
  ·split <;> omega
theorem iL (c:Cs) (a:Ac) (t:Int) (zs:List Int):0≤B4 c a t zs∧B4 c a t zs≤4:=by
 have h:=Zn c a t zs;unfold B4
 split
 ·exact h
 ·split
  ·split <;> omega
  ·split
   ·split
    ·omega
    ·split <;> omega
   ·split
    ·split <;> omega
    ·split
     ·split <;> omega
     ·omega
theorem kB (c:Cs) (a:Ac) (t:Int) (zs:List Int):0≤doV c a t zs∧doV c a t zs≤5:=by
 have h:=iL c a t zs;unfold doV
 split
 ·omega
 ·split
  ·omega
  ·split
   ·omega
   ·split <;> omega
end Go.Proofs.YtomiclakhjncbaaGreatDoor
namespace Go.Proofs.YtomiclakhjncbaaGreatDoor
open Go.RowKit Go.Proofs.Tryz
set_option maxRecDepth 100000
set_option maxHeartbeats 12800000
theorem Dj (ao:Option Addr) (cap:Nat) (az:List Au) (w:World) (hz:Ar w ao az) (hn:az.length≤4194304) (hd:∀ a ∈ az,a.ref.length≤1099511627776) :
  Calls prog 110 #[.slice ao az.length cap] w fun e w'=>e=.returned (.slice (some ⟨w.heap.size,0,none⟩) az.length az.length) ∧
   w'.ownsRow w.heap.size 107 6 (.slice (some ⟨w.heap.size,0,none⟩) az.length az.length) az.length (Ah az)∧BW w w':=by
 obtain ⟨i0,hi,hz0,hz1,hz2⟩:=info_parts cF;have hm0:=Qx az.length
 rcases hz with rfl | ⟨b,off,rfl,hb,hcell⟩
 ·go_enter func110,ntmps110
  go_wp2_with (refine wpList_make_full _ rfl (.tmp 7) (.tmp 7) 132 rfl w.heap.size 107 i0 _ 6 underlying132 hi hz0 hz1 .i64 .i64 _ _ 0 rfl rfl rfl rfl (by rw [hz2];omega) (by unfold maxLen;omega) nL ?_;intro w1 hown hg)
  refine wp_loop_rounds 1 ?_;rw [rounds_succ];go_wp2;go_ret
  exact ⟨rfl,by simpa [madeCells,Ah] using hown,bR.grown hg nL (fun k hk=>by cases hk)⟩
 rw [← Pz az] at hm0;have HC:Hid (∀ i,i<az.length→w.cell? ⟨b,off+i*6,none⟩=some (.string ⟨(Ak az i).ref.toArray⟩)∧w.cell? ⟨b,off+i*6+1,none⟩=some (.int .i64 (Ak az i).iss)∧w.cell? ⟨b,off+i*6+2,none⟩=some (.int .i64 (Ak az i).cur)∧w.cell? ⟨b,off+i*6+3,none⟩=some (.int .i64 (Ak az i).am)∧w.cell? ⟨b,off+i*6+4,none⟩=some (.int .i64 (Ak az i).day)∧w.cell? ⟨b,off+i*6+5,none⟩=some (.bool (Ak az i).used)):=hcell;clear hcell
 go_enter func110,ntmps110
 go_wp2_with (refine wpList_make_full _ rfl (.tmp 7) (.tmp 7) 132 rfl w.heap.size 107 i0 _ 6 underlying132 hi hz0 hz1 .i64 .i64 _ _ az.length rfl rfl rfl rfl (by rw [hz2];omega) (by unfold maxLen;omega) nL ?_;intro w1 hown hg)
 rw [hm0] at hown
 have hb1:BW w w1:=bR.grown hg nL (fun k hk=>by cases hk)
 clear hm0 hg
 go_loopw [4,5,11] (fun _ _ i wr=>∃ k:Nat,k≤az.length∧i=.int .i64 k∧wr.ownsRow w.heap.size 107 6 (.slice (some ⟨w.heap.size,0,none⟩) az.length az.length) az.length (Ah (Du az k))∧BW w wr) (fun _ _ i _=>az.length - (intOf i).toNat)
 case atStart=>exact ⟨0,Nat.zero_le _,rfl,hown,hb1⟩
 case round =>
  obtain ⟨k,hk,rfl,ho,hbr⟩:=hrel;clear hown hb1
  by_cases hlt:k<az.length
  ·have x0:wr.cell? ⟨b,off+k*6,none⟩=some (.string ⟨(Ak az k).ref.toArray⟩):=(hbr.cell (p:=⟨b,off+k*6,none⟩) hb).trans (HC.o k hlt).1
   have x1:wr.cell? ⟨b,off+k*6+1,none⟩=some (.int .i64 (Ak az k).iss):=(hbr.cell (p:=⟨b,off+k*6+1,none⟩) hb).trans (HC.o k hlt).2.1;have x2:wr.cell? ⟨b,off+k*6+2,none⟩=some (.int .i64 (Ak az k).cur):=(hbr.cell (p:=⟨b,off+k*6+2,none⟩) hb).trans (HC.o k hlt).2.2.1;have x3:wr.cell? ⟨b,off+k*6+3,none⟩=some (.int .i64 (Ak az k).am):=(hbr.cell (p:=⟨b,off+k*6+3,none⟩) hb).trans (HC.o k hlt).2.2.2.1;have x4:wr.cell? ⟨b,off+k*6+4,none⟩=some (.int .i64 (Ak az k).day):=(hbr.cell (p:=⟨b,off+k*6+4,none⟩) hb).trans (HC.o k hlt).2.2.2.2.1;have x5:wr.cell? ⟨b,off+k*6+5,none⟩=some (.bool (Ak az k).used):=(hbr.cell (p:=⟨b,off+k*6+5,none⟩) hb).trans (HC.o k hlt).2.2.2.2.2
   have hki:(k:Int)<(az.length:Int):=by omega
   have hdk:=hd _ (J8 hlt);have HS:Hid _:=Ly az k hlt
   have HT:Hid _:=Hu (Du az k) (Ak az k) k (by rw [Iu az k hk];exact hlt)
   have HFL:Hid (k<(Du az k).length):=by rw [Hid,Iu az k hk];exact hlt
   have HFL2:Hid (k<(Du az (k+1)).length):=by rw [Hid,Iu az (k+1) hlt];exact hlt
   have HAT:Hid (Ak (Du az (k+1)) k=Ak az k):=by
    rw [Hid,← Ly az k hlt,Gw (by rw [List.length_set];exact HFL.o),List.getElem_set_self]
   obtain ⟨⟨r,i,c,m,d,u⟩,hf⟩:∃ f,Ak az k=f:=⟨_,rfl⟩;rw [hf] at x0 x1 x2 x3 x4 x5 HS HT hdk HAT
   simp only at x0 x1 x2 x3 x4 x5 HT hdk
   have HO:Hid (wr.ownsRow w.heap.size 107 6 (.slice (some ⟨w.heap.size,0,none⟩) az.length az.length) az.length (Ah (Du az k))):=ho;have HA:Hid _:=Wu az k hlt;have HBR:Hid (BW w wr):=hbr;have hws:w.heap.size<wr.heap.size:=(ho.lt _ rfl).2;clear hf ho hbr;go_upto_region 5 with fail
   clear x0 x1 x2 x3 x4 x5;obtain ⟨W,hW⟩:∃ W,wr.alloc (.cells #[.string ⟨r.toArray⟩,.int .i64 i,.int .i64 c,.int .i64 m,.int .i64 d,.bool u] 107)=W:=⟨_,rfl⟩;have bW:BW wr W:=hW ▸ bR.alloc nL _;have BX:Jo wr.heap.size ⟨r,i,c,m,d,u⟩ W:=hW ▸ Jo.new wr ⟨r,i,c,m,d,u⟩ _;rw [hW];clear hW;have oW:=Iw HO.o bW;have hat:=De (Du az k) k HFL.o;rw [HA.o] at hat;have HBX:Hid (Jo wr.heap.size ⟨r,i,c,m,d,u⟩ W):=BX
   have y0:W.cell? ⟨w.heap.size,k*6,none⟩=some (.string ⟨#[]⟩):=by rw [oW.cellAt (k*6) (by omega)];exact hat.1
   have z0:W.frozen? ⟨w.heap.size,k*6,none⟩=false:=oW.frozenAt _
   have y1:W.cell? ⟨w.heap.size,k*6+1,none⟩=some (.int .i64 0):=by rw [oW.cellAt (k*6+1) (by omega)];exact hat.2.1
   have z1:W.frozen? ⟨w.heap.size,k*6+1,none⟩=false:=oW.frozenAt _
   have y2:W.cell? ⟨w.heap.size,k*6+2,none⟩=some (.int .i64 0):=by rw [oW.cellAt (k*6+2) (by omega)];exact hat.2.2.1
   have z2:W.frozen? ⟨w.heap.size,k*6+2,none⟩=false:=oW.frozenAt _
   have y3:W.cell? ⟨w.heap.size,k*6+3,none⟩=some (.int .i64 0):=by rw [oW.cellAt (k*6+3) (by omega)];exact hat.2.2.2.1
   have z3:W.frozen? ⟨w.heap.size,k*6+3,none⟩=false:=oW.frozenAt _
   have y4:W.cell? ⟨w.heap.size,k*6+4,none⟩=some (.int .i64 0):=by rw [oW.cellAt (k*6+4) (by omega)];exact hat.2.2.2.2.1
   have z4:W.frozen? ⟨w.heap.size,k*6+4,none⟩=false:=oW.frozenAt _
   have y5:W.cell? ⟨w.heap.size,k*6+5,none⟩=some (.bool false):=by rw [oW.cellAt (k*6+5) (by omega)];exact hat.2.2.2.2.2
   have z5:W.frozen? ⟨w.heap.size,k*6+5,none⟩=false:=oW.frozenAt _
   have HR:Hid ((((((((W.setCell ⟨w.heap.size,k*6,none⟩ (.string ⟨r.toArray⟩)).setCell ⟨w.heap.size,k*6+1,none⟩ (.int .i64 i)).setCell ⟨w.heap.size,k*6+2,none⟩ (.int .i64 c)).setCell ⟨w.heap.size,k*6+3,none⟩ (.int .i64 m)).setCell ⟨w.heap.size,k*6+4,none⟩ (.int .i64 d)).setCell ⟨w.heap.size,k*6+5,none⟩ (.bool u))).ownsRow w.heap.size 107 6 (.slice (some ⟨w.heap.size,0,none⟩) az.length az.length) az.length (Ah (Du az (k+1)))):=by
    have R:=(((((((oW.stored (k*6) (.string ⟨r.toArray⟩)).1.stored (k*6+1) (.int .i64 i)).1.stored (k*6+2) (.int .i64 c)).1.stored (k*6+3) (.int .i64 m)).1.stored (k*6+4) (.int .i64 d)).1.stored (k*6+5) (.bool u))).1;rw [HT.o,HS.o] at R;exact R
   have HBW:Hid (Below w.heap.size w (((((((W.setCell ⟨w.heap.size,k*6,none⟩ (.string ⟨r.toArray⟩)).setCell ⟨w.heap.size,k*6+1,none⟩ (.int .i64 i)).setCell ⟨w.heap.size,k*6+2,none⟩ (.int .i64 c)).setCell ⟨w.heap.size,k*6+3,none⟩ (.int .i64 m)).setCell ⟨w.heap.size,k*6+4,none⟩ (.int .i64 d)).setCell ⟨w.heap.size,k*6+5,none⟩ (.bool u)))):=(((((((HBR.o.trans (bW.mono HBR.o.size)).setCell nL _).setCell nL _).setCell nL _).setCell nL _).setCell nL _).setCell nL _)
   have HBOX:Hid ((((((((W.setCell ⟨w.heap.size,k*6,none⟩ (.string ⟨r.toArray⟩)).setCell ⟨w.heap.size,k*6+1,none⟩ (.int .i64 i)).setCell ⟨w.heap.size,k*6+2,none⟩ (.int .i64 c)).setCell ⟨w.heap.size,k*6+3,none⟩ (.int .i64 m)).setCell ⟨w.heap.size,k*6+4,none⟩ (.int .i64 d)).setCell ⟨w.heap.size,k*6+5,none⟩ (.bool u))).cell? ⟨wr.heap.size,0,none⟩=some (.string ⟨r.toArray⟩)):=(World.grownBy.cell_far (row:=some w.heap.size) (((((((oW.stored (k*6) (.string ⟨r.toArray⟩)).2).trans ((oW.stored (k*6) (.string ⟨r.toArray⟩)).1.stored (k*6+1) (.int .i64 i)).2).trans (((oW.stored (k*6) (.string ⟨r.toArray⟩)).1.stored (k*6+1) (.int .i64 i)).1.stored (k*6+2) (.int .i64 c)).2).trans ((((oW.stored (k*6) (.string ⟨r.toArray⟩)).1.stored (k*6+1) (.int .i64 i)).1.stored (k*6+2) (.int .i64 c)).1.stored (k*6+3) (.int .i64 m)).2).trans (((((oW.stored (k*6) (.string ⟨r.toArray⟩)).1.stored (k*6+1) (.int .i64 i)).1.stored (k*6+2) (.int .i64 c)).1.stored (k*6+3) (.int .i64 m)).1.stored (k*6+4) (.int .i64 d)).2).trans ((((((oW.stored (k*6) (.string ⟨r.toArray⟩)).1.stored (k*6+1) (.int .i64 i)).1.stored (k*6+2) (.int .i64 c)).1.stored (k*6+3) (.int .i64 m)).1.stored (k*6+4) (.int .i64 d)).1.stored (k*6+5) (.bool u)).2) ⟨wr.heap.size,0,none⟩ BX.lt (by simp;omega)).trans BX.c0
   obtain ⟨q0,q1,q2,q3,q4,q5⟩:=BX
   simp only at q0 q1 q2 q3 q4 q5
   clear oW hat bW HO HA HS HT;go_upto_region 6 with fail
   clear q0 q1 q2 q3 q4 q5 y0 z0 y1 z1 y2 z2 y3 z3 y4 z4 y5 z5;obtain ⟨V,hV⟩:∃ V,(((((((W.setCell ⟨w.heap.size,k*6,none⟩ (.string ⟨r.toArray⟩)).setCell ⟨w.heap.size,k*6+1,none⟩ (.int .i64 i)).setCell ⟨w.heap.size,k*6+2,none⟩ (.int .i64 c)).setCell ⟨w.heap.size,k*6+3,none⟩ (.int .i64 m)).setCell ⟨w.heap.size,k*6+4,none⟩ (.int .i64 d)).setCell ⟨w.heap.size,k*6+5,none⟩ (.bool u)))=V:=⟨_,rfl⟩;rw [hV] at HR HBW HBOX ⊢;clear hV;have v0:=HBOX.o;have lb:wr.heap.size<V.heap.size:=World.block_lt_of_cell? V _ v0;go_wp2_with fail
   refine (Sm r _ hdk).mono ?_;rintro e w2 ⟨rfl,b2⟩;have o2:=Iw HR.o b2;have hat:=De (Du az (k+1)) k HFL2.o;rw [HAT.o] at hat
   have t0:w2.cell? ⟨w.heap.size,k*6,none⟩=some (.string ⟨r.toArray⟩):=by rw [o2.cellAt (k*6) (by omega)];exact hat.1
   have t1:w2.frozen? ⟨w.heap.size,k*6,none⟩=false:=o2.frozenAt _
   have HR2:Hid ((w2.setCell ⟨w.heap.size,k*6,none⟩ (.string ⟨r.toArray⟩)).ownsRow w.heap.size 107 6 (.slice (some ⟨w.heap.size,0,none⟩) az.length az.length) az.length (Ah (Du az (k+1)))):=by
    have R:=(o2.stored (k*6) (.string ⟨r.toArray⟩)).1;rw [G9 hat.1] at R;exact R
   have HB2:Hid (Below w.heap.size w (w2.setCell ⟨w.heap.size,k*6,none⟩ (.string ⟨r.toArray⟩))):=(HBW.o.trans (b2.mono HBW.o.size)).setCell nL _;clear o2 hat b2 HR HBW v0 HBOX HBX HAT;go_wp2
   go_roundw
   case rel=>exact ⟨k+1,by omega,by go_num,HR2.o,HB2.o⟩
   case measure=>simp [intOf];omega
  ·have hke:k=az.length:=by omega
   subst hke;rw [Sv] at ho;have HO:Hid _:=ho;clear ho;go_wp2;go_ret;exact ⟨rfl,HO.o,hbr⟩
def Gl (l:List UInt8) (a:Au):Bool:=a.ref == l
def addOk (az:List Au) (a:Au):Bool:=Gy a && (!az.any (Gl a.ref) && decide (az.length<100))
def Hp (az:List Au) (a:Au):List Au:=if addOk az a=true then az++[a] else az
theorem cZ {az:List Au} {a:Au} (h:addOk az a=false):Hp az a=az:=by rw [Hp,if_neg (by rw [h];decide)]
theorem Nk {az:List Au} {a:Au} (h:addOk az a=true):Hp az a=az++[a]:=by rw [Hp,if_pos h]
theorem jO (az:List Au) (a:Au):(Hp az a).length≤az.length+1:=by unfold Hp;split <;> simp
theorem Wr (p:Au→Bool) (az:List Au) (k:Nat) (h:k<az.length):(az.drop k).any p=(p (Ak az k) || (az.drop (k+1)).any p):=by
 rw [List.drop_eq_getElem_cons h,Gw h,List.any_cons]
theorem bP {w:World} {g:Nat} {a:Au} (h:Jo g a w):Ar w (some ⟨g,0,none⟩) [a] :=
 .inr ⟨g,0,rfl,h.lt,fun i hi=>by
  obtain rfl:i=0:=by simpa using hi
  exact ⟨h.c0,h.c1,h.c2,h.c3,h.c4,h.c5⟩⟩
theorem fA (a:Au) (l:List UInt8) (g:Nat) (w:World) (hc:w.cell? ⟨g,0,none⟩=some (.string ⟨l.toArray⟩)) :
  Calls prog 278 #[Fe a,.pointer (some ⟨g,0,none⟩)] w fun e w'=>e=.returned (.bool (Gl l a))∧BW w w':=by
 have hg:g<w.heap.size:=World.block_lt_of_cell? w _ hc;obtain ⟨r,i,c,m,d,u⟩:=a;have HQ:Hid (Gl l ⟨r,i,c,m,d,u⟩=(r == l)):=rfl
 simp only [Fe]
 have hc2:(w.alloc (.cells #[.string ⟨r.toArray⟩,.int .i64 i,.int .i64 c,.int .i64 m,.int .i64 d,.bool u] 107)).cell? ⟨g,0,none⟩=some (.string ⟨l.toArray⟩):=by rw [World.cell?_alloc_lt _ _ _ hg];exact hc
 go_enter func278,ntmps278
 go_wp2;go_ret;exact ⟨Aa HQ.o.symm,bR.alloc nL _⟩
theorem iA (ao:Option Addr) (cap:Nat) (az:List Au) (l:List UInt8) (g:Nat) (w:World) (hz:Ar w ao az) (hn:az.length≤4194304) (hc:w.cell? ⟨g,0,none⟩=some (.string ⟨l.toArray⟩)) :
  Calls prog 309 #[.slice ao az.length cap,.func (.func 278) #[] #[.pointer (some ⟨g,0,none⟩)]] w fun e w'=>∃ x:Int,e=.returned (.int .i64 x)∧decide (0≤x)=az.any (Gl l)∧BW w w':=by
 have hg:g<w.heap.size:=World.block_lt_of_cell? w _ hc
 rcases hz with rfl | ⟨b,off,rfl,hb,hcell⟩
 ·go_enter func309,ntmps309
  go_wp2;refine wp_loop_rounds 1 ?_;rw [rounds_succ];go_wp2;go_ret
  exact ⟨_,rfl,by simp,bR⟩
 have HC:Hid (∀ i,i<az.length→w.cell? ⟨b,off+i*6,none⟩=some (.string ⟨(Ak az i).ref.toArray⟩)∧w.cell? ⟨b,off+i*6+1,none⟩=some (.int .i64 (Ak az i).iss)∧w.cell? ⟨b,off+i*6+2,none⟩=some (.int .i64 (Ak az i).cur)∧w.cell? ⟨b,off+i*6+3,none⟩=some (.int .i64 (Ak az i).am)∧w.cell? ⟨b,off+i*6+4,none⟩=some (.int .i64 (Ak az i).day)∧w.cell? ⟨b,off+i*6+5,none⟩=some (.bool (Ak az i).used)):=hcell;have HG:Hid _:=hc;clear hcell hc
 go_enter func309,ntmps309
 go_wp2
 go_loopw [5,8] (fun _ i wr=>∃ k:Nat,k≤az.length∧i=.int .i64 k∧az.any (Gl l)=(az.drop k).any (Gl l)∧BW w wr) (fun _ i _=>az.length - (intOf i).toNat)
 case atStart=>exact ⟨0,Nat.zero_le _,rfl,rfl,bR⟩
 case round =>
  obtain ⟨k,hk,rfl,hany,hbr⟩:=hrel
  by_cases hlt:k<az.length
  ·have x0:wr.cell? ⟨b,off+k*6,none⟩=some (.string ⟨(Ak az k).ref.toArray⟩):=(hbr.cell (p:=⟨b,off+k*6,none⟩) hb).trans (HC.o k hlt).1
   have x1:wr.cell? ⟨b,off+k*6+1,none⟩=some (.int .i64 (Ak az k).iss):=(hbr.cell (p:=⟨b,off+k*6+1,none⟩) hb).trans (HC.o k hlt).2.1;have x2:wr.cell? ⟨b,off+k*6+2,none⟩=some (.int .i64 (Ak az k).cur):=(hbr.cell (p:=⟨b,off+k*6+2,none⟩) hb).trans (HC.o k hlt).2.2.1;have x3:wr.cell? ⟨b,off+k*6+3,none⟩=some (.int .i64 (Ak az k).am):=(hbr.cell (p:=⟨b,off+k*6+3,none⟩) hb).trans (HC.o k hlt).2.2.2.1;have x4:wr.cell? ⟨b,off+k*6+4,none⟩=some (.int .i64 (Ak az k).day):=(hbr.cell (p:=⟨b,off+k*6+4,none⟩) hb).trans (HC.o k hlt).2.2.2.2.1;have x5:wr.cell? ⟨b,off+k*6+5,none⟩=some (.bool (Ak az k).used):=(hbr.cell (p:=⟨b,off+k*6+5,none⟩) hb).trans (HC.o k hlt).2.2.2.2.2
   have hki:(k:Int)<(az.length:Int):=by omega
   have HST:Hid _:=hany.trans (Wr (Gl l) az k hlt);have hgr:=(hbr.cell (p:=⟨g,0,none⟩) hg).trans HG.o
   have HCL:Hid (Calls prog 278 #[Fe (Ak az k),.pointer (some ⟨g,0,none⟩)] wr fun e w'=>e=.returned (.bool (Gl l (Ak az k)))∧BW wr w'):=fA _ l g wr hgr
   obtain ⟨q,hq⟩:∃ q,Gl l (Ak az k)=q:=⟨_,rfl⟩;rw [hq] at HST HCL;obtain ⟨⟨r,i,c,m,d,u⟩,hf⟩:∃ a,Ak az k=a:=⟨_,rfl⟩;rw [hf] at x0 x1 x2 x3 x4 x5 HCL;unfold Fe at HCL
   simp only at x0 x1 x2 x3 x4 x5 HCL
   have HB:Hid (BW w wr):=hbr;clear hf hany hgr hq hbr;go_wp2_with fail
   refine (HCL.o).mono ?_;rintro e w2 ⟨rfl,b2⟩;have HB2:Hid (BW w w2):=HB.o.trans (b2.mono HB.o.size);clear b2 x0 x1 x2 x3 x4 x5
   cases q
   ·go_wp2
    go_roundw
    case rel=>exact ⟨k+1,by omega,by go_num,by rw [HST.o];rfl,HB2.o⟩
    case measure=>simp [intOf];omega
   ·go_wp2
    go_ret
    exact ⟨(k:Int),rfl,by rw [HST.o,decide_eq_true (show (0:Int)≤(k:Int) by omega)];rfl,HB2.o⟩
  ·have HE:Hid (az.any (Gl l)=false):=by rw [Hid,hany,List.drop_of_length_le (by omega)];rfl
   go_wp2;go_ret
   exact ⟨_,rfl,by rw [HE.o];rfl,hbr⟩
theorem Zj (ao:Option Addr) (cap:Nat) (az:List Au) (l:List UInt8) (w:World) (hz:Ar w ao az) (hn:az.length≤4194304) :
  Calls prog 249 #[.slice ao az.length cap,.string ⟨l.toArray⟩] w fun e w'=>e=.returned (.bool (az.any (Gl l)))∧BW w w':=by
 have bA:∀ t,Below w.heap.size w (w.alloc (.cells #[.string ⟨l.toArray⟩] t)):=fun t=>bR.alloc nL _
 have HC:Hid (∀ t,Calls prog 277 #[.slice ao az.length cap,.func (.func 278) #[] #[.pointer (some ⟨w.heap.size,0,none⟩)]] (w.alloc (.cells #[.string ⟨l.toArray⟩] t)) fun e w'=>e=.returned (.bool (az.any (Gl l)))∧BW w w'):=fun t=>by
  have hzA:=hz.below (bA t)
  have hcc:(w.alloc (.cells #[.string ⟨l.toArray⟩] t)).cell? ⟨w.heap.size,0,none⟩=some (.string ⟨l.toArray⟩):=by simp
  have HIX:Hid (Calls prog 309 #[.slice ao az.length cap,.func (.func 278) #[] #[.pointer (some ⟨w.heap.size,0,none⟩)]] (w.alloc (.cells #[.string ⟨l.toArray⟩] t)) fun e w'=>∃ x:Int,e=.returned (.int .i64 x)∧decide (0≤x)=az.any (Gl l)∧Below (w.alloc (.cells #[.string ⟨l.toArray⟩] t)).heap.size (w.alloc (.cells #[.string ⟨l.toArray⟩] t)) w'):=iA ao cap az l w.heap.size _ hzA hn hcc
  have HB0:Hid (Below w.heap.size w (w.alloc (.cells #[.string ⟨l.toArray⟩] t))):=bA t
  generalize w.alloc (.cells #[.string ⟨l.toArray⟩] t)=W at HIX HB0
  clear hzA hcc bA
  go_enter func277,ntmps277
  go_wp2_with fail
  refine Calls.mono HIX.o ?_;rintro e w2 ⟨x,rfl,hx,b2⟩;have HX:Hid _:=hx;have HB2:Hid (BW w w2):=HB0.o.trans (b2.mono HB0.o.size);clear hx b2;go_wp2;go_ret;exact ⟨Aa HX.o,HB2.o⟩
 clear bA hz
 go_enter func249,ntmps249
 go_wp2_with fail
 refine (HC.o _).mono ?_;rintro e w2 ⟨rfl,b2⟩;have HB2:Hid _:=b2;clear b2;go_wp2;go_ret;exact ⟨rfl,HB2.o⟩
def Zb (w:World) (g:Nat) (a1:Option Addr) (c1:Nat) (a2:Option Addr) (c2:Nat) (xs ys:List Au):Prop :=
 w.cell? ⟨g,0,none⟩=some (.slice a1 xs.length c1)∧w.cell? ⟨g,1,none⟩=some (.slice a2 ys.length c2)∧Ar w a1 xs∧Ar w a2 ys
theorem Zb.below {w w':World} {g:Nat} {a1 a2:Option Addr} {c1 c2:Nat} {xs ys:List Au} (h:Zb w g a1 c1 a2 c2 xs ys) (hb:BW w w'):Zb w' g a1 c1 a2 c2 xs ys:=by
 obtain ⟨h1,h2,h3,h4⟩:=h;have hg:g<w.heap.size:=World.block_lt_of_cell? w _ h1;exact ⟨(hb.cell (p:=⟨g,0,none⟩) hg).trans h1,(hb.cell (p:=⟨g,1,none⟩) hg).trans h2,h3.below hb,h4.below hb⟩
theorem hI (g:Nat) (a1 a2:Option Addr) (c1 c2:Nat) (xs ys:List Au) (w:World) (h:Zb w g a1 c1 a2 c2 xs ys) (hx:xs.length≤1048576) (hy:ys.length≤1048576) :
  Calls prog 250 #[.slice (some ⟨g,0,none⟩) 2 2] w fun e w'=>∃ v,e=.returned v ∧
   w'.ownsRow w.heap.size 107 6 v (xs.length+ys.length) (Ah (xs++ys))∧BW w w':=by
 have HT:Hid (Zb w g a1 c1 a2 c2 xs ys):=h;obtain ⟨e1,e2,f1,f2⟩:=h;have HF1:Hid _:=f1;clear f1 f2
 go_enter func250,ntmps250
 go_wp2;refine wp_loop_rounds 3 ?_;rw [rounds_succ]
 go_wp2_with (at_builtin;refine Bu _ rfl (.tmp 12) (.tmp 13) rfl w.heap.size _ 0 [] rfl (World.ownsRow_nil _ _ _ _) a1 c1 xs rfl HF1.o (by omega) nL ?_;intro v2 w2 o2 g2 _)
 have q2:BW w w2:=bR.grown g2 nL (fun k hk=>by cases hk)
 obtain ⟨_,d2,f1,f2⟩:=HT.o.below q2;have HF2:Hid _:=f2;have HO2:Hid (w2.ownsRow w.heap.size 107 6 v2 (0+xs.length) ([]++Ah xs)):=o2;have hs2:=q2.size;clear e1 e2 f1 f2 o2 g2 HF1;go_wp2;rw [rounds_succ]
 go_wp2_with (at_builtin;refine Bu _ rfl (.tmp 12) (.tmp 13) rfl w.heap.size _ _ _ rfl HO2.o a2 c2 ys rfl HF2.o (by omega) hs2 ?_;intro v3 w3 o3 g3 _)
 have q3:BW w w3:=q2.grown g3 hs2 (fun k hk=>(HO2.o.lt k hk).1)
 have HO3:Hid (w3.ownsRow w.heap.size 107 6 v3 (xs.length+ys.length) (Ah (xs++ys))):=by
  rw [F9];rw [Nat.zero_add,List.nil_append] at o3;exact o3
 clear d2 o3 g3 HO2 hs2 HF2;go_wp2;rw [rounds_succ];go_wp2;go_ret;exact ⟨v3,rfl,HO3.o,q3⟩
theorem aI (ao:Option Addr) (cap:Nat) (az:List Au) (a:Au) (w:World) (hz:Ar w ao az) (hn:az.length≤1048576) (hd:∀ x ∈ az,x.ref.length≤1099511627776) (hl:a.ref.length≤1099511627776) (hc:Bf a.cur) :
  Calls prog 208 #[.slice ao az.length cap,Fe a] w (Pi w (Hp az a) (addOk az a)):=by
 have HV:Hid (addOk az a=(Gy a && (!az.any (Gl a.ref) && decide (az.length<100)))):=rfl;have HN:Hid (addOk az a=false→Hp az a=az):=cZ;have HY:Hid (addOk az a=true→Hp az a=az++[a]):=Nk;have HZ:Hid (Ar w ao az):=hz;clear hz;obtain ⟨q,hq⟩:∃ q,Gy a=q:=⟨_,rfl⟩
 have HO:Hid (∀ u,Calls prog 248 #[Fe a] u fun e w'=>e=.returned (.bool q)∧BW u w'):=fun u=>by rw [← hq];exact Oi a u hl hc
 obtain ⟨h,hh⟩:∃ h,az.any (Gl a.ref)=h:=⟨_,rfl⟩
 have HH:Hid (∀ u,Ar u ao az→Calls prog 249 #[.slice ao az.length cap,.string ⟨a.ref.toArray⟩] u fun e w'=>e=.returned (.bool h)∧BW u w'):=fun u hu=>by rw [← hh];exact Zj ao cap az a.ref u hu (by omega)
 have HCP:Hid (∀ u,Ar u ao az→Calls prog 110 #[.slice ao az.length cap] u fun e w'=>e=.returned (.slice (some ⟨u.heap.size,0,none⟩) az.length az.length) ∧
   w'.ownsRow u.heap.size 107 6 (.slice (some ⟨u.heap.size,0,none⟩) az.length az.length) az.length (Ah az)∧BW u w'):=fun u hu=>Dj ao cap az u hu (by omega) hd
 have HCN:Hid (∀ (u:World) (bo:Option Addr) (cb:Nat),Ar u bo (az++[a])→Calls prog 110 #[.slice bo (az++[a]).length cb] u fun e w'=>e=.returned (.slice (some ⟨u.heap.size,0,none⟩) (az++[a]).length (az++[a]).length) ∧
   w'.ownsRow u.heap.size 107 6 (.slice (some ⟨u.heap.size,0,none⟩) (az++[a]).length (az++[a]).length) (az++[a]).length (Ah (az++[a]))∧BW u w'):=fun u bo cb hu=>Dj bo cb (az++[a]) u hu (by simp;omega) (fun x hx=>by
    rcases List.mem_append.1 hx with h1 | h1
    ·exact hd x h1
    ·have:x=a:=by simpa using h1
     rw [this];exact hl)
 obtain ⟨W,hW⟩:∃ W,W=w.alloc (.cells #[.string ⟨a.ref.toArray⟩,.int .i64 a.iss,.int .i64 a.cur,.int .i64 a.am,.int .i64 a.day,.bool a.used] 107):=⟨_,rfl⟩
 have B:Jo w.heap.size a W:=by rw [hW];exact Jo.new w a _
 have HBB:Hid (Jo w.heap.size a W):=B
 have bW:BW w W:=by rw [hW];exact bR.alloc nL _
 have HBW:Hid (BW w W):=bW;rw [hq,hh] at HV;clear bW hd hl hc hq hh
 cases q
 ·have HQ:Hid (addOk az a=false):=HV.o
  have HL:Hid (Hp az a=az):=HN.o HQ.o;rw [HQ.o,HL.o];clear HV HN HY HQ HL HCN HH;obtain ⟨r,i,c,m,d,u⟩:=a;unfold Fe at HO ⊢
  simp only at hW HO ⊢
  have HW:Hid _:=hW;obtain ⟨f0,f1,f2,f3,f4,f5⟩:=B;clear hW
  go_enter func208,ntmps208
  go_upto_region 1 with fail
  rw [← HW.o];go_wp2_with fail
  refine (HO.o _).mono ?_;rintro e u1 ⟨rfl,b1⟩;have HB1:Hid (BW w u1):=next HBW.o b1;clear b1 f0 f1 f2 f3 f4 f5;go_wp2_with fail
  refine (HCP.o _ (HZ.o.below HB1.o)).mono ?_;rintro e u2 ⟨rfl,o2,b2⟩;have HO2:Hid _:=Ri o2 HB1.o.size;have HB2:Hid (BW w u2):=next HB1.o b2;clear o2 b2;go_wp2;go_ret2;exact ⟨_,_,rfl,HO2.o,HB2.o⟩
 cases h
 ·by_cases h100:az.length<100
  ·have HQ:Hid (addOk az a=true):=by rw [Hid,HV.o,decide_eq_true h100];rfl
   have HL:Hid (Hp az a=az++[a]):=HY.o HQ.o;rw [HQ.o,HL.o]
   have h100':(az.length:Int)<100:=by omega
   have HXL:Hid ((az++[a]).length=az.length+1):=by rw [Hid];simp
   have HJ:Hid (∀ (u:World) (g:Nat) (a2:Option Addr) (c2:Nat),Zb u g ao cap a2 c2 az [a]→Calls prog 250 #[.slice (some ⟨g,0,none⟩) 2 2] u fun e w'=>∃ bo cb,e=.returned (.slice bo (az++[a]).length cb)∧Ar w' bo (az++[a])∧BW u w'):=fun u g a2 c2 h2 =>
    (hI g ao a2 cap c2 az [a] u h2 (by omega) (by simp)).mono fun e u' ⟨v,he,hv,hb⟩=>by
     obtain ⟨bo,cb,rfl,hA,_⟩:=Lo hv;exact ⟨bo,cb,he,hA,hb⟩
   clear HV HN HY HQ HL HCP;obtain ⟨L,hL⟩:∃ L,az++[a]=L:=⟨_,rfl⟩;rw [hL] at HCN HJ HXL ⊢
   have HTW:Hid (∀ (u:World) (t1 t2:TypeId),Ar u ao az→Zb ((u.alloc (.cells #[.string ⟨a.ref.toArray⟩,.int .i64 a.iss,.int .i64 a.cur,.int .i64 a.am,.int .i64 a.day,.bool a.used] t1)).alloc (.cells #[.slice ao az.length cap,.slice (some ⟨u.heap.size,0,none⟩) 1 1] t2)) (u.heap.size+1) ao cap (some ⟨u.heap.size,0,none⟩) 1 az [a]∧Below u.heap.size u ((u.alloc (.cells #[.string ⟨a.ref.toArray⟩,.int .i64 a.iss,.int .i64 a.cur,.int .i64 a.am,.int .i64 a.day,.bool a.used] t1)).alloc (.cells #[.slice ao az.length cap,.slice (some ⟨u.heap.size,0,none⟩) 1 1] t2))):=fun u t1 t2 hu=>by
    have b1:Below u.heap.size u (u.alloc (.cells #[.string ⟨a.ref.toArray⟩,.int .i64 a.iss,.int .i64 a.cur,.int .i64 a.am,.int .i64 a.day,.bool a.used] t1)):=bR.alloc nL _;have B1:=Jo.new u a t1;have z1:=hu.below b1
    have hsz:(u.alloc (.cells #[.string ⟨a.ref.toArray⟩,.int .i64 a.iss,.int .i64 a.cur,.int .i64 a.am,.int .i64 a.day,.bool a.used] t1)).heap.size=u.heap.size+1:=by simp
    generalize u.alloc (.cells #[.string ⟨a.ref.toArray⟩,.int .i64 a.iss,.int .i64 a.cur,.int .i64 a.am,.int .i64 a.day,.bool a.used] t1)=V at b1 B1 z1 hsz
    have b2:Below V.heap.size V (V.alloc (.cells #[.slice ao az.length cap,.slice (some ⟨u.heap.size,0,none⟩) 1 1] t2)):=bR.alloc nL _
    have k1:(V.alloc (.cells #[.slice ao az.length cap,.slice (some ⟨u.heap.size,0,none⟩) 1 1] t2)).cell? ⟨V.heap.size,0,none⟩=some (.slice ao az.length cap):=by simp
    have k2:(V.alloc (.cells #[.slice ao az.length cap,.slice (some ⟨u.heap.size,0,none⟩) 1 1] t2)).cell? ⟨V.heap.size,1,none⟩=some (.slice (some ⟨u.heap.size,0,none⟩) 1 1):=by simp
    rw [hsz] at k1 k2;exact ⟨⟨k1,k2,z1.below b2,bP (B1.below b2)⟩,next b1 b2⟩
   clear hL;obtain ⟨r,i,c,m,d,u⟩:=a;unfold Fe at HO ⊢
   simp only at hW HO HH HTW ⊢
   have HW:Hid _:=hW;obtain ⟨f0,f1,f2,f3,f4,f5⟩:=B;clear hW
   go_enter func208,ntmps208
   go_upto_region 1 with fail
   rw [← HW.o];go_wp2_with fail
   refine (HO.o _).mono ?_;rintro e u1 ⟨rfl,b1⟩;have HB1:Hid (BW w u1):=next HBW.o b1;have B1:=HBB.o.below b1;have HBB1:Hid (Jo w.heap.size ⟨r,i,c,m,d,u⟩ u1):=B1;clear b1 f0 f1 f2 f3 f4 f5;obtain ⟨f0,f1,f2,f3,f4,f5⟩:=B1
   simp only at f0 f1 f2 f3 f4 f5
   go_wp2_with fail
   refine (HH.o _ (HZ.o.below HB1.o)).mono ?_;rintro e u2 ⟨rfl,b2⟩;have HB2:Hid (BW w u2):=next HB1.o b2;have B2:=HBB1.o.below b2;clear b2 f0 f1 f2 f3 f4 f5;obtain ⟨f0,f1,f2,f3,f4,f5⟩:=B2
   simp only at f0 f1 f2 f3 f4 f5
   go_wp2_with fail
   refine (HJ.o _ _ _ _ (HTW.o u2 _ _ (HZ.o.below HB2.o)).1).mono ?_;rintro e u3 ⟨bo,cb,rfl,hA3,b3⟩;have HB3:Hid (BW w u3):=next (next HB2.o (HTW.o u2 _ _ (HZ.o.below HB2.o)).2) b3;have HA3:Hid (Ar u3 bo L):=hA3;clear hA3 b3 f0 f1 f2 f3 f4 f5;go_wp2_with fail
   refine (HCN.o _ _ _ HA3.o).mono ?_;rintro e u4 ⟨rfl,o4,b4⟩;have HO4:Hid _:=Ri o4 HB3.o.size;have HB4:Hid (BW w u4):=next HB3.o b4;clear o4 b4;go_wp2;go_ret2;exact ⟨_,_,rfl,HO4.o,HB4.o⟩
  ·have HQ:Hid (addOk az a=false):=by rw [Hid,HV.o,decide_eq_false h100];rfl
   have HL:Hid (Hp az a=az):=HN.o HQ.o;rw [HQ.o,HL.o]
   have h100':100≤(az.length:Int):=by omega
   clear HV HN HY HQ HL HCN;obtain ⟨r,i,c,m,d,u⟩:=a;unfold Fe at HO ⊢
   simp only at hW HO HH ⊢
   have HW:Hid _:=hW;obtain ⟨f0,f1,f2,f3,f4,f5⟩:=B;clear hW
   go_enter func208,ntmps208
   go_upto_region 1 with fail
   rw [← HW.o];go_wp2_with fail
   refine (HO.o _).mono ?_;rintro e u1 ⟨rfl,b1⟩;have HB1:Hid (BW w u1):=next HBW.o b1;have B1:=HBB.o.below b1;clear b1 f0 f1 f2 f3 f4 f5;obtain ⟨f0,f1,f2,f3,f4,f5⟩:=B1
   simp only at f0 f1 f2 f3 f4 f5
   go_wp2_with fail
   refine (HH.o _ (HZ.o.below HB1.o)).mono ?_;rintro e u2 ⟨rfl,b2⟩;have HB2:Hid (BW w u2):=next HB1.o b2;clear b2 f0 f1 f2 f3 f4 f5;go_wp2_with fail
   refine (HCP.o _ (HZ.o.below HB2.o)).mono ?_;rintro e u3 ⟨rfl,o3,b3⟩;have HO3:Hid _:=Ri o3 HB2.o.size;have HB3:Hid (BW w u3):=next HB2.o b3;clear o3 b3;go_wp2;go_ret2;exact ⟨_,_,rfl,HO3.o,HB3.o⟩
 ·have HQ:Hid (addOk az a=false):=by rw [Hid,HV.o];rfl
  have HL:Hid (Hp az a=az):=HN.o HQ.o;rw [HQ.o,HL.o];clear HV HN HY HQ HL HCN;obtain ⟨r,i,c,m,d,u⟩:=a;unfold Fe at HO ⊢
  simp only at hW HO HH ⊢
  have HW:Hid _:=hW;obtain ⟨f0,f1,f2,f3,f4,f5⟩:=B;clear hW
  go_enter func208,ntmps208
  go_upto_region 1 with fail
  rw [← HW.o];go_wp2_with fail
  refine (HO.o _).mono ?_;rintro e u1 ⟨rfl,b1⟩;have HB1:Hid (BW w u1):=next HBW.o b1;have B1:=HBB.o.below b1;clear b1 f0 f1 f2 f3 f4 f5;obtain ⟨f0,f1,f2,f3,f4,f5⟩:=B1
  simp only at f0 f1 f2 f3 f4 f5
  go_wp2_with fail
  refine (HH.o _ (HZ.o.below HB1.o)).mono ?_;rintro e u2 ⟨rfl,b2⟩;have HB2:Hid (BW w u2):=next HB1.o b2;clear b2 f0 f1 f2 f3 f4 f5;go_wp2_with fail
  refine (HCP.o _ (HZ.o.below HB2.o)).mono ?_;rintro e u3 ⟨rfl,o3,b3⟩;have HO3:Hid _:=Ri o3 HB2.o.size;have HB3:Hid (BW w u3):=next HB2.o b3;clear o3 b3;go_wp2;go_ret2;exact ⟨_,_,rfl,HO3.o,HB3.o⟩
theorem Yb (ao:Option Addr) (cap:Nat) (az:List Au) (a:Au) (w:World) (hz:Ar w ao az) (hn:az.length≤1048576) (hl:a.ref.length≤1099511627776) :
  Calls prog 143 #[.slice ao az.length cap,Fe a] w (Pi w (Hp az a) (addOk az a)):=by
 have HV:Hid (addOk az a=(Gy a && (!az.any (Gl a.ref) && decide (az.length<100)))):=rfl;have HN:Hid (addOk az a=false→Hp az a=az):=cZ;have HY:Hid (addOk az a=true→Hp az a=az++[a]):=Nk;have HZ:Hid (Ar w ao az):=hz;obtain ⟨q,hq⟩:∃ q,Gy a=q:=⟨_,rfl⟩
 have HO:Hid (∀ u,Calls prog 179 #[Fe a] u fun e w'=>e=.returned (.bool q)∧BW u w'):=fun u=>by rw [← hq];exact Pe a u hl
 obtain ⟨W,hW⟩:∃ W,W=w.alloc (.cells #[.string ⟨a.ref.toArray⟩,.int .i64 a.iss,.int .i64 a.cur,.int .i64 a.am,.int .i64 a.day,.bool a.used] 107):=⟨_,rfl⟩
 have B:Jo w.heap.size a W:=by rw [hW];exact Jo.new w a _
 have HBB:Hid (Jo w.heap.size a W):=B
 have bW:BW w W:=by rw [hW];exact bR.alloc nL _
 have HBW:Hid (BW w W):=bW;have bA:Below W.heap.size W (W.alloc (.cells #[] 107)):=bR.alloc nL _;have HZ1:Hid (Ar (W.alloc (.cells #[] 107)) ao az):=(hz.below bW).below bA;have HO1:=kV W;rw [hq] at HV;obtain ⟨A,hA⟩:∃ A,a=A:=⟨_,rfl⟩;rw [hA] at HV HN HY HBB ⊢
 have HAR:Hid (A.ref=a.ref):=by rw [hA];exact rfl
 have HAA:Hid (A=⟨a.ref,a.iss,a.cur,a.am,a.day,a.used⟩):=by rw [hA];exact rfl
 have e0:Fe A=Fe a:=by rw [hA]
 rw [e0];clear bW hl hq hz e0 hA;obtain ⟨r,i,c,m,d,u⟩:=a;unfold Fe at HO ⊢
 simp only at hW HO HAR HAA ⊢
 rw [HAR.o] at HV;have HW:Hid _:=hW;clear hW B
 go_enter func143,ntmps143
 go_upto_region 1 with fail
 rw [← HW.o]
 go_upto_region 2 with (at_builtin;refine Bu _ rfl (.tmp 8) (.tmp 9) rfl W.heap.size (.slice (some ⟨W.heap.size,0,none⟩) 0 0) 0 [] rfl HO1 ao cap az rfl HZ1.o (by omega) (by simp) ?_;intro v2 w2 o2 g2 n2)
 obtain ⟨g,cc,rfl⟩:=Oe o2 (n2 (by simp))
 simp only [Nat.zero_add,List.nil_append] at o2 ⊢
 have b2:BW W w2:=bA.grown g2 (by simp) (fun j hj=>by cases hj;exact nL)
 have B2:=HBB.o.below b2;rw [HAA.o] at B2;have HB2:Hid (BW w w2):=next HBW.o b2;have HBX2:Hid (Jo w.heap.size ⟨r,i,c,m,d,u⟩ w2):=B2;have HR:Hid (w2.ownsRow w.heap.size 107 6 (.slice (some ⟨g,0,none⟩) az.length cc) az.length (Ah az)):=Ri o2 HBW.o.size;have HG:Hid (W.heap.size≤g):=(o2.lt g rfl).1;clear o2 b2 g2 n2 HO1 bA HZ1;obtain ⟨f0,f1,f2,f3,f4,f5⟩:=B2
 simp only at f0 f1 f2 f3 f4 f5
 cases q
 ·have HQ:Hid (addOk az A=false):=HV.o
  have HL:Hid (Hp az A=az):=HN.o HQ.o;clear HV HN HY HAA HAR;go_wp2_with fail
  refine (HO.o _).mono ?_;rintro e u1 ⟨rfl,b1⟩;have HB3:Hid (BW w u1):=next HB2.o b1;have HR3:Hid _:=Iw HR.o b1;clear b1 f0 f1 f2 f3 f4 f5;go_wp2;go_ret2;rw [HQ.o,HL.o];exact ⟨_,_,rfl,HR3.o,HB3.o⟩
 by_cases h100:az.length<100
 ·have h100':(az.length:Int)<100:=by omega
  have HV2:Hid (addOk az A = !az.any (Gl r)):=by rw [Hid,HV.o,decide_eq_true h100,Bool.and_true,Bool.true_and]
  clear HV;go_wp2_with fail
  refine (HO.o _).mono ?_;rintro e u1 ⟨rfl,b1⟩;have HB3:Hid (BW w u1):=next HB2.o b1;have HR3:Hid (u1.ownsRow w.heap.size 107 6 (.slice (some ⟨g,0,none⟩) az.length cc) az.length (Ah az)):=Iw HR.o b1;have HBX3:Hid (Jo w.heap.size ⟨r,i,c,m,d,u⟩ u1):=HBX2.o.below b1;have HZ3:Hid (Ar u1 ao az):=HZ.o.below HB3.o;clear b1 f0 f1 f2 f3 f4 f5 HR HBX2 HB2 HO HZ HBB;go_wp2
  go_loopw [7] (fun i wr=>∃ k:Nat,k≤az.length∧i=.int .i64 k∧az.any (Gl r)=(az.drop k).any (Gl r)∧BW u1 wr) (fun i _=>az.length - (intOf i).toNat)
  case atStart=>exact ⟨0,Nat.zero_le _,rfl,rfl,bR⟩
  case round =>
   obtain ⟨k,hk,rfl,hany,hbr⟩:=hrel;obtain ⟨f0,f1,f2,f3,f4,f5⟩:=HBX3.o.below hbr
   simp only at f0 f1 f2 f3 f4 f5
   by_cases hlt:k<az.length
   ·have hki:(k:Int)<(az.length:Int):=by omega
    have HST:Hid _:=hany.trans (Wr (Gl r) az k hlt)
    rcases HZ3.o with h0 | ⟨b,off,rfl,hb,hcell⟩
    ·rw [h0] at hlt;simp at hlt
    have x0:wr.cell? ⟨b,off+k*6,none⟩=some (.string ⟨(Ak az k).ref.toArray⟩):=(hbr.cell (p:=⟨b,off+k*6,none⟩) hb).trans (hcell k hlt).1;have HPQ:Hid (Gl r (Ak az k)=((Ak az k).ref == r)):=rfl;obtain ⟨l,hlx⟩:∃ l,(Ak az k).ref=l:=⟨_,rfl⟩;rw [hlx] at x0 HPQ;have HB4:Hid (BW u1 wr):=hbr;have HWR:Hid (BW w wr):=next HB3.o hbr;have HR4:Hid _:=Iw HR3.o hbr;clear hlx hany hcell hbr
    cases hq:(l == r)
    ·have HE:Hid (az.any (Gl r)=(az.drop (k+1)).any (Gl r)):=by rw [Hid,HST.o,HPQ.o,hq];rfl
     clear HST HPQ;go_wp2
     go_quiet (fail)
     go_wp2
     go_roundw
     case rel=>exact ⟨k+1,by omega,by go_num,HE.o,below_drewN HB4.o _⟩
     case measure=>simp [intOf];omega
    ·have HE:Hid (az.any (Gl r)=true):=by rw [Hid,HST.o,HPQ.o,hq];rfl
     have HQ:Hid (addOk az A=false):=by rw [Hid,HV2.o,HE.o];rfl
     have HL:Hid (Hp az A=az):=HN.o HQ.o;clear HST HPQ;go_wp2
     go_quiet (fail)
     go_wp2;go_ret2;rw [HQ.o,HL.o];exact ⟨_,_,rfl,Iw HR4.o (below_drewN bR _),below_drewN HWR.o _⟩
   ·have HE:Hid (az.any (Gl r)=false):=by rw [Hid,hany,List.drop_of_length_le (by omega)];rfl
    have HQ:Hid (addOk az A=true):=by rw [Hid,HV2.o,HE.o];rfl
    have HL:Hid (Hp az A=az++[⟨r,i,c,m,d,u⟩]):=by rw [Hid,HY.o HQ.o,HAA.o]
    have HWR:Hid (BW w wr):=next HB3.o hbr;have HR4:Hid (wr.ownsRow w.heap.size 107 6 (.slice (some ⟨g,0,none⟩) az.length cc) az.length (Ah az)):=Iw HR3.o hbr;have HON:Hid (Ar (wr.alloc (.cells #[.string ⟨r.toArray⟩,.int .i64 i,.int .i64 c,.int .i64 m,.int .i64 d,.bool u] 107)) (some ⟨wr.heap.size,0,none⟩) [⟨r,i,c,m,d,u⟩]):=bP (Jo.new wr ⟨r,i,c,m,d,u⟩ _);have HOA:Hid ((wr.alloc (.cells #[.string ⟨r.toArray⟩,.int .i64 i,.int .i64 c,.int .i64 m,.int .i64 d,.bool u] 107)).ownsRow w.heap.size 107 6 (.slice (some ⟨g,0,none⟩) az.length cc) az.length (Ah az)):=Iw HR4.o (bR.alloc nL _);have hwz:w.heap.size≤wr.heap.size:=HWR.o.size;clear HE hany hbr HN HY HV2
    go_wp2_with (at_builtin;refine Bu _ rfl (.tmp 35) (.tmp 37) rfl w.heap.size (.slice (some ⟨g,0,none⟩) az.length cc) az.length (Ah az) rfl HOA.o (some ⟨wr.heap.size,0,none⟩) 1 [⟨r,i,c,m,d,u⟩] rfl HON.o (by simp;omega) (by simp;omega) ?_;intro v3 w3 o3 g3 n3)
    obtain ⟨a3,c3,rfl⟩:=dI o3
    have HO3:Hid (w3.ownsRow w.heap.size 107 6 (.slice a3 (az++([⟨r,i,c,m,d,u⟩]:List Au)).length c3) (az++([⟨r,i,c,m,d,u⟩]:List Au)).length (Ah (az++[⟨r,i,c,m,d,u⟩]))):=by rw [Hid,List.length_append,F9];exact o3
    have HB5:Hid (BW w w3):=(HWR.o.alloc HWR.o.size _).grown g3 (by simp;omega) (fun j hj=>(HOA.o.lt j hj).1)
    clear o3 g3 n3 HOA HON;go_wp2;go_ret2;rw [HQ.o,HL.o]
    exact ⟨a3,c3,by rw [List.length_append];rfl,HO3.o,HB5.o⟩
 ·have h100':100≤(az.length:Int):=by omega
  have HQ:Hid (addOk az A=false):=by rw [Hid,HV.o,decide_eq_false h100,Bool.and_false];rfl
  have HL:Hid (Hp az A=az):=HN.o HQ.o;clear HV HN HY HAA HAR;go_wp2_with fail
  refine (HO.o _).mono ?_;rintro e u1 ⟨rfl,b1⟩;have HB3:Hid (BW w u1):=next HB2.o b1;have HR3:Hid _:=Iw HR.o b1;clear b1 f0 f1 f2 f3 f4 f5;go_wp2;go_ret2;rw [HQ.o,HL.o];exact ⟨_,_,rfl,HR3.o,HB3.o⟩
def C7 (f:Int) (a:Au):Bool:=!a.used && decide (f≤a.day)
def E5 (az:List Au) (t:Int):List Au:=if Dn t=true then az.filter (C7 (t - 7)) else []
theorem Yp (az:List Au) (t:Int):(E5 az t).length≤az.length:=by unfold E5;split;exact List.length_filter_le _ _;exact Nat.zero_le _
theorem Jy (f:Int) (az:List Au) (k:Nat) (h:k<az.length):(az.take (k+1)).filter (C7 f)=(az.take k).filter (C7 f)++(if C7 f (Ak az k)=true then [Ak az k] else []):=by
 rw [List.take_succ_eq_append_getElem h,List.filter_append,Gw h]
 cases hq:C7 f az[k] <;> simp [hq]
theorem Uo {base n:Nat} {t:TypeId} {g cap:Nat} (vs:List Value):∀ (o:Nat) (w:World) (xs:List Value),w.ownsRow base t 6 (.slice (some ⟨g,0,none⟩) n cap) n xs→o+vs.length≤n*6 →
  ∃ ys,(w.setCells g o vs).ownsRow base t 6 (.slice (some ⟨g,0,none⟩) n cap) n ys∧ys.take o=xs.take o∧w.grownBy (w.setCells g o vs) (some g):=by
 induction vs with
 | nil=>intro o w xs h _;exact ⟨xs,h,rfl,World.grownBy.refl _ _⟩
 | cons v r ih =>
  intro o w xs h hl;have hs:=h.stored o v
  obtain ⟨ys,h1,h2,h3⟩:=ih (o+1) _ _ hs.1 (by simp at hl;omega)
  refine ⟨ys,h1,?_,hs.2.trans h3⟩
  have e:ys.take o=(ys.take (o+1)).take o:=by rw [List.take_take,Nat.min_eq_left (Nat.le_succ o)]
  rw [e,h2,List.take_take,Nat.min_eq_left (Nat.le_succ o),List.take_set_of_le (Nat.le_refl o)]
theorem dD {w:World} {base n s:Nat} {t:TypeId} {g cap:Nat} {xs:List Value} (h:w.ownsRow base t 6 (.slice (some ⟨g,0,none⟩) n cap) n xs) (hs:s≤n):w.ownsRow base t 6 (.slice (some ⟨g,0,none⟩) s cap) s (xs.take (s*6)):=by
 obtain ⟨h1,h2⟩:=h
 rcases h2 with ⟨hv,_⟩ | ⟨g',cap',cur,hv,hg,hh,a1,a2,a3,a4⟩
 ·cases hv
 ·obtain ⟨rfl,rfl⟩:g=g'∧cap=cap':=by simpa using hv
  refine ⟨by rw [List.length_take,h1];omega,.inr ⟨g,cap,cur,rfl,hg,hh,by omega,a2,a3,?_⟩⟩
  rw [← a4,List.take_take,Nat.min_eq_left (by omega)]
theorem fP (n:Nat):∀ v ∈ (Builtin.zeroCells (Value.agg #[.string ⟨#[]⟩,.int .i64 0,.int .i64 0,.int .i64 0,.int .i64 0,.bool false]).cells n).toList,v.oneCell'=true:=by
 intro v hv
 simp only [Builtin.zeroCells,Array.toList_map,List.mem_map] at hv
 obtain ⟨j,_,rfl⟩:=hv
 have:j % 6=0∨j % 6=1∨j % 6=2∨j % 6=3∨j % 6=4∨j % 6=5:=by omega
 simp only [Value.cells]
 show Value.oneCell' ((#[Value.string ⟨#[]⟩,.int .i64 0,.int .i64 0,.int .i64 0,.int .i64 0,.bool false]:Array Value)[j % 6]!)=true
 rcases this with e | e | e | e | e | e <;> rw [e] <;> rfl
theorem Z1 {W:World} {base n s g:Nat} {xs:List Value} (ho:W.ownsRow base 107 6 (.slice (some ⟨g,0,none⟩) n n) n xs) (hs:s<n) :
  ∃ V ys,(∀ ty,(Builtin.clear_ #[132] ty #[.slice (some ⟨g,s*6,none⟩) (n - s) (n - s)]).run prog W=.ok (.tuple #[]) V)∧V.ownsRow base 107 6 (.slice (some ⟨g,0,none⟩) n n) n ys∧ys.take (s*6)=xs.take (s*6)∧W.grownBy V (some g):=by
 have hlen:(Builtin.zeroCells (Value.agg #[.string ⟨#[]⟩,.int .i64 0,.int .i64 0,.int .i64 0,.int .i64 0,.bool false]).cells (n - s)).toList.length=(n - s) * 6:=by simp [Builtin.zeroCells,Value.cells]
 obtain ⟨vs,hvs⟩:∃ vs,(Builtin.zeroCells (Value.agg #[.string ⟨#[]⟩,.int .i64 0,.int .i64 0,.int .i64 0,.int .i64 0,.bool false]).cells (n - s)).toList=vs:=⟨_,rfl⟩
 have hone:∀ v ∈ vs,v.oneCell'=true:=by rw [← hvs];exact fP _
 rw [hvs] at hlen;have hxl:=ho.1
 obtain ⟨ys,h1,h2,h3⟩:=Uo vs (s*6) W xs ho (by rw [hlen];omega)
 refine ⟨_,ys,fun ty=>?_,h1,h2,h3⟩
 have hst:=run_storeCells_cells (P:=prog) g (s*6) vs 0 W (fun j hj=>by rw [ho.cellAt _ (by omega)];simp;omega) (fun j hj=>ho.frozenAt _) hone
 simp only [Nat.add_zero] at hst
 obtain ⟨q,hq⟩:∃ q,n - s=q+1:=⟨n - s - 1,by omega⟩
 rw [hq] at hvs ⊢
 simp [Builtin.clear_,run_underlying underlying132,zeroValue107,hvs,hst]
theorem qG {w:World} {g:Nat} {a:Au} (h:Jo g a w):Ar w (some ⟨g,0,none⟩) [a] :=
 .inr ⟨g,0,rfl,h.lt,fun i hi=>by
  obtain rfl:i=0:=by simpa using hi
  exact ⟨h.c0,h.c1,h.c2,h.c3,h.c4,h.c5⟩⟩
theorem U5:prog.elem 132=107:=by simp [Program.elem,underlying132]
theorem Vd:prog.underlying 132=some (.slice (prog.elem 132)):=by rw [U5];exact underlying132
theorem bG (w:World):(sizeOf 107).run prog w=.ok 6 w:=by
 obtain ⟨i0,hi,hz0,hz1,hz2⟩:=info_parts cF
 simp [sizeOf,typeInfo,hi,hz1]
theorem X4 {g n s:Nat} (hs:s≤n) (W:World):(Instr.slice 132 (.slice (some ⟨g,0,none⟩) n n) (some (.int .i64 s)) none none).run prog W=.ok (.slice (some (if n=s then ⟨g,0,none⟩ else ⟨g,s*6,none⟩)) (n - s) (n - s)) W:=by
 rw [run_slice_l W _ _ _ _ Vd .i64 _ (by omega) (by omega),U5,bG]
 by_cases h:n=s
 ·simp [Result.andThen,sliced,h]
 ·simp [Result.andThen,sliced,h,Addr.add]
  intro h0;exact h0.symm
theorem aB {g n s:Nat} (hs:s≤n) (W:World):(Instr.slice 132 (.slice (some ⟨g,0,none⟩) n n) none (some (.int .i64 s)) none).run prog W=.ok (.slice (some ⟨g,0,none⟩) s n) W:=by
 rw [run_slice_h W _ _ _ _ Vd .i64 _ (by omega) (by omega),U5,bG]
 simp [Result.andThen,sliced,Addr.add]
structure Xs (f:Int) (az bs:List Au) (s k:Nat):Prop where
 len:bs.length=az.length
 le:s≤k
 front:bs.take s=(az.take k).filter (C7 f)
 rest:∀ j,k≤j→j<az.length→Ak bs j=Ak az j
theorem Xs.start (f:Int) (az:List Au):Xs f az az 0 0:=⟨rfl,nL,rfl,fun _ _ _=>rfl⟩
theorem Xs.skip {f:Int} {az bs:List Au} {s k:Nat} (h:Xs f az bs s k) (hk:k<az.length) (hq:C7 f (Ak az k)=false):Xs f az bs s (k+1) :=
 ⟨h.len,Nat.le_succ_of_le h.le,by rw [Jy f az k hk,hq,h.front];simp,fun j h1 h2=>h.rest j (by omega) h2⟩
theorem Xs.keep {f:Int} {az bs:List Au} {s k:Nat} (h:Xs f az bs s k) (hk:k<az.length) (hq:C7 f (Ak az k)=true):Xs f az (bs.set s (Ak az k)) (s+1) (k+1):=by
 have hl:=h.len;have hle:=h.le
 refine ⟨by rw [List.length_set];exact hl,by omega,?_,fun j h1 h2=>?_⟩
 ·rw [Jy f az k hk,hq,if_pos rfl,← h.front,List.take_succ_eq_append_getElem (by rw [List.length_set];omega),List.take_set_of_le (Nat.le_refl s),List.getElem_set_self]
 ·rw [Gw (by rw [List.length_set];omega),List.getElem_set_ne (by omega),← Gw (by omega)]
  exact h.rest j (by omega) h2
theorem aJ (g base:Nat) (az:List Au) (f:Int) (w:World) (ho:w.ownsRow base 107 6 (.slice (some ⟨g,0,none⟩) az.length az.length) az.length (Ah az)) (hn:az.length≤4194304) :
  Calls prog 247 #[.slice (some ⟨g,0,none⟩) az.length az.length,.int .i64 f] w fun e w'=>e=.returned (.slice (some ⟨g,0,none⟩) (az.filter (C7 f)).length az.length) ∧
   w'.ownsRow base 107 6 (.slice (some ⟨g,0,none⟩) (az.filter (C7 f)).length az.length) (az.filter (C7 f)).length (Ah (az.filter (C7 f)))∧w.grownBy w' (some g):=by
 have HO0:Hid _:=ho;clear ho
 go_enter func247,ntmps247
 go_wp2
 go_loopw [5,7,10] (fun s _ i wr=>∃ (k y:Nat) (bs:List Au),k≤az.length∧i=.int .i64 k∧s=.int .i64 y∧Xs f az bs y k∧wr.ownsRow base 107 6 (.slice (some ⟨g,0,none⟩) az.length az.length) az.length (Ah bs)∧w.grownBy wr (some g)) (fun _ _ i _=>az.length - (intOf i).toNat)
 case atStart=>exact ⟨0,0,az,Nat.zero_le _,rfl,rfl,Xs.start f az,HO0.o,World.grownBy.refl _ _⟩
 case round =>
  obtain ⟨k,y,bs,hk,rfl,rfl,hp,hor,hgr⟩:=hrel;have hyk:=hp.le;have HP:Hid (Xs f az bs y k):=hp;have HBL:Hid (bs.length=az.length):=hp.len;clear hp HO0
  by_cases hlt:k<az.length
  ·have hki:(k:Int)<(az.length:Int):=by omega
   have hat:=De bs k (by have:=HBL.o;omega)
   rw [HP.o.rest k nL hlt] at hat
   have x0:wr.cell? ⟨g,k*6,none⟩=some (.string ⟨(Ak az k).ref.toArray⟩):=by rw [hor.cellAt (k*6) (by omega)];exact hat.1
   have x1:wr.cell? ⟨g,k*6+1,none⟩=some (.int .i64 (Ak az k).iss):=by rw [hor.cellAt (k*6+1) (by omega)];exact hat.2.1
   have x2:wr.cell? ⟨g,k*6+2,none⟩=some (.int .i64 (Ak az k).cur):=by rw [hor.cellAt (k*6+2) (by omega)];exact hat.2.2.1
   have x3:wr.cell? ⟨g,k*6+3,none⟩=some (.int .i64 (Ak az k).am):=by rw [hor.cellAt (k*6+3) (by omega)];exact hat.2.2.2.1
   have x4:wr.cell? ⟨g,k*6+4,none⟩=some (.int .i64 (Ak az k).day):=by rw [hor.cellAt (k*6+4) (by omega)];exact hat.2.2.2.2.1
   have x5:wr.cell? ⟨g,k*6+5,none⟩=some (.bool (Ak az k).used):=by rw [hor.cellAt (k*6+5) (by omega)];exact hat.2.2.2.2.2
   have HK:Hid (C7 f (Ak az k)=(!(Ak az k).used && decide (f≤(Ak az k).day))):=rfl
   have HTK:Hid (C7 f (Ak az k)=true→Xs f az (bs.set y (Ak az k)) (y+1) (k+1)):=fun h=>HP.o.keep hlt h
   have HTS:Hid (C7 f (Ak az k)=false→Xs f az bs y (k+1)):=fun h=>HP.o.skip hlt h
   have HST:Hid _:=Hu bs (Ak az k) y (by have:=HBL.o;omega)
   obtain ⟨⟨r,i,c,m,d,u⟩,hf⟩:∃ a,Ak az k=a:=⟨_,rfl⟩;rw [hf] at x0 x1 x2 x3 x4 x5 HK HTK HTS HST
   simp only at x0 x1 x2 x3 x4 x5 HK HST
   have HO:Hid (wr.ownsRow base 107 6 (.slice (some ⟨g,0,none⟩) az.length az.length) az.length (Ah bs)):=hor;have HG:Hid (w.grownBy wr (some g)):=hgr;have hgl:g<wr.heap.size:=(hor.lt g rfl).2;clear hf hor hgr hat;go_upto_region 5 with fail
   clear x0 x1 x2 x3 x4 x5;obtain ⟨W,hW⟩:∃ W,wr.alloc (.cells #[.string ⟨r.toArray⟩,.int .i64 i,.int .i64 c,.int .i64 m,.int .i64 d,.bool u] 107)=W:=⟨_,rfl⟩;have bW:BW wr W:=hW ▸ bR.alloc nL _;have BX:Jo wr.heap.size ⟨r,i,c,m,d,u⟩ W:=hW ▸ Jo.new wr ⟨r,i,c,m,d,u⟩ _;rw [hW];clear hW;have oW:=Iw HO.o bW
   have gW:w.grownBy W (some g):=HG.o.trans ⟨bW.os,bW.tape,bW.output,bW.size,fun j hj _=>bW.block j hj⟩
   have HOW:Hid (W.ownsRow base 107 6 (.slice (some ⟨g,0,none⟩) az.length az.length) az.length (Ah bs)):=oW;have HGW:Hid (w.grownBy W (some g)):=gW;obtain ⟨q0,q1,q2,q3,q4,q5⟩:=BX
   simp only at q0 q1 q2 q3 q4 q5
   cases u
   ·by_cases hfd:f≤d
    ·have HY:Hid (Xs f az (bs.set y ⟨r,i,c,m,d,false⟩) (y+1) (k+1)):=HTK.o (by rw [HK.o,decide_eq_true hfd];rfl)
     have hat2:=De bs y (by have:=HBL.o;omega)
     have y0:W.cell? ⟨g,y*6,none⟩=some (.string ⟨(Ak bs y).ref.toArray⟩):=by rw [oW.cellAt (y*6) (by omega)];exact hat2.1
     have z0:W.frozen? ⟨g,y*6,none⟩=false:=oW.frozenAt _
     have y1:W.cell? ⟨g,y*6+1,none⟩=some (.int .i64 (Ak bs y).iss):=by rw [oW.cellAt (y*6+1) (by omega)];exact hat2.2.1
     have z1:W.frozen? ⟨g,y*6+1,none⟩=false:=oW.frozenAt _
     have y2:W.cell? ⟨g,y*6+2,none⟩=some (.int .i64 (Ak bs y).cur):=by rw [oW.cellAt (y*6+2) (by omega)];exact hat2.2.2.1
     have z2:W.frozen? ⟨g,y*6+2,none⟩=false:=oW.frozenAt _
     have y3:W.cell? ⟨g,y*6+3,none⟩=some (.int .i64 (Ak bs y).am):=by rw [oW.cellAt (y*6+3) (by omega)];exact hat2.2.2.2.1
     have z3:W.frozen? ⟨g,y*6+3,none⟩=false:=oW.frozenAt _
     have y4:W.cell? ⟨g,y*6+4,none⟩=some (.int .i64 (Ak bs y).day):=by rw [oW.cellAt (y*6+4) (by omega)];exact hat2.2.2.2.2.1
     have z4:W.frozen? ⟨g,y*6+4,none⟩=false:=oW.frozenAt _
     have y5:W.cell? ⟨g,y*6+5,none⟩=some (.bool (Ak bs y).used):=by rw [oW.cellAt (y*6+5) (by omega)];exact hat2.2.2.2.2.2
     have z5:W.frozen? ⟨g,y*6+5,none⟩=false:=oW.frozenAt _;obtain ⟨⟨r',i',c',m',d',u'⟩,hf'⟩:∃ a,Ak bs y=a:=⟨_,rfl⟩;rw [hf'] at y0 y1 y2 y3 y4 y5
     simp only at y0 y1 y2 y3 y4 y5
     have HR:Hid ((((((((W.setCell ⟨g,y*6,none⟩ (.string ⟨r.toArray⟩)).setCell ⟨g,y*6+1,none⟩ (.int .i64 i)).setCell ⟨g,y*6+2,none⟩ (.int .i64 c)).setCell ⟨g,y*6+3,none⟩ (.int .i64 m)).setCell ⟨g,y*6+4,none⟩ (.int .i64 d)).setCell ⟨g,y*6+5,none⟩ (.bool false))).ownsRow base 107 6 (.slice (some ⟨g,0,none⟩) az.length az.length) az.length (Ah (bs.set y ⟨r,i,c,m,d,false⟩))):=by
      have R:=(((((((oW.stored (y*6) (.string ⟨r.toArray⟩)).1.stored (y*6+1) (.int .i64 i)).1.stored (y*6+2) (.int .i64 c)).1.stored (y*6+3) (.int .i64 m)).1.stored (y*6+4) (.int .i64 d)).1.stored (y*6+5) (.bool false))).1;rw [HST.o] at R;exact R
     have HGR:Hid (w.grownBy (((((((W.setCell ⟨g,y*6,none⟩ (.string ⟨r.toArray⟩)).setCell ⟨g,y*6+1,none⟩ (.int .i64 i)).setCell ⟨g,y*6+2,none⟩ (.int .i64 c)).setCell ⟨g,y*6+3,none⟩ (.int .i64 m)).setCell ⟨g,y*6+4,none⟩ (.int .i64 d)).setCell ⟨g,y*6+5,none⟩ (.bool false))) (some g)):=gW.trans (((((((oW.stored (y*6) (.string ⟨r.toArray⟩)).2).trans ((oW.stored (y*6) (.string ⟨r.toArray⟩)).1.stored (y*6+1) (.int .i64 i)).2).trans (((oW.stored (y*6) (.string ⟨r.toArray⟩)).1.stored (y*6+1) (.int .i64 i)).1.stored (y*6+2) (.int .i64 c)).2).trans ((((oW.stored (y*6) (.string ⟨r.toArray⟩)).1.stored (y*6+1) (.int .i64 i)).1.stored (y*6+2) (.int .i64 c)).1.stored (y*6+3) (.int .i64 m)).2).trans (((((oW.stored (y*6) (.string ⟨r.toArray⟩)).1.stored (y*6+1) (.int .i64 i)).1.stored (y*6+2) (.int .i64 c)).1.stored (y*6+3) (.int .i64 m)).1.stored (y*6+4) (.int .i64 d)).2).trans ((((((oW.stored (y*6) (.string ⟨r.toArray⟩)).1.stored (y*6+1) (.int .i64 i)).1.stored (y*6+2) (.int .i64 c)).1.stored (y*6+3) (.int .i64 m)).1.stored (y*6+4) (.int .i64 d)).1.stored (y*6+5) (.bool false)).2)
     have hyl:(y:Int)<(az.length:Int):=by omega
     clear hf' hat2 oW gW bW HO HG HOW HGW HP HK HTK HTS HST HBL;go_wp2
     go_roundw
     case rel=>exact ⟨k+1,y+1,_,by omega,by go_num,by go_num,HY.o,HR.o,HGR.o⟩
     case measure=>simp [intOf];omega
    ·have HY:Hid (Xs f az bs y (k+1)):=HTS.o (by rw [HK.o,decide_eq_false hfd];rfl)
     clear oW gW bW HO HG HP HK HTK HTS HST HBL;go_wp2
     go_roundw
     case rel=>exact ⟨k+1,y,bs,by omega,by go_num,rfl,HY.o,HOW.o,HGW.o⟩
     case measure=>simp [intOf];omega
   ·have HY:Hid (Xs f az bs y (k+1)):=HTS.o (by rw [HK.o];rfl)
    clear oW gW bW HO HG HP HK HTK HTS HST HBL;go_wp2
    go_roundw
    case rel=>exact ⟨k+1,y,bs,by omega,by go_num,rfl,HY.o,HOW.o,HGW.o⟩
    case measure=>simp [intOf];omega
  ·have hke:k=az.length:=by omega
   subst hke
   have hfr:bs.take y=az.filter (C7 f):=by have:=HP.o.front;rwa [List.take_length] at this
   have hfl:(az.filter (C7 f)).length=y:=by rw [← hfr,List.length_take,HBL.o];omega
   have htk:(Ah bs).take (y*6)=Ah (az.filter (C7 f)):=by
    have e:Ah bs=Ah (bs.take y)++Ah (bs.drop y):=by rw [← F9,List.take_append_drop]
    rw [e,List.take_append_of_le_length (by rw [E2,List.length_take,HBL.o];omega),List.take_of_length_le (by rw [E2,List.length_take,HBL.o];omega),hfr]
   have HFL:Hid _:=hfl;have HTK:Hid _:=htk;have HO:Hid (wr.ownsRow base 107 6 (.slice (some ⟨g,0,none⟩) az.length az.length) az.length (Ah bs)):=hor;have HG:Hid (w.grownBy wr (some g)):=hgr;have hs1:=X4 (g:=g) (n:=az.length) (s:=y) hyk;have hs2:=aB (g:=g) (n:=az.length) (s:=y) hyk
   by_cases hye:az.length=y
   ·have HR:Hid (wr.ownsRow base 107 6 (.slice (some ⟨g,0,none⟩) y az.length) y (Ah (az.filter (C7 f)))):=by
      have:=dD HO.o hyk
      rwa [HTK.o] at this
    rw [hye,Nat.sub_self,if_pos rfl] at hs1;rw [hye] at hs2;have HYE:Hid _:=hye
    have hcl:∀ ty,(Builtin.clear_ #[132] ty #[.slice (some ⟨g,0,none⟩) 0 0]).run prog wr=.ok (.tuple #[]) wr:=fun ty=>by
     simp [Builtin.clear_,run_underlying underlying132]
    rw [hye] at HR hn ⊢;clear hor hgr hfr hfl htk HP HBL hye hyk hk hlt HO HTK;go_wp2;go_ret;rw [HFL.o,HYE.o];exact ⟨rfl,HR.o,HG.o⟩
   ·obtain ⟨V,ys,hcl,oV,htv,gV⟩:=Z1 HO.o (show y<az.length by omega)
    have HR:Hid (V.ownsRow base 107 6 (.slice (some ⟨g,0,none⟩) y az.length) y (Ah (az.filter (C7 f)))):=by
     have:=dD oV hyk
     rwa [htv,HTK.o] at this
    have HGV:Hid (w.grownBy V (some g)):=HG.o.trans gV;rw [if_neg hye] at hs1;clear hor hgr hfr hfl htk HP HBL HO HTK oV htv gV;go_wp2;go_ret;rw [HFL.o];exact ⟨rfl,HR.o,HGV.o⟩
theorem Z4 (ao:Option Addr) (cap:Nat) (az:List Au) (t:Int) (w:World) (hz:Ar w ao az) (hn:az.length≤4194304) (hd:∀ a ∈ az,a.ref.length≤1099511627776) :
  Calls prog 207 #[.slice ao az.length cap,.int .i64 t] w (pA w (E5 az t)):=by
 cases hq:Dn t
 ·have HL:Hid (E5 az t=[]):=by rw [Hid,E5,if_neg (by rw [hq];decide)]
  go_enter func207,ntmps207
  go_wp2_with fail
  refine (Bm t _).mono ?_;rintro e w1 ⟨rfl,hw⟩;subst hw;rw [hq];go_wp2;go_ret;rw [HL.o];exact ⟨none,0,rfl,World.ownsRow_nil _ _ _ _,bR⟩
 ·have htb:=Ei hq
  have HL:Hid (E5 az t=az.filter (C7 (t - 7))):=by rw [Hid,E5,if_pos hq]
  go_enter func207,ntmps207
  go_wp2_with fail
  refine (Bm t _).mono ?_;rintro e w1 ⟨rfl,hw⟩;subst hw;rw [hq];go_wp2_with fail
  refine (Dj _ _ _ _ hz hn hd).mono ?_;rintro e w2 ⟨rfl,o2,b2⟩;have HO:Hid _:=o2;have HB:Hid _:=b2;clear o2 b2 hz;go_wp2_with fail
  refine (aJ _ _ _ _ _ HO.o hn).mono ?_;rintro e w3 ⟨rfl,o3,g3⟩;have HO3:Hid _:=o3
  have HG3:Hid _:=HB.o.grown g3 HB.o.size (fun k hk=>by cases hk;exact nL)
  clear o3 g3 HO HB;go_wp2;go_ret;rw [HL.o];exact ⟨_,_,rfl,HO3.o,HG3.o⟩
theorem Zi (ao:Option Addr) (cap:Nat) (az:List Au) (t:Int) (w:World) (hz:Ar w ao az) (hn:az.length≤4194304) :
  Calls prog 178 #[.slice ao az.length cap,.int .i64 t] w (pA w (E5 az t)):=by
 have bA:Below w.heap.size w (w.alloc (.cells #[] 107)):=bR.alloc nL _;have oA:=kV w
 have HDY:Hid (∀ u,Calls prog 102 #[.int .i64 t] u fun e w'=>e=.returned (.bool (Dn t))∧w'=u):=fun u=>A9 t u
 cases hq:Dn t
 ·have HL:Hid (E5 az t=[]):=by rw [Hid,E5,if_neg (by rw [hq];decide)]
  rw [hq] at HDY;have HO:Hid _:=And.intro oA bA;clear oA bA
  by_cases h0:0<az.length
  ·have h0':(0:Int)<(az.length:Int):=by omega
   go_enter func178,ntmps178
   go_wp2;refine wp_loop_rounds 1 ?_;rw [rounds_succ];go_wp2_with fail
   refine (HDY.o _).mono ?_;rintro e w1 ⟨rfl,hw⟩;subst hw;go_wp2;go_ret;rw [HL.o];exact ⟨_,_,rfl,HO.o.1,HO.o.2⟩
  ·have h0':¬ (0:Int)<(az.length:Int):=by omega
   go_enter func178,ntmps178
   go_wp2;refine wp_loop_rounds 1 ?_;rw [rounds_succ];go_wp2;go_ret;rw [HL.o];exact ⟨_,_,rfl,HO.o.1,HO.o.2⟩
 ·have htb:=Ei hq
  have HL:Hid (E5 az t=az.filter (C7 (t - 7))):=by rw [Hid,E5,if_pos hq]
  rw [hq] at HDY
  rcases hz with rfl | ⟨b,off,rfl,hb,hcell⟩
  ·have HO:Hid _:=And.intro oA bA
   clear oA bA
   go_enter func178,ntmps178
   go_wp2;refine wp_loop_rounds 1 ?_;rw [rounds_succ];go_wp2;go_ret;rw [HL.o];exact ⟨_,_,rfl,HO.o.1,HO.o.2⟩
  have HC:Hid (∀ i,i<az.length→w.cell? ⟨b,off+i*6,none⟩=some (.string ⟨(Ak az i).ref.toArray⟩)∧w.cell? ⟨b,off+i*6+1,none⟩=some (.int .i64 (Ak az i).iss)∧w.cell? ⟨b,off+i*6+2,none⟩=some (.int .i64 (Ak az i).cur)∧w.cell? ⟨b,off+i*6+3,none⟩=some (.int .i64 (Ak az i).am)∧w.cell? ⟨b,off+i*6+4,none⟩=some (.int .i64 (Ak az i).day)∧w.cell? ⟨b,off+i*6+5,none⟩=some (.bool (Ak az i).used)):=hcell;clear hcell
  go_enter func178,ntmps178
  go_wp2
  go_loopw [5,6] (fun v i wr=>∃ (k:Nat) (ao:Option Addr) (c:Nat),k≤az.length∧i=.int .i64 k∧v=.slice ao ((az.take k).filter (C7 (t - 7))).length c∧wr.ownsRow w.heap.size 107 6 (.slice ao ((az.take k).filter (C7 (t - 7))).length c) ((az.take k).filter (C7 (t - 7))).length (Ah ((az.take k).filter (C7 (t - 7))))∧BW w wr) (fun _ i _=>az.length - (intOf i).toNat)
  case atStart=>exact ⟨0,_,_,Nat.zero_le _,rfl,rfl,oA,bA⟩
  case round =>
   obtain ⟨k,ao,cc,hk,rfl,rfl,hor,hbr⟩:=hrel;clear oA bA
   by_cases hlt:k<az.length
   ·have x0:wr.cell? ⟨b,off+k*6,none⟩=some (.string ⟨(Ak az k).ref.toArray⟩):=(hbr.cell (p:=⟨b,off+k*6,none⟩) hb).trans (HC.o k hlt).1
    have x1:wr.cell? ⟨b,off+k*6+1,none⟩=some (.int .i64 (Ak az k).iss):=(hbr.cell (p:=⟨b,off+k*6+1,none⟩) hb).trans (HC.o k hlt).2.1;have x2:wr.cell? ⟨b,off+k*6+2,none⟩=some (.int .i64 (Ak az k).cur):=(hbr.cell (p:=⟨b,off+k*6+2,none⟩) hb).trans (HC.o k hlt).2.2.1;have x3:wr.cell? ⟨b,off+k*6+3,none⟩=some (.int .i64 (Ak az k).am):=(hbr.cell (p:=⟨b,off+k*6+3,none⟩) hb).trans (HC.o k hlt).2.2.2.1;have x4:wr.cell? ⟨b,off+k*6+4,none⟩=some (.int .i64 (Ak az k).day):=(hbr.cell (p:=⟨b,off+k*6+4,none⟩) hb).trans (HC.o k hlt).2.2.2.2.1;have x5:wr.cell? ⟨b,off+k*6+5,none⟩=some (.bool (Ak az k).used):=(hbr.cell (p:=⟨b,off+k*6+5,none⟩) hb).trans (HC.o k hlt).2.2.2.2.2
    have hki:(k:Int)<(az.length:Int):=by omega
    have HTF:Hid _:=Jy (t - 7) az k hlt;have HK:Hid (C7 (t - 7) (Ak az k)=(!(Ak az k).used && decide (t - 7≤(Ak az k).day))):=rfl
    have hll:((az.take k).filter (C7 (t - 7))).length≤k:=Nat.le_trans (List.length_filter_le _ _) (by simp;omega)
    obtain ⟨B,hB⟩:∃ B,(az.take k).filter (C7 (t - 7))=B:=⟨_,rfl⟩;obtain ⟨⟨r,i,c,m,d,u⟩,hf⟩:∃ a,Ak az k=a:=⟨_,rfl⟩;rw [hf] at x0 x1 x2 x3 x4 x5 HK HTF;rw [hB] at hor hll HTF ⊢
    simp only at x0 x1 x2 x3 x4 x5 HK
    have HO:Hid (wr.ownsRow w.heap.size 107 6 (.slice ao B.length cc) B.length (Ah B)):=hor;have HB:Hid (BW w wr):=hbr;clear hB hf hor hbr;go_wp2_with fail
    refine (HDY.o _).mono ?_;rintro e w1 ⟨rfl,hw⟩;subst hw
    cases u
    ·by_cases hfd:t - 7≤d
     ·have HE:Hid ((az.take (k+1)).filter (C7 (t - 7))=B++[⟨r,i,c,m,d,false⟩]):=by rw [Hid,HTF.o,HK.o,decide_eq_true hfd];rfl
      have HON:Hid (Ar (w1.alloc (.cells #[.string ⟨r.toArray⟩,.int .i64 i,.int .i64 c,.int .i64 m,.int .i64 d,.bool false] 107)) (some ⟨w1.heap.size,0,none⟩) [⟨r,i,c,m,d,false⟩]):=qG (Jo.new w1 ⟨r,i,c,m,d,false⟩ _);have HOA:Hid ((w1.alloc (.cells #[.string ⟨r.toArray⟩,.int .i64 i,.int .i64 c,.int .i64 m,.int .i64 d,.bool false] 107)).ownsRow w.heap.size 107 6 (.slice ao B.length cc) B.length (Ah B)):=Iw HO.o (bR.alloc nL _);have hwz:w.heap.size≤w1.heap.size:=HB.o.size
      go_wp2_with (at_builtin;refine Bu _ rfl (.tmp 34) (.tmp 39) rfl w.heap.size (.slice ao B.length cc) B.length (Ah B) rfl HOA.o (some ⟨w1.heap.size,0,none⟩) 1 [⟨r,i,c,m,d,false⟩] rfl HON.o (by simp;omega) (by simp;omega) ?_;intro v2 w2 o2 g2 n2)
      obtain ⟨a2,c2,rfl⟩:=dI o2
      have HO2:Hid (w2.ownsRow w.heap.size 107 6 (.slice a2 (B++([⟨r,i,c,m,d,false⟩]:List Au)).length c2) (B++([⟨r,i,c,m,d,false⟩]:List Au)).length (Ah (B++[⟨r,i,c,m,d,false⟩]))):=by rw [Hid,List.length_append,F9];exact o2
      have HB2:Hid (BW w w2):=(HB.o.alloc HB.o.size _).grown g2 (by simp;omega) (fun j hj=>(HOA.o.lt j hj).1)
      clear o2 g2 n2 HOA HON HTF HK;go_wp2
      go_roundw
      case rel=>exact ⟨k+1,a2,c2,by omega,by go_num,by rw [HE.o,List.length_append],by rw [HE.o];exact HO2.o,HB2.o⟩
      case measure=>simp [intOf];omega
     ·have HE:Hid ((az.take (k+1)).filter (C7 (t - 7))=B):=by rw [Hid,HTF.o,HK.o,decide_eq_false hfd];simp
      clear HTF HK;go_wp2
      go_roundw
      case rel=>exact ⟨k+1,ao,cc,by omega,by go_num,by rw [HE.o],by rw [HE.o];exact HO.o,HB.o⟩
      case measure=>simp [intOf];omega
    ·have HE:Hid ((az.take (k+1)).filter (C7 (t - 7))=B):=by rw [Hid,HTF.o,HK.o];simp
     clear HTF HK;go_wp2
     go_roundw
     case rel=>exact ⟨k+1,ao,cc,by omega,by go_num,by rw [HE.o],by rw [HE.o];exact HO.o,HB.o⟩
     case measure=>simp [intOf];omega
   ·have hke:k=az.length:=by omega
    subst hke;rw [List.take_length] at hor ⊢;have HO:Hid _:=And.intro hor hbr;clear hor hbr;go_wp2;go_ret;rw [HL.o];exact ⟨_,_,rfl,HO.o.1,HO.o.2⟩
def useOk (az:List Au) (i:Int):Bool:=decide (0≤i∧i<az.length) && !(Ak az i.toNat).used
def Lz (a:Au):Au:=⟨a.ref,a.iss,a.cur,a.am,a.day,true⟩
def M7 (az:List Au) (i:Int):List Au:=if useOk az i=true then az.set i.toNat (Lz (Ak az i.toNat)) else az
theorem jC (az:List Au) (i:Int):(M7 az i).length=az.length:=by unfold M7;split <;> simp
theorem Np {az:List Au} {i:Int} (h:useOk az i=false):M7 az i=az:=by rw [M7,if_neg (by rw [h];decide)]
theorem jU (ao:Option Addr) (cap:Nat) (az:List Au) (i:Int) (w:World) (hz:Ar w ao az) (hn:az.length≤4194304) (hd:∀ a ∈ az,a.ref.length≤1099511627776) :
  Calls prog 212 #[.slice ao az.length cap,.int .i64 i] w (Pi w (M7 az i) (useOk az i)):=by
 by_cases h0:i<0
 ·have HQ:Hid (useOk az i=false):=by rw [Hid,useOk,decide_eq_false (by omega)];rfl
  go_enter func212,ntmps212
  go_wp2_with fail
  refine (Dj _ _ _ _ hz hn hd).mono ?_;rintro e w1 ⟨rfl,o1,b1⟩;have HO:Hid _:=And.intro o1 b1;clear o1 b1 hz;go_wp2;go_ret2;rw [HQ.o,Np HQ.o];exact ⟨_,_,rfl,HO.o.1,HO.o.2⟩
 by_cases h1:(az.length:Int)≤i
 ·have HQ:Hid (useOk az i=false):=by rw [Hid,useOk,decide_eq_false (by omega)];rfl
  go_enter func212,ntmps212
  go_wp2_with fail
  refine (Dj _ _ _ _ hz hn hd).mono ?_;rintro e w1 ⟨rfl,o1,b1⟩;have HO:Hid _:=And.intro o1 b1;clear o1 b1 hz;go_wp2;go_ret2;rw [HQ.o,Np HQ.o];exact ⟨_,_,rfl,HO.o.1,HO.o.2⟩
 obtain ⟨k,rfl⟩:=Int.eq_ofNat_of_zero_le (show 0≤i by omega)
 have hk:k<az.length:=by omega
 have hlt:(k:Int)<(az.length:Int):=by omega
 have HAT:Hid ((Ah az)[k*6+5]?=some (.bool (Ak az k).used)):=(De az k hk).2.2.2.2.2;have HST:Hid ((Ah az).set (k*6+5) (.bool true)=Ah (az.set k (Lz (Ak az k)))):=On az true k hk
 have HU:Hid (useOk az (k:Int) = !(Ak az k).used):=by rw [Hid,useOk,decide_eq_true (show 0≤(k:Int)∧(k:Int)<az.length by omega),Bool.true_and,Int.toNat_natCast]
 have HUL:Hid (useOk az (k:Int)=true→M7 az (k:Int)=az.set k (Lz (Ak az k))):=fun h=>by rw [M7,if_pos h,Int.toNat_natCast]
 obtain ⟨us,hus⟩:∃ us,(Ak az k).used=us:=⟨_,rfl⟩;rw [hus] at HAT HU;clear hus
 go_enter func212,ntmps212
 go_wp2_with fail
 refine (Dj _ _ _ _ hz hn hd).mono ?_;rintro e w1 ⟨rfl,o1,b1⟩
 have y5:w1.cell? ⟨w.heap.size,k*6+5,none⟩=some (.bool us):=by rw [o1.cellAt (k*6+5) (by omega)];exact HAT.o
 have z5:w1.frozen? ⟨w.heap.size,k*6+5,none⟩=false:=o1.frozenAt _;have HO:Hid _:=And.intro o1 b1;clear o1 b1 hz
 cases us
 ·have HQ:Hid (useOk az (k:Int)=true):=HU.o
  have HR:Hid ((w1.setCell ⟨w.heap.size,k*6+5,none⟩ (.bool true)).ownsRow w.heap.size 107 6 (.slice (some ⟨w.heap.size,0,none⟩) az.length az.length) az.length (Ah (az.set k (Lz (Ak az k))))):=by
   have R:=(HO.o.1.stored (k*6+5) (.bool true)).1;rw [HST.o] at R;exact R
  go_wp2;go_ret2;rw [HQ.o,HUL.o HQ.o]
  exact ⟨some ⟨w.heap.size,0,none⟩,az.length,by rw [List.length_set];rfl,by rw [List.length_set];exact HR.o,HO.o.2.setCell nL _⟩
 ·have HQ:Hid (useOk az (k:Int)=false):=HU.o
  go_wp2;go_ret2;rw [HQ.o,Np HQ.o];exact ⟨_,_,rfl,HO.o.1,HO.o.2⟩
theorem kZ (ao:Option Addr) (cap:Nat) (az:List Au) (i:Int) (w:World) (hz:Ar w ao az) (hn:az.length≤4194304) :
  Calls prog 183 #[.slice ao az.length cap,.int .i64 i] w (Pi w (M7 az i) (useOk az i)):=by
 have bA:Below w.heap.size w (w.alloc (.cells #[] 107)):=bR.alloc nL _;have HZ1:Hid (Ar (w.alloc (.cells #[] 107)) ao az):=hz.below bA;have HO1:=kV w
 have HIN:Hid (∀ u,Calls prog 134 #[.int .i64 i,.int .i64 0,.int .i64 ((az.length:Int) - 1)] u fun e w'=>e=.returned (.bool (decide (0≤i∧i<az.length)))∧w'=u):=fun u=>by
  have:=Dl i 0 ((az.length:Int) - 1) u
  rwa [show Gk i 0 ((az.length:Int) - 1)=decide (0≤i∧i<az.length) by unfold Gk;exact decide_eq_decide.2 (by omega)] at this
 by_cases hin:0≤i∧i<az.length
 ·obtain ⟨k,rfl⟩:=Int.eq_ofNat_of_zero_le hin.1
  have hk:k<az.length:=by omega
  have hlt:(k:Int)<(az.length:Int):=by omega
  rw [decide_eq_true hin] at HIN;have HAT:Hid ((Ah az)[k*6+5]?=some (.bool (Ak az k).used)):=(De az k hk).2.2.2.2.2;have HST:Hid ((Ah az).set (k*6+5) (.bool true)=Ah (az.set k (Lz (Ak az k)))):=On az true k hk
  have HU:Hid (useOk az (k:Int) = !(Ak az k).used):=by rw [Hid,useOk,decide_eq_true (show 0≤(k:Int)∧(k:Int)<az.length by omega),Bool.true_and,Int.toNat_natCast]
  have HUL:Hid (useOk az (k:Int)=true→M7 az (k:Int)=az.set k (Lz (Ak az k))):=fun h=>by rw [M7,if_pos h,Int.toNat_natCast]
  rcases hz with rfl | ⟨b,off,rfl,hb,hcell⟩
  ·simp at hk
  have HC5:Hid (w.cell? ⟨b,off+k*6+5,none⟩=some (.bool (Ak az k).used)):=(hcell k hk).2.2.2.2.2;obtain ⟨us,hus⟩:∃ us,(Ak az k).used=us:=⟨_,rfl⟩;rw [hus] at HAT HU HC5;clear hus hcell hin
  go_enter func183,ntmps183
  go_wp2_with (at_builtin;refine Bu _ rfl (.tmp 7) (.tmp 8) rfl w.heap.size (.slice (some ⟨w.heap.size,0,none⟩) 0 0) 0 [] rfl HO1 _ cap az rfl HZ1.o (by omega) (by simp) ?_;intro v2 w2 o2 g2 n2)
  obtain ⟨g,cc,rfl⟩:=Oe o2 (n2 (by simp))
  simp only [Nat.zero_add,List.nil_append] at o2 ⊢
  have b2:BW w w2:=bA.grown g2 (by simp) (fun j hj=>by cases hj;exact nL)
  have y5:w2.cell? ⟨g,k*6+5,none⟩=some (.bool us):=by rw [o2.cellAt (k*6+5) (by omega)];exact HAT.o
  have z5:w2.frozen? ⟨g,k*6+5,none⟩=false:=o2.frozenAt _;have x5:w2.cell? ⟨b,off+k*6+5,none⟩=some (.bool us):=(b2.cell (p:=⟨b,off+k*6+5,none⟩) hb).trans HC5.o;have HB:Hid (BW w w2):=b2;have HO:Hid (w2.ownsRow w.heap.size 107 6 (.slice (some ⟨g,0,none⟩) az.length cc) az.length (Ah az)):=o2;have hgw:=(o2.lt g rfl).1;clear o2 b2 g2 n2 HO1 bA;go_wp2_with fail
  refine (HIN.o _).mono ?_;rintro e w3 ⟨rfl,hw3⟩;subst hw3
  cases us
  ·have HQ:Hid (useOk az (k:Int)=true):=HU.o
   have HR:Hid ((w3.setCell ⟨g,k*6+5,none⟩ (.bool true)).ownsRow w.heap.size 107 6 (.slice (some ⟨g,0,none⟩) az.length cc) az.length (Ah (az.set k (Lz (Ak az k))))):=by
    have R:=(HO.o.stored (k*6+5) (.bool true)).1;rw [HST.o] at R;exact R
   go_wp2;go_ret2;rw [HQ.o,HUL.o HQ.o]
   exact ⟨some ⟨g,0,none⟩,cc,by rw [List.length_set];rfl,by rw [List.length_set];exact HR.o,HB.o.setCell hgw _⟩
  ·have HQ:Hid (useOk az (k:Int)=false):=HU.o
   go_wp2;go_ret2;rw [HQ.o,Np HQ.o];exact ⟨_,_,rfl,HO.o,HB.o⟩
 ·have HQ:Hid (useOk az i=false):=by rw [Hid,useOk,decide_eq_false hin];rfl
  rw [decide_eq_false hin] at HIN;clear hin
  go_enter func183,ntmps183
  go_wp2_with (at_builtin;refine Bu _ rfl (.tmp 7) (.tmp 8) rfl w.heap.size (.slice (some ⟨w.heap.size,0,none⟩) 0 0) 0 [] rfl HO1 ao cap az rfl HZ1.o (by omega) (by simp) ?_;intro v2 w2 o2 g2 n2)
  obtain ⟨g,cc,rfl⟩:=Oe o2 (n2 (by simp))
  simp only [Nat.zero_add,List.nil_append] at o2 ⊢
  have b2:BW w w2:=bA.grown g2 (by simp) (fun j hj=>by cases hj;exact nL)
  have HB:Hid (BW w w2):=b2;have HO:Hid (w2.ownsRow w.heap.size 107 6 (.slice (some ⟨g,0,none⟩) az.length cc) az.length (Ah az)):=o2;clear o2 b2 g2 n2 HO1 bA hz;go_wp2_with fail
  refine (HIN.o _).mono ?_;rintro e w3 ⟨rfl,hw3⟩;subst hw3;go_wp2;go_ret2;rw [HQ.o,Np HQ.o];exact ⟨_,_,rfl,HO.o,HB.o⟩
theorem Nr (a b c x y z:Int) (w:World) :
  Calls prog 94 #[.agg #[.int .i64 a,.int .i64 b,.int .i64 c],.agg #[.int .i64 x,.int .i64 y,.int .i64 z]] w fun e w'=>e=.returned (.int .i64 (Qh (a,b,c) (x,y,z)))∧∃ q os,w'=Go.Sort.grow (w.drewN q) os:=by
 obtain ⟨p,hp⟩:∃ p,Qm a x=p:=⟨_,rfl⟩;obtain ⟨r,hr⟩:∃ r,Qm b y=r:=⟨_,rfl⟩
 have HE:Hid (Qh (a,b,c) (x,y,z)=oL p r):=by rw [Hid,← hp,← hr];rfl
 have HP:Hid (∀ w,Calls prog 151 #[.int .i64 a,.int .i64 x] w fun e w'=>e=.returned (.int .i64 p)∧w'=w):=fun w=>by rw [← hp];exact O8 _ _ _
 have HR:Hid (∀ w,Calls prog 151 #[.int .i64 b,.int .i64 y] w fun e w'=>e=.returned (.int .i64 r)∧w'=w):=fun w=>by rw [← hr];exact O8 _ _ _
 clear hp hr;obtain ⟨W,hW⟩:∃ W,W=(w.alloc (.cells #[.int .i64 a,.int .i64 b,.int .i64 c] 113)).alloc (.cells #[.int .i64 x,.int .i64 y,.int .i64 z] 113):=⟨_,rfl⟩
 have k0:W.cell? ⟨w.heap.size,0,none⟩=some (.int .i64 a):=by rw [hW];simp [go_sem]
 have k1:W.cell? ⟨w.heap.size,1,none⟩=some (.int .i64 b):=by rw [hW];simp [go_sem]
 have k2:W.cell? ⟨w.heap.size+1,0,none⟩=some (.int .i64 x):=by rw [hW];simp [go_sem]
 have k3:W.cell? ⟨w.heap.size+1,1,none⟩=some (.int .i64 y):=by rw [hW];simp [go_sem]
 have HWE:Hid _:=hW
 go_enter func94,ntmps94
 go_wp2;rw [← hW];clear hW
 go_region_held3 (fun w'=>w'.cell? ⟨w.heap.size,0,none⟩=some (.int .i64 a)∧w'.cell? ⟨w.heap.size,1,none⟩=some (.int .i64 b)∧w'.cell? ⟨w.heap.size+1,0,none⟩=some (.int .i64 x)∧w'.cell? ⟨w.heap.size+1,1,none⟩=some (.int .i64 y)) (first | exact ⟨k0,k1,k2,k3⟩ | (simp [go_sem,World.cell?_alloc_some,k0,k1,k2,k3];done)) ((first
  | (go_at_call_of 151 (Value.int .i64 x);refine (HP.o _).mono ?_;rintro e w' ⟨rfl,rfl⟩)
  | (go_at_call_of 151 (Value.int .i64 y);refine (HR.o _).mono ?_;rintro e w' ⟨rfl,rfl⟩)
  | (go_at_call 150;refine (rE _ p r _ ?_ ?_).mono ?_;simp [go_sem];simp [go_sem];rintro e w' ⟨rfl,rfl⟩)))
 all_goals
  go_wp2;go_ret;refine ⟨Af HE.o.symm,1,#[.cells #[.int .i64 a,.int .i64 b,.int .i64 c] 113,.cells #[.int .i64 x,.int .i64 y,.int .i64 z] 113,.cells #[.int .i64 p,.int .i64 r] 3],?_⟩;rw [HWE.o]
  rfl
end Go.Proofs.YtomiclakhjncbaaGreatDoor
namespace Go.Proofs.YtomiclakhjncbaaGreatDoor
open Go.RowKit Go.Sort Go.Shelf Go.Lib Go.Proofs.Tryz
set_option maxRecDepth 100000
set_option maxHeartbeats 12800000
theorem Ot (ls:List Ln):flatK Lm 3 ls.toArray=(Ag ls).toArray:=by
 apply ext_get!
 ·simp [Cn]
 ·intro t ht
  simp only [size_flatK,List.size_toArray] at ht
  rw [get_flatK _ _ _ _ (by simpa using ht)]
  have hq:t / 3<ls.length:=by omega
  have hx:ls.toArray[t / 3]! = Cg ls (t / 3):=by simp [Cg,List.getD_eq_getElem?_getD,hq]
  have h:=Hj ls (t / 3) hq;rw [hx]
  have hg:(Ag ls).toArray[t]! = ((Ag ls)[t]?).getD default:=by simp
  rw [hg]
  rcases (show t % 3=0∨t % 3=1∨t % 3=2 by omega) with e | e | e
  ·rw [e,show t=t / 3*3 by omega,h.1,show (t / 3*3) / 3=t / 3 by omega];rfl
  ·rw [e,show t=t / 3*3+1 by omega,h.2.1,show (t / 3*3+1) / 3=t / 3 by omega];rfl
  ·rw [e,show t=t / 3*3+2 by omega,h.2.2,show (t / 3*3+2) / 3=t / 3 by omega];rfl
theorem gT {w:World} {base n cap g:Nat} {t:TypeId} {ls:List Ln} (h:w.ownsRow base t 3 (.slice (some ⟨g,0,none⟩) n cap) n (Ag ls)):HoldsK Lm 3 w g 0 ls.toArray:=by
 have hn:n=ls.length:=by have:=h.1;rw [Cn] at this;omega
 intro j hj;rw [Ot] at hj ⊢
 simp only [List.size_toArray,Cn] at hj
 refine ⟨?_,h.frozenAt _⟩
 rw [Nat.zero_add,h.cellAt j (by omega)]
 have:j<(Ag ls).length:=by rw [Cn];omega
 simp [getElem!_pos,this]
theorem Zf {w:World} {base n cap g m:Nat} {t:TypeId} {ls ds:List Ln} {os:Array Obj} (h:w.ownsRow base t 3 (.slice (some ⟨g,0,none⟩) n cap) n (Ag ls)) (hl:ds.length=ls.length) :
  (sortWorldK Lm 3 w g 0 m ds.toArray os).ownsRow base t 3 (.slice (some ⟨g,0,none⟩) n cap) n (Ag ds):=by
 have hn:n=ls.length:=by have:=h.1;rw [Cn] at this;omega
 have hlt:g<w.heap.size:=(h.lt g rfl).2
 rcases h.2 with ⟨e0,_⟩ | ⟨g',cap',cur,e0,hb,hg,hnc,hm,hs,ht⟩
 ·cases e0
 ·injection e0 with e1 _ e3
  injection e1 with e1
  injection e1 with e1
  subst e1;subst e3
  refine ⟨by rw [Cn];omega,.inr ⟨g,cap,putCells id 0 (Ag ds).toArray cur,rfl,hb,?_,hnc,hm,by simpa [putCells] using hs,?_⟩⟩
  ·unfold sortWorldK putRowK
   rw [Ot]
   have e1:((w.heap.modify g (onCells (putCells id 0 (Ag ds).toArray)))++os)[g]?=some (.cells (putCells id 0 (Ag ds).toArray cur) t):=by
    rw [Array.getElem?_append_left (by simpa using hlt),Array.getElem?_modify,if_pos rfl,hg];rfl
   exact e1
  ·apply List.ext_getElem?
   intro j;rw [List.getElem?_take,Array.getElem?_toList]
   by_cases hj:j<n*3
   ·have hjc:j<cur.size:=by rw [hs];exact Nat.lt_of_lt_of_le hj (Nat.mul_le_mul_right 3 hnc)
    have hd:j<(Ag ds).length:=by rw [Cn];omega
    simp only [if_pos hj,putCells,Array.getElem?_mapIdx,Array.getElem?_eq_getElem hjc,Option.map_some]
    rw [if_pos ⟨Nat.zero_le _,by simpa using hd⟩,List.getElem?_eq_getElem hd]
    simp [getElem!_pos,hd]
   ·rw [if_neg hj,List.getElem?_eq_none (by rw [Cn];omega)]
theorem Tz {B:Nat} {w0 w:World} {g m:Nat} {d:Array Ln} {os:Array Obj} (h:RowKit.Below B w0 w) (hB:B≤w0.heap.size) (hg:B≤g):RowKit.Below B w0 (sortWorldK Lm 3 w g 0 m d os):=by
 refine ⟨h.os,h.tape,h.output,?_,fun k hk=>?_⟩
 ·have:=h.size
  simp [sortWorldK,putRowK,grow,putRow,mapBlock,Sort.ahead];omega
 ·rw [← h.block k hk]
  have hs:=h.size
  have e1:((w.heap.modify g (onCells (putCells id 0 (flatK Lm 3 d))))++os)[k]?=w.heap[k]?:=by
   rw [Array.getElem?_append_left (by simp;omega),Array.getElem?_modify,if_neg (by omega)]
  exact e1
theorem Nl (x y:Ln):ltOf Qh x y=E3 x y:=by
 unfold ltOf
 rw [Bool.eq_iff_iff,decide_eq_true_eq];exact cY x y
theorem tN:SWO (ltOf Qh) where
 irrefl x:=by rw [Nl];simp [E3]
 trans x y z h1 h2:=by rw [Nl] at *;exact Jj h1 h2
 ntrans x y z h1 h2:=by rw [Nl] at *;simp [E3] at *;omega
theorem nO (blk off size:Nat) (w:World):CmpLays prog 94 #[] Lm 3 Qh blk off size w :=
 fun _ _ _ _ x y=>Nr x.1 x.2.1 x.2.2 y.1 y.2.1 y.2.2 _
theorem oJ {ls:List Ln} {d:Array Ln} (h:PermIn 0 ls.toArray.size ls.toArray d):d.toList.Perm ls∧d.size=ls.length:=by
 obtain ⟨h1,_,h3⟩:=h
 have hs:d.size=ls.length:=by simpa using h1
 refine ⟨?_,hs⟩
 have e1:d.extract 0 ls.toArray.size=d:=by simp [← hs]
 have e2:ls.toArray.extract 0 ls.toArray.size=ls.toArray:=by simp
 rw [e1,e2] at h3
 simpa using h3
theorem fY {n:Nat} {d:Array Ln} (h:SortedIn (ltOf Qh) 0 n d) (hn:d.size=n):d.toList.Pairwise (fun x y=>E3 y x=false):=by
 rw [List.pairwise_iff_getElem];intro i j hi hj hij
 simp only [Array.length_toList] at hi hj
 have:=h i j (Nat.zero_le _) hij (by omega)
 rw [Nl,getElem!_pos d j hj,getElem!_pos d i hi] at this
 simpa using this
theorem iN (ao:Option Addr) (n cap base:Nat) (ls:List Ln) (w:World) (ho:w.ownsRow base 113 3 (.slice ao n cap) n (Ag ls)) (hn:ls.length≤1000) (hb:base≤w.heap.size) :
  Calls prog 329 #[.slice ao n cap,.func (.func 94) #[] #[]] w fun e w'=>e=.returned (.tuple #[])∧∃ ds:List Ln,ds.Perm ls∧ds.Pairwise (fun x y=>E3 y x=false)∧w'.ownsRow base 113 3 (.slice ao n cap) n (Ag ds)∧RowKit.Below base w w':=by
 have hnl:n=ls.length:=by have:=ho.1;rw [Cn] at this;omega
 rcases ho.2 with ⟨e0,h0⟩ | ⟨g,cap',cur,e0,hbg,_⟩
 ·have hls:ls=[]:=List.eq_nil_of_length_eq_zero (by omega)
  subst h0;have h:=AnyF.slices_SortFunc_none Tryz.sortLn ao cap (.func (.func 94) #[] #[]) w
  change Calls prog 329 _ _ _ at h
  refine h.mono ?_;rintro e w' ⟨rfl,rfl⟩
  refine ⟨rfl,[],by rw [hls],List.Pairwise.nil,?_,bR⟩
  rw [hls] at ho;exact ho
 ·injection e0 with e1 _ e3
  subst e1;have hlt:=(ho.lt g rfl).2
  have eg:∀ args w,(callFunc 94 args).run prog w=.ok (.enter 94 args) w:=enters_of func94 (by kernel_rfl) rfl
  have h:=AnyQ.slices_SortFunc Tryz.sortLn 3 isAgg113 sizeOf113 Lm (fun _=>rfl) (fun x v hv=>by simp [Lm] at hv;rcases hv with rfl | rfl | rfl <;> rfl) Qh tN 94 #[] g 0 cap ls.toArray w eg (nO g 0 ls.toArray.size w) (gT ho) hlt (by simp;omega)
  change Calls prog 329 _ _ _ at h
  have hz:ls.toArray.size=n:=by simp [hnl]
  rw [hz] at h;refine h.mono ?_;rintro e w' ⟨rfl,d',m,os,hp,hs,rfl⟩;rw [← hz] at hp;obtain ⟨p1,p2⟩:=oJ hp
  have hd:d'=d'.toList.toArray:=by simp
  refine ⟨rfl,d'.toList,p1,fY hs (by rw [p2,hnl]),?_,Tz bR hb hbg⟩
  rw [hd]
  exact Zf ho (by simp [p2])
end Go.Proofs.YtomiclakhjncbaaGreatDoor
namespace Go.Proofs.YtomiclakhjncbaaGreatDoor
open Go.RowKit Go.Maps Go.Proofs.Tryz
set_option maxRecDepth 100000
set_option maxHeartbeats 12800000
def mW (ls:List Ln):Bool:=ls.all fun x=>decide (Ec x.2.1 ls=0)
def P9 (D:DataW Unit) (ls:List Ln):Prop :=
 (∀ c,Maps.has D (.int .i64 c)=ls.any fun x=>decide (x.2.1=c))∧∀ c,D.atKey (.int .i64 c) (.lit (.int .i64 0))=.lit (.int .i64 (Ec c ls))
theorem Xx:P9 (.map []) []:=⟨fun _=>rfl,fun _=>rfl⟩
theorem eA (c:Int) (ls:List Ln) (x:Ln):Ec c (ls++[x])=Ec c ls+if x.2.1=c then x.2.2 else 0:=by simp [Ec]
theorem Vl {D:DataW Unit} {ls:List Ln} (h:P9 D ls) (hm:IsMap D) (x y z:Int):P9 (D.put (.int .i64 y) (.lit (.int .i64 (Ec y ls+z)))) (ls++[(x,y,z)]):=by
 constructor
 ·intro c
  rw [List.any_append]
  by_cases hc:c=y
  ·subst hc
   rw [Maps.has_put_same (k:=.int .i64 c) hm trivial];simp
  ·rw [Maps.has_put_other (Ht hc),h.1 c]
   simp [Ne.symm hc]
 ·intro c
  rw [eA]
  by_cases hc:c=y
  ·subst hc
   rw [Maps.atKey_put_same (k:=.int .i64 c) hm trivial];simp
  ·rw [Maps.atKey_put_other (Ht hc),h.2 c]
   simp [Ne.symm hc]
theorem lV {ls:List Ln} (h:∀ x ∈ ls,-1000000000000≤x.2.2∧x.2.2≤1000000000000) (c:Int) (k:Nat):-1000000000000 * (k:Int)≤Ec c (ls.take k)∧Ec c (ls.take k)≤1000000000000 * (k:Int):=by
 induction k with
 | zero=>simp [Ec]
 | succ k ih =>
  by_cases hk:k<ls.length
  ·rw [N5 c ls k hk]
   have:=h _ (Ex hk)
   split <;> omega
  ·rw [List.take_of_length_le (by omega)]
   rw [List.take_of_length_le (by omega)] at ih
   omega
theorem iW (ao:Option Addr) (cap:Nat) (ls:List Ln) (w:World) (hz:Ai w ao ls) (hn:ls.length≤400) (hbd:∀ x ∈ ls,-1000000000000≤x.2.2∧x.2.2≤1000000000000) (hwf:∀ x ∈ ls,Bf x.2.1) :
  Calls prog 95 #[.slice ao ls.length cap] w fun e w'=>e=.returned (.bool (mW ls))∧BW w w':=by
 have hmm:=@run_makeMap prog;have HZ:Hid (Ai w ao ls):=hz;have HBD:Hid (∀ x ∈ ls,-1000000000000≤x.2.2∧x.2.2≤1000000000000):=hbd;have HWF:Hid (∀ x ∈ ls,Bf x.2.1):=hwf;clear hz hbd hwf;have hown0:=World.ownsMap_made w prog 3 (plainElem (H:=Unit) prog 3);have hb0:=(Below.refl w.heap.size w).alloc nL (.map #[] 0)
 go_enter func95,ntmps95
 go_wp2
 go_loopw [11] (fun i wr=>∃ (k:Nat) (D:DataW Unit),k≤ls.length∧i=.int .i64 k∧wr.ownsMap prog 3 (plainElem (H:=Unit) prog 3) w.heap.size k D∧P9 D (ls.take k)∧BW w wr) (fun i _=>ls.length - (intOf i).toNat)
 case atStart=>exact ⟨0,.map [],Nat.zero_le _,rfl,hown0,Xx,hb0⟩
 case round =>
  obtain ⟨k,D,hk,rfl,hown,hsum,hbr⟩:=hrel;have hbs:=hbr.size;have HSUM:Hid (P9 D (ls.take k)):=hsum;have HOWN:Hid (wr.ownsMap prog 3 (plainElem (H:=Unit) prog 3) w.heap.size k D):=hown;clear hown0 hb0 hsum hown
  by_cases hlt:k<ls.length
  ·have hki:(k:Int)<(ls.length:Int):=by omega
   obtain ⟨b,off,rfl,hb2,c1,c2,c3⟩:=(HZ.o.below hbr).at hlt;have hbk:=HBD.o _ (Ex hlt);have hwk:=HWF.o _ (Ex hlt);have HTK:Hid _:=Kl ls k hlt;obtain ⟨⟨x,y,z⟩,hx⟩:∃ x,Cg ls k=x:=⟨_,rfl⟩;rw [hx] at c1 c2 c3 hbk hwk HTK
   simp only at c1 c2 c3 hbk hwk
   have hab:=lV HBD.o y k;have HWK:Hid (Bf y):=hwk
   have hy:∀ c:Int,D.atKey (.int .i64 y) (.lit (.int .i64 0))=.lit (.int .i64 c)→c=Ec y (ls.take k)∧IntKind.i64.wrap (c+z)=c+z∧(Lit.int .i64 (c+z)).wf=true:=fun c h=>by
    have e:=h.symm.trans (HSUM.o.2 y)
    have hc:c=Ec y (ls.take k):=by injection e with e1;injection e1
    have hk4:(k:Int)≤400:=by omega
    refine ⟨hc,?_,?_⟩
    ·rw [hc];simp [IntKind.wrap,IntKind.bits,IntKind.signed];omega
    ·exact WalkArith.wf_i64 (by rw [hc];omega)
   have HY:Hid _:=hy
   have HKM:Hid (k<maxLen):=by unfold maxLen;rw [Hid];omega
   have HBX:Hid (∀ o,Below w.heap.size w (wr.alloc o)):=fun o=>hbr.alloc hbs o
   clear hx hwk hab hy hbk
   go_wp2_with (first
    | (at_lookup;refine wpList_lookup_own_int _ rfl _ _ 186 rfl 3 3 .i64 Fp underlying186 underlying3 (Ox _) w.heap.size k D rfl (HOWN.o.alloc _) _ _ rfl (keyOf_int_mk underlying3 HWK.o) ?_;intro c hat hwc;have HC:Hid (c=Ec y (ls.take k)):=(HY.o c hat).1;have hwr:=(HY.o c hat).2.1;have HWC:Hid ((Lit.int .i64 (c+z)).wf=true):=(HY.o c hat).2.2;clear hat hwc)
    | (at_mapUpdate;refine wpList_mapUpdate_own _ rfl _ _ _ 186 rfl 3 3 Fp underlying186 _ w.heap.size k D rfl (HOWN.o.alloc _) HKM.o _ _ _ rfl rfl (keyOf_int_mk underlying3 HWK.o) _ [] (plainElem_int underlying3 HWC.o) ?_;intro w1 hown1 hgrow1)
    | go_in)
   have HO1:Hid (w1.ownsMap prog 3 (plainElem (H:=Unit) prog 3) w.heap.size (k+1) (D.put (.int .i64 y) (.lit (.int .i64 (c+z))))):=hown1
   have q1:BW w w1:=(HBX.o _).grown hgrow1 (HBX.o _).size (fun j hj=>by cases hj;exact nL)
   clear hown1 hgrow1;go_wp2
   go_roundw
   case rel=>exact ⟨k+1,_,by omega,by go_num,HO1.o,by rw [HTK.o,HC.o];exact Vl HSUM.o HOWN.o.isMap x y z,q1⟩
   case measure=>simp [intOf];omega
  ·have hke:k=ls.length:=by omega
   subst hke
   have hki:¬ (ls.length:Int)<(ls.length:Int):=by omega
   rw [List.take_length] at HSUM;obtain ⟨W,hW⟩:∃ W,W=wr:=⟨_,rfl⟩;subst hW
   go_wp2_with (first
    | (at_range;refine wpList_range_own _ rfl _ 186 rfl 3 3 Fp underlying186 _ w.heap.size ls.length _ rfl HOWN.o ?_;intro w0 hrg0 hg0 hs0)
    | go_in)
   try go_frame
   have qb0:BW w w0:=hbr.grown hg0 hbs (fun j hj=>by cases hj)
   go_loopw [7] (fun _ wr=>∃ (left:Lit→Bool) (Mw:Nat),wr.ranges prog 3 (plainElem (H:=Unit) prog 3) w.heap.size W.heap.size ls.length D left Mw∧(∀ c,left (.int .i64 c)=true→Maps.has D (.int .i64 c)=true)∧(∀ c,Maps.has D (.int .i64 c)=true→left (.int .i64 c)=false→Ec c ls=0)∧BW w wr)
    (fun _ wr=>wr.rangeLeft w.heap.size W.heap.size)
   case atStart=>exact ⟨_,_,hrg0,fun _ h=>h,(fun c h1 h2=>by rw [h1] at h2;cases h2),qb0⟩
   case round =>
    obtain ⟨left,Mw,hrg,hle,hzero,hbw⟩:=hrel;clear hrg0 hg0 hs0 qb0;have HLE:Hid (∀ c,left (.int .i64 c)=true→Maps.has D (.int .i64 c)=true):=hle;have HZR:Hid (∀ c,Maps.has D (.int .i64 c)=true→left (.int .i64 c)=false→Ec c ls=0):=hzero;have HRG:Hid (wr.ranges prog 3 (plainElem (H:=Unit) prog 3) w.heap.size W.heap.size ls.length D left Mw):=hrg;clear hle hzero hrg
    go_wp2_with (first
     | (at_next;refine wpList_next_ranges_ii _ rfl _ rfl 3 3 .i64 .i64 Fp underlying3 underlying3 w.heap.size W.heap.size ls.length _ _ _ rfl HRG.o ?_ ?_)
     | go_in)
    ·intro _ hl0
     have HV:Hid (mW ls=true):=by
      rw [Hid,mW,List.all_eq_true];intro x hx
      have hh:Maps.has D (.int .i64 x.2.1)=true:=by
       rw [HSUM.o.1,List.any_eq_true];exact ⟨x,hx,by simp⟩
      simpa using HZR.o _ hh (hl0 _)
     clear hl0;go_wp2;go_ret;exact ⟨Aa HV.o.symm,hbw⟩
    ·intro x c w1 cnt1 hwx hwc hlx hat hrg1 hlt hg1 hs1 hen
     have hcs:c=Ec x ls:=by
      have e:=(hat (.lit (.int .i64 0))).symm.trans (HSUM.o.2 x)
      injection e with e1;injection e1
     have q1:BW w w1:=hbw.grown hg1 hbw.size (fun j hj=>by cases hj;exact hbs)
     have HRG1:Hid (w1.ranges prog 3 (plainElem (H:=Unit) prog 3) w.heap.size W.heap.size ls.length D (fun z=>left z && !z.sameKey (.int .i64 x)) cnt1):=hrg1
     have HLT:Hid _:=hlt;have HHX:Hid _:=HLE.o _ hlx;clear hat hrg1 hlt hg1 hwx hwc
     by_cases hc0:c=0
     ·have hc0':(c != 0)=false:=by simpa using hc0
      have HS0:Hid (Ec x ls=0):=by rw [Hid,← hcs,hc0]
      clear hcs hc0;go_wp2
      go_roundw
      case rel =>
       refine ⟨_,cnt1,HRG1.o,(fun c' h=>HLE.o c' (Bool.and_eq_true _ _ ▸ h).1),fun c' h1 h2=>?_,q1⟩
       by_cases hx:c'=x
       ·rw [hx];exact HS0.o
       ·refine HZR.o c' h1 ?_
        have:=Maps.sameKey_ne (Ht hx)
        simp [this] at h2
        exact h2
      case measure=>rw [HRG1.o.left_eq,HRG.o.left_eq];exact HLT.o
     ·have hc0':(c != 0)=true:=by simpa using hc0
      have HV:Hid (mW ls=false):=by
       rw [Hid,mW];have hh:=HHX.o;rw [HSUM.o.1,List.any_eq_true] at hh;obtain ⟨y,hy,he⟩:=hh
       simp at he
       rw [List.all_eq_false]
       exact ⟨y,hy,by rw [he,← hcs];simpa using hc0⟩
      clear hcs hc0;go_wp2;go_ret;exact ⟨Aa HV.o.symm,q1⟩
end Go.Proofs.YtomiclakhjncbaaGreatDoor
namespace Go.Proofs.YtomiclakhjncbaaGreatDoor
open Go.RowKit Go.Proofs.Tryz
set_option maxRecDepth 100000
set_option maxHeartbeats 12800000
theorem Zm (w:World) (q:Nat) (os:Array Obj):Below w.heap.size w (Go.Sort.grow (w.drewN q) os) :=
 ⟨rfl,rfl,rfl,by simp [Go.Sort.grow,World.drewN],fun k hk=>by simp [Go.Sort.grow,World.drewN,Array.getElem?_append,hk]⟩
theorem Kt {a c m:Int} {v:Bool} (h:G7 (a,c,m)=v) (hc:(Lit.int .i64 c).wf=true) (w:World) :
  Calls prog 93 #[.agg #[.int .i64 a,.int .i64 c,.int .i64 m]] w fun e w'=>e=.returned (.bool v)∧BW w w':=by rw [← h];exact aY a c m w hc
theorem Pb {a b c x y z v:Int} (h:Qh (a,b,c) (x,y,z)=v) (w:World) :
  Calls prog 94 #[.agg #[.int .i64 a,.int .i64 b,.int .i64 c],.agg #[.int .i64 x,.int .i64 y,.int .i64 z]] w fun e w'=>e=.returned (.int .i64 v)∧BW w w' :=
 (Nr a b c x y z w).mono fun e w' ⟨he,q,os,hw⟩=>⟨by rw [he,h],by rw [hw];exact Zm w q os⟩
theorem nU {ls:List Ln} (h:Az none ls=true) (hl:ls.length≤400):At ls=mW ls:=by
 have he:Wo ls=mW ls:=by
  rw [Bool.eq_iff_iff,hH fun x hx=>(Ig (Dv h x hx)).2.1,mW,List.all_eq_true]
  simp
 simp [At,h,hl,he]
theorem Ij (ao:Option Addr) (cap:Nat) (ls:List Ln) (w:World) (hz:Ai w ao ls) (hn:ls.length≤1099511627776) (hwf:∀ x ∈ ls,Hw x) :
  Calls prog 39 #[.agg #[.slice ao ls.length cap]] w fun e w'=>e=.returned (.bool (At ls))∧BW w w':=by
 obtain ⟨W,hW⟩:∃ W,W=w.alloc (.cells #[.slice ao ls.length cap] 29):=⟨_,rfl⟩
 have bW:BW w W:=by rw [hW];go_grown
 have hWs:w.heap.size<W.heap.size:=by rw [hW];simp
 have k0:W.cell? ⟨w.heap.size,0,none⟩=some (.slice ao ls.length cap):=by rw [hW];simp
 have HK:Hid (W.cell? ⟨w.heap.size,0,none⟩=some (.slice ao ls.length cap)):=k0;have HZ:Hid (Ai W ao ls):=hz.below bW;have HWF:Hid (∀ x ∈ ls,Hw x):=hwf;clear hz hwf
 by_cases h4:(400:Int)<(ls.length:Int)
 ·have HE:Hid (At ls=false):=by
    have:¬ ls.length≤400:=by omega
    simp [Hid,At,this]
  go_enter func39,ntmps39
  go_wp2;go_ret;rw [← hW];exact ⟨Aa HE.o.symm,bW⟩
 have hl4:ls.length≤400:=by omega
 go_enter func39,ntmps39
 go_wp2;rw [← hW];clear hW
 go_loopw [12] (fun i wr=>∃ k:Nat,k≤ls.length∧i=.int .i64 k∧Az none ls=Az (Fc ls k) (ls.drop k)∧BW W wr) (fun i _=>ls.length - (intOf i).toNat)
 case atStart=>exact ⟨0,Nat.zero_le _,rfl,rfl,bR⟩
 case round =>
  obtain ⟨k,hk,rfl,hok,hbr⟩:=hrel;have HOK:Hid _:=hok;have hbs:=hbr.size;have hws:w.heap.size<wr.heap.size:=Nat.lt_of_lt_of_le hWs hbs;clear hok k0
  by_cases hlt:k<ls.length
  ·have hki:(k:Int)<(ls.length:Int):=by omega
   obtain ⟨b,off,rfl,hb2,c1,c2,c3⟩:=(HZ.o.below hbr).at hlt;have hst:=Mq ls k hlt;have hwk:=HWF.o _ (Ex hlt);obtain ⟨p,hp⟩:∃ p,Fc ls k=p:=⟨_,rfl⟩;have HP:Hid _:=hp;rw [hp] at hst HOK;obtain ⟨⟨x,y,z⟩,hx⟩:∃ x,Cg ls k=x:=⟨_,rfl⟩;rw [hx] at c1 c2 c3 hst hwk
   simp only at c1 c2 c3
   have HWK:Hid ((Lit.int .i64 y).wf=true):=hwk.2.1;have HST:Hid _:=HOK.o.trans hst;obtain ⟨V,hV⟩:∃ V,V=wr.alloc (.cells #[.int .i64 x,.int .i64 y,.int .i64 z] 113):=⟨_,rfl⟩
   have bV:BW W V:=by rw [hV];exact hbr.alloc hbs _
   have hVs:V.heap.size=wr.heap.size+1:=by rw [hV];simp
   have v0:V.cell? ⟨wr.heap.size,0,none⟩=some (.int .i64 x):=by rw [hV];simp
   have v1:V.cell? ⟨wr.heap.size,1,none⟩=some (.int .i64 y):=by rw [hV];simp
   have v2:V.cell? ⟨wr.heap.size,2,none⟩=some (.int .i64 z):=by rw [hV];simp
   have l0:=(bV.cell (p:=⟨w.heap.size,0,none⟩) hWs).trans HK.o;have HBV:Hid (BW W V):=bV;have HBW:Hid (BW w W):=bW;have hVw:W.heap.size≤V.heap.size:=bV.size;have hne:=K0 V;have g0:=As v0;have g1:=As v1;have g2:=As v2;have g3:=As l0;have HLV:Hid (Ai V (some ⟨b,off,none⟩) ls):=HZ.o.below bV;go_upto_region 6 with fail
   rw [← hV];clear hV hst hx hp HOK hwk bV bW hbr c1 c2 c3
   cases h1:G7 (x,y,z)
   ·have HE:Hid (At ls=false):=by
      unfold At
      rw [Hid,HST.o,h1];rfl
    have H1:Hid _:=h1;clear h1 HST
    refine B6 (by kernel_rfl) (by kernel_rfl) ?_
    repeat (go_big_quiet_step (exact F8 (Kt H1.o HWK.o _)))
    refine wpQuiet_nil ?_;rintro _ ⟨⟨u1,q1⟩,hu1⟩;subst hu1;go_wp2;go_ret;exact ⟨Aa HE.o.symm,HBW.o.trans ((HBV.o.trans (q1.mono hVw)).mono HBW.o.size)⟩
   have H1:Hid _:=h1
   have HST2:Hid (Az none ls=(Ni p (x,y,z) && Az (Fc ls (k+1)) (ls.drop (k+1)))):=by rw [Hid,HST.o,h1];rfl
   clear h1 HST
   cases k with
   | zero =>
    have HN:Hid (Az none ls=Az (Fc ls (0+1)) (ls.drop (0+1))):=by
     have hp0:p=none:=by rw [← HP.o];rfl
     rw [Hid,HST2.o,hp0];rfl
    clear HST2 HP
    refine B6 (by kernel_rfl) (by kernel_rfl) ?_
    repeat (go_big_quiet_step (exact F8 (Kt H1.o HWK.o _)))
    refine wpQuiet_nil ?_;rintro _ ⟨⟨u1,q1⟩,hu1⟩;subst hu1;go_wp2
    go_roundw
    case rel=>exact ⟨1,by omega,by go_num,HN.o,HBV.o.trans (q1.mono hVw)⟩
    case measure=>simp [intOf];omega
   | succ k =>
    have hpe:p=some (Cg ls k):=by rw [← HP.o];simp [Fc]
    obtain ⟨b',off',hao,hb',e1,e2,e3⟩:=HLV.o.at (k:=k) (by omega)
    obtain ⟨rfl,rfl⟩:b=b'∧off=off':=by simpa using hao
    obtain ⟨⟨x',y',z'⟩,hx'⟩:∃ x,Cg ls k=x:=⟨_,rfl⟩;rw [hx'] at e1 e2 e3 hpe
    simp only at e1 e2 e3
    subst hpe;have HLT:Hid (Az none ls=(E3 (x',y',z') (x,y,z) && Az (Fc ls (k+1+1)) (ls.drop (k+1+1)))):=HST2.o
    have hk1:((k+1:Nat):Int) - 1=(k:Int):=by omega
    have hk2:(0:Int)<((k+1:Nat):Int):=by omega
    have hkl:(k:Int)<(ls.length:Int):=by omega
    have g4:=As e1;have g5:=As e2;have g6:=As e3
    have hkz:decide (0<k+1)=true:=by simp
    obtain ⟨v,hv⟩:∃ v,Qh (x',y',z') (x,y,z)=v:=⟨_,rfl⟩;have hiff:=cY (x',y',z') (x,y,z);rw [hv] at hiff;have HV:Hid _:=hv;have HIF:Hid _:=hiff;clear HST2 HP hx' hao HLV hv hiff
    by_cases h2:0≤v
    ·have hdn:decide (0≤v)=true:=by simpa using h2
     have HE:Hid (At ls=false):=by
      have:E3 (x',y',z') (x,y,z)=false:=by
       cases h:E3 (x',y',z') (x,y,z)
       ·rfl
       ·have:=HIF.o.2 h;omega
      unfold At
      rw [Hid,HLT.o,this];rfl
     clear HLT HIF
     refine B6 (by kernel_rfl) (by kernel_rfl) ?_
     repeat (go_big_quiet_step (first | exact F8 (Kt H1.o HWK.o _) | exact F8 (Pb HV.o _)))
     refine wpQuiet_nil ?_;rintro _ ⟨⟨u1,q1⟩,hu1⟩;subst hu1;go_wp2;go_ret;exact ⟨Aa HE.o.symm,HBW.o.trans ((HBV.o.trans (q1.mono hVw)).mono HBW.o.size)⟩
    ·have hdn:decide (0≤v)=false:=by simpa using h2
     have HN:Hid (Az none ls=Az (Fc ls (k+1+1)) (ls.drop (k+1+1))):=by
      rw [Hid,HLT.o,HIF.o.1 (by omega)];rfl
     clear HLT HIF
     refine B6 (by kernel_rfl) (by kernel_rfl) ?_
     repeat (go_big_quiet_step (first | exact F8 (Kt H1.o HWK.o _) | exact F8 (Pb HV.o _)))
     refine wpQuiet_nil ?_;rintro _ ⟨⟨u1,q1⟩,hu1⟩;subst hu1;go_wp2
     go_roundw
     case rel=>exact ⟨k+1+1,by omega,by go_num,HN.o,HBV.o.trans (q1.mono hVw)⟩
     case measure=>simp [intOf];omega
  ·have hke:k=ls.length:=by omega
   subst hke
   have hki:¬ (ls.length:Int)<(ls.length:Int):=by omega
   have hall:Az none ls=true:=by rw [HOK.o,Pf]
   have HE:Hid (At ls=mW ls):=nU hall hl4
   have HBD:Hid (∀ x ∈ ls,-1000000000000≤x.2.2∧x.2.2≤1000000000000):=fun x hx=>(Ig (Dv hall x hx)).2.2.1
   have l0:=(hbr.cell (p:=⟨w.heap.size,0,none⟩) hWs).trans HK.o;have q0:=next bW hbr;have HZR:Hid (Ai wr ao ls):=HZ.o.below hbr;clear HOK hall hbr bW;go_wp2_with fail
   refine (iW _ _ _ _ HZR.o hl4 HBD.o (fun x hx=>(HWF.o x hx).2.1)).mono ?_
   rintro e u1 ⟨rfl,b1⟩;have q1:=next q0 b1;obtain ⟨V,hV⟩:∃ V,mW ls=V:=⟨_,rfl⟩;rw [hV] at HE ⊢;clear b1 q0 hV;go_wp2;go_ret;exact ⟨Aa HE.o.symm,q1⟩
def put6 (u:World) (h:Nat) (a b c d e f:Value):World:=((((((u.setCell ⟨h,0,none⟩ a).setCell ⟨h,1,none⟩ b).setCell ⟨h,2,none⟩ c).setCell ⟨h,3,none⟩ d).setCell ⟨h,4,none⟩ e).setCell ⟨h,5,none⟩ f)
theorem _root_.Go.RowKit.Below.put6 {w u:World} (h:BW w u) (a b c d e f:Value):Below w.heap.size w (put6 u w.heap.size a b c d e f) :=
 (((((h.setCell nL _).setCell nL _).setCell nL _).setCell nL _).setCell nL _).setCell nL _
theorem jB {w:World} {base n g cap:Nat} {t:TypeId} {xs:List Value} (ho:w.ownsRow base t 12 (.slice (some ⟨g,0,none⟩) n cap) n xs) (j:Nat) (v0 v1 v2 v3 v4 v5 v6 v7 v8 v9 v10 v11:Value) :
  ∃ ys,((((((((((((w.setCell ⟨g,j*12,none⟩ v0).setCell ⟨g,j*12+1,none⟩ v1).setCell ⟨g,j*12+2,none⟩ v2).setCell ⟨g,j*12+3,none⟩ v3).setCell ⟨g,j*12+4,none⟩ v4).setCell ⟨g,j*12+5,none⟩ v5).setCell ⟨g,j*12+6,none⟩ v6).setCell ⟨g,j*12+7,none⟩ v7).setCell ⟨g,j*12+8,none⟩ v8).setCell ⟨g,j*12+9,none⟩ v9).setCell ⟨g,j*12+10,none⟩ v10).setCell ⟨g,j*12+11,none⟩ v11).ownsRow base t 12 (.slice (some ⟨g,0,none⟩) n cap) n ys∧w.grownBy ((((((((((((w.setCell ⟨g,j*12,none⟩ v0).setCell ⟨g,j*12+1,none⟩ v1).setCell ⟨g,j*12+2,none⟩ v2).setCell ⟨g,j*12+3,none⟩ v3).setCell ⟨g,j*12+4,none⟩ v4).setCell ⟨g,j*12+5,none⟩ v5).setCell ⟨g,j*12+6,none⟩ v6).setCell ⟨g,j*12+7,none⟩ v7).setCell ⟨g,j*12+8,none⟩ v8).setCell ⟨g,j*12+9,none⟩ v9).setCell ⟨g,j*12+10,none⟩ v10).setCell ⟨g,j*12+11,none⟩ v11) (some g):=by
 obtain ⟨h0,g0⟩:=ho.stored (j*12) v0;obtain ⟨h1,g1⟩:=h0.stored (j*12+1) v1;obtain ⟨h2,g2⟩:=h1.stored (j*12+2) v2;obtain ⟨h3,g3⟩:=h2.stored (j*12+3) v3;obtain ⟨h4,g4⟩:=h3.stored (j*12+4) v4;obtain ⟨h5,g5⟩:=h4.stored (j*12+5) v5;obtain ⟨h6,g6⟩:=h5.stored (j*12+6) v6;obtain ⟨h7,g7⟩:=h6.stored (j*12+7) v7;obtain ⟨h8,g8⟩:=h7.stored (j*12+8) v8;obtain ⟨h9,g9⟩:=h8.stored (j*12+9) v9;obtain ⟨h10,g10⟩:=h9.stored (j*12+10) v10;obtain ⟨h11,g11⟩:=h10.stored (j*12+11) v11;exact ⟨_,h11,(((((((((((g0.trans g1).trans g2).trans g3).trans g4).trans g5).trans g6).trans g7).trans g8).trans g9).trans g10).trans g11)⟩
theorem Rt (ao:Option Addr) (cap base k n:Nat) (xs:List Value) (w:World) (ho:w.ownsRow base 61 12 (.slice ao n cap) n xs) (hn:n≤1048576) (k2:k≤1099511627) :
  Calls prog 58 #[.slice ao n cap,.int .i64 k] w fun e w'=>e=.returned (.int .i64 ((k+12*n:Nat):Int))∧(∃ ys,w'.ownsRow base 61 12 (.slice ao n cap) n ys)∧w.grownBy w' (Value.slice ao n cap).ownBlock:=by
 rcases ho.2 with ⟨hv,h0⟩ | ⟨g,cap',cur,hv,hrest⟩
 ·obtain ⟨rfl,rfl,rfl⟩:ao=none∧n=0∧cap=0:=by simpa using hv
  clear hv h0
  go_enter func58,ntmps58
  go_wp2;refine wp_loop_rounds 1 ?_;rw [rounds_succ];go_wp2;go_ret;exact ⟨rfl,⟨xs,ho⟩,World.grownBy.refl _ _⟩
 ·obtain ⟨rfl,rfl⟩:ao=some ⟨g,0,none⟩∧cap=cap':=by simpa using hv
  clear hv hrest;have HO0:Hid (w.ownsRow base 61 12 (.slice (some ⟨g,0,none⟩) n cap) n xs):=ho;clear ho
  go_enter func58,ntmps58
  go_wp2
  go_loopw [1,5] (fun c i wr=>∃ (j:Nat) (ys:List Value),j≤n∧i=.int .i64 j∧c=.int .i64 ((k+12*j:Nat):Int)∧wr.ownsRow base 61 12 (.slice (some ⟨g,0,none⟩) n cap) n ys∧w.grownBy wr (some g)) (fun _ i _=>n - (intOf i).toNat)
  case atStart=>exact ⟨0,xs,Nat.zero_le _,rfl,by simp,HO0.o,World.grownBy.refl _ _⟩
  case round =>
   obtain ⟨j,ys,hj,rfl,rfl,ho,hg⟩:=hrel;clear HO0;have HG:Hid (w.grownBy wr (some g)):=hg;clear hg
   by_cases hlt:j<n
   ·have hji:(j:Int)<(n:Int):=by omega
    obtain ⟨m,hm⟩:∃ m:Nat,m=k+12*j:=⟨_,rfl⟩
    have hmb:m≤7696581390:=by omega
    have HM:Hid (m=k+12*j):=hm;rw [← hm];clear hm
    have hyl:ys.length=n*12:=by simpa using ho.1
    have hex:∀ p,p<n*12→∃ v,wr.cell? ⟨g,p,none⟩=some v:=fun p hp=>by
     rw [ho.cellAt p (by omega)]
     exact ⟨_,List.getElem?_eq_getElem (by omega)⟩
    obtain ⟨o0,y0⟩:=hex (j*12) (by omega)
    have z0:wr.frozen? ⟨g,j*12,none⟩=false:=ho.frozenAt _
    obtain ⟨o1,y1⟩:=hex (j*12+1) (by omega)
    have z1:wr.frozen? ⟨g,j*12+1,none⟩=false:=ho.frozenAt _
    obtain ⟨o2,y2⟩:=hex (j*12+2) (by omega)
    have z2:wr.frozen? ⟨g,j*12+2,none⟩=false:=ho.frozenAt _
    obtain ⟨o3,y3⟩:=hex (j*12+3) (by omega)
    have z3:wr.frozen? ⟨g,j*12+3,none⟩=false:=ho.frozenAt _
    obtain ⟨o4,y4⟩:=hex (j*12+4) (by omega)
    have z4:wr.frozen? ⟨g,j*12+4,none⟩=false:=ho.frozenAt _
    obtain ⟨o5,y5⟩:=hex (j*12+5) (by omega)
    have z5:wr.frozen? ⟨g,j*12+5,none⟩=false:=ho.frozenAt _
    obtain ⟨o6,y6⟩:=hex (j*12+6) (by omega)
    have z6:wr.frozen? ⟨g,j*12+6,none⟩=false:=ho.frozenAt _
    obtain ⟨o7,y7⟩:=hex (j*12+7) (by omega)
    have z7:wr.frozen? ⟨g,j*12+7,none⟩=false:=ho.frozenAt _
    obtain ⟨o8,y8⟩:=hex (j*12+8) (by omega)
    have z8:wr.frozen? ⟨g,j*12+8,none⟩=false:=ho.frozenAt _
    obtain ⟨o9,y9⟩:=hex (j*12+9) (by omega)
    have z9:wr.frozen? ⟨g,j*12+9,none⟩=false:=ho.frozenAt _
    obtain ⟨o10,y10⟩:=hex (j*12+10) (by omega)
    have z10:wr.frozen? ⟨g,j*12+10,none⟩=false:=ho.frozenAt _
    obtain ⟨o11,y11⟩:=hex (j*12+11) (by omega)
    have z11:wr.frozen? ⟨g,j*12+11,none⟩=false:=ho.frozenAt _;have HO:Hid (wr.ownsRow base 61 12 (.slice (some ⟨g,0,none⟩) n cap) n ys):=ho;clear hex hyl ho;go_wp2
    go_roundw
    case rel =>
     obtain ⟨zs,q1,q2⟩:=jB HO.o j _ _ _ _ _ _ _ _ _ _ _ _
     exact ⟨j+1,zs,by omega,by go_num,by have:=HM.o;congr 1;omega,q1,HG.o.trans q2⟩
    case measure=>simp [intOf];omega
   ·have hjn:j=n:=by omega
    have hji:¬ (j:Int)<(n:Int):=by omega
    subst hjn;have HO:Hid (wr.ownsRow base 61 12 (.slice (some ⟨g,0,none⟩) j cap) j ys):=ho;clear ho;go_wp2;go_ret;exact ⟨rfl,⟨ys,HO.o⟩,HG.o⟩
def dV (n:Nat):Au:=⟨Tv (n),((n+1:Nat):Int),((n+2:Nat):Int),((n+3:Nat):Int),((n+4:Nat):Int),((n+5:Nat):Int) % 3 == 0⟩
def aR (k n:Nat):List Au:=(List.range n).map fun i=>dV (k+6*i)
theorem Mh (k n:Nat):(aR k n).length=n:=by simp [aR]
theorem rS (k n i:Nat) (h:i<n):Ak (aR k n) i=dV (k+6*i):=by simp [Ak,aR,List.getD_eq_getElem?_getD,h]
def Hm (az:List Au) (k j:Nat):List Au:=aR k j++az.drop j
theorem gL (az:List Au) (k j:Nat) (h:j≤az.length):(Hm az k j).length=az.length:=by simp [Hm,Mh];omega
theorem Zl (az:List Au) (k:Nat):Hm az k 0=az:=by simp [Hm,aR]
theorem gB (az:List Au) (k:Nat):Hm az k az.length=aR k az.length:=by simp [Hm]
theorem Zu (az:List Au) (k j:Nat) (h:j<az.length):(Hm az k j).set j (dV (k+6*j))=Hm az k (j+1):=by
 unfold Hm
 rw [List.set_append,if_neg (by rw [Mh];omega),Mh,Nat.sub_self,List.drop_eq_getElem_cons h,List.set_cons_zero]
 simp [aR,List.range_succ]
theorem dO {w w':World} (h:BW w w') (r:Option Nat):w.grownBy w' r:=⟨h.os,h.tape,h.output,h.size,fun k hk _=>h.block k hk⟩
theorem Lr (ao:Option Addr) (cap base k:Nat) (az:List Au) (w:World) (ho:w.ownsRow base 107 6 (.slice ao az.length cap) az.length (Ah az)) (hn:az.length≤1099511627) (k1:0<k) (k2:k≤1099511627) :
  Calls prog 57 #[.slice ao az.length cap,.int .i64 k] w fun e w'=>e=.returned (.int .i64 (k+6*az.length:Nat)) ∧
   w'.ownsRow base 107 6 (.slice ao az.length cap) az.length (Ah (aR k az.length))∧w.grownBy w' (Value.slice ao az.length cap).ownBlock:=by
 rcases ho.2 with ⟨hv,h0⟩ | ⟨g,cap',cur,hv,hrest⟩
 ·obtain rfl:az=[]:=List.eq_nil_of_length_eq_zero h0
  obtain ⟨rfl,rfl⟩:ao=none∧cap=0:=by simpa using hv
  clear hv h0
  go_enter func57,ntmps57
  go_wp2;refine wp_loop_rounds 1 ?_;rw [rounds_succ];go_wp2;go_ret
  exact ⟨Af (by simp),World.ownsRow_nil _ _ _ _,World.grownBy.refl _ _⟩
 ·obtain ⟨rfl,rfl⟩:ao=some ⟨g,0,none⟩∧cap=cap':=by simpa using hv
  clear hv hrest
  go_enter func57,ntmps57
  go_wp2
  go_loopw [1,5] (fun c i wr=>∃ j:Nat,j≤az.length∧i=.int .i64 j∧c=.int .i64 (k+6*j:Nat)∧wr.ownsRow base 107 6 (.slice (some ⟨g,0,none⟩) az.length cap) az.length (Ah (Hm az k j))∧w.grownBy wr (some g)) (fun _ i _=>az.length - (intOf i).toNat)
  case atStart=>exact ⟨0,Nat.zero_le _,rfl,rfl,by rw [Zl];exact ho,World.grownBy.refl _ _⟩
  case round =>
   obtain ⟨j,hj,rfl,rfl,hor,hgr⟩:=hrel;clear ho
   by_cases hlt:j<az.length
   ·have hji:(j:Int)<(az.length:Int):=by omega
    have HFL:Hid (j<(Hm az k j).length):=by rw [Hid,gL az k j hj];exact hlt
    have HSU:Hid ((Hm az k j).set j (dV (k+6*j))=Hm az k (j+1)):=Zu az k j hlt;obtain ⟨fs,hfs⟩:∃ x,Hm az k j=x:=⟨_,rfl⟩;obtain ⟨gs,hgs⟩:∃ x,Hm az k (j+1)=x:=⟨_,rfl⟩;have HGS:Hid _:=hgs;rw [hfs] at hor HFL HSU;rw [hgs] at HSU;obtain ⟨m,hm⟩:∃ m:Nat,k+6*j=m:=⟨_,rfl⟩;rw [hm] at HSU ⊢
    have hmb:m≤7696581390:=by omega
    have hm0:0<m:=by omega
    have HM:Hid (k+6 * (j+1)=m+1+1+1+1+1+1):=by rw [Hid];omega
    have HO:Hid (wr.ownsRow base 107 6 (.slice (some ⟨g,0,none⟩) az.length cap) az.length (Ah fs)):=hor;have HG:Hid (w.grownBy wr (some g)):=hgr;clear hor hgr hm hfs hgs;go_wp2_with fail
    refine (Gv m _ hm0 (by omega)).mono ?_
    rintro e w2 ⟨rfl,b2⟩;have ho:=Iw HO.o b2;have hat:=De fs j HFL.o;have HS:=Hu fs (dV m) j HFL.o;rw [HSU.o] at HS
    simp only [dV] at HS
    have y0:w2.cell? ⟨g,j*6,none⟩=some (.string ⟨(Ak fs j).ref.toArray⟩):=by rw [ho.cellAt (j*6) (by omega)];exact hat.1
    have z0:w2.frozen? ⟨g,j*6,none⟩=false:=ho.frozenAt _
    have y1:w2.cell? ⟨g,j*6+1,none⟩=some (.int .i64 (Ak fs j).iss):=by rw [ho.cellAt (j*6+1) (by omega)];exact hat.2.1
    have z1:w2.frozen? ⟨g,j*6+1,none⟩=false:=ho.frozenAt _
    have y2:w2.cell? ⟨g,j*6+2,none⟩=some (.int .i64 (Ak fs j).cur):=by rw [ho.cellAt (j*6+2) (by omega)];exact hat.2.2.1
    have z2:w2.frozen? ⟨g,j*6+2,none⟩=false:=ho.frozenAt _
    have y3:w2.cell? ⟨g,j*6+3,none⟩=some (.int .i64 (Ak fs j).am):=by rw [ho.cellAt (j*6+3) (by omega)];exact hat.2.2.2.1
    have z3:w2.frozen? ⟨g,j*6+3,none⟩=false:=ho.frozenAt _
    have y4:w2.cell? ⟨g,j*6+4,none⟩=some (.int .i64 (Ak fs j).day):=by rw [ho.cellAt (j*6+4) (by omega)];exact hat.2.2.2.2.1
    have z4:w2.frozen? ⟨g,j*6+4,none⟩=false:=ho.frozenAt _
    have y5:w2.cell? ⟨g,j*6+5,none⟩=some (.bool (Ak fs j).used):=by rw [ho.cellAt (j*6+5) (by omega)];exact hat.2.2.2.2.2
    have z5:w2.frozen? ⟨g,j*6+5,none⟩=false:=ho.frozenAt _;have R0:=ho.stored (j*6) (.string ⟨(Tv m).toArray⟩);have R1:=R0.1.stored (j*6+1) (.int .i64 ((m+1:Nat):Int));have R2:=R1.1.stored (j*6+2) (.int .i64 ((m+2:Nat):Int));have R3:=R2.1.stored (j*6+3) (.int .i64 ((m+3:Nat):Int));have R4:=R3.1.stored (j*6+4) (.int .i64 ((m+4:Nat):Int));have R5:=R4.1.stored (j*6+5) (.bool (((m+5:Nat):Int) % 3 == 0));have R:=R5.1;rw [HS] at R;have G:=(((((((HG.o.trans (dO b2 (some g))).trans R0.2).trans R1.2).trans R2.2).trans R3.2).trans R4.2).trans R5.2)
    rw [show ((m+1:Nat):Int)=(m:Int)+1 by omega,show ((m+2:Nat):Int)=(m:Int)+1+1 by omega,show ((m+3:Nat):Int)=(m:Int)+1+1+1 by omega,show ((m+4:Nat):Int)=(m:Int)+1+1+1+1 by omega,show ((m+5:Nat):Int)=(m:Int)+1+1+1+1+1 by omega] at R G
    have HR:Hid _:=R;have HGG:Hid _:=G;obtain ⟨⟨r,i,c,q,d,u⟩,hold⟩:∃ x,Ak fs j=x:=⟨_,rfl⟩;rw [hold] at y0 y1 y2 y3 y4 y5
    simp only at y0 y1 y2 y3 y4 y5
    obtain ⟨tx,htx⟩:∃ x,Tv m=x:=⟨_,rfl⟩;rw [htx] at HR HGG ⊢;clear R0 R1 R2 R3 R4 R5 R G hat HS HSU ho hold htx HO HG b2 HFL;go_wp2
    go_roundw
    case rel=>exact ⟨j+1,by omega,by go_num,by rw [HM.o];go_num,by rw [HGS.o];exact HR.o,HGG.o⟩
    case measure=>simp [intOf];omega
   ·have hjn:j=az.length:=by omega
    subst hjn;rw [gB] at hor;have HO:Hid _:=hor;clear hor;go_wp2;go_ret;exact ⟨rfl,HO.o,hgr⟩
theorem T8 (n:Nat) (x:Int) (hx:x=(n:Int)) (w:World) (h0:0<n) (hn:n≤1099511627776) :
  Calls prog 56 #[.int .i64 x] w fun e w'=>e=.returned (.string ⟨(Tv n).toArray⟩)∧BW w w':=by
 rw [hx];exact Gv n w h0 hn
theorem Ru (ao:Option Addr) (cap n k:Nat) (w:World) (hz:Ar w ao (aR k n)) (hn:n≤1099511627) (k1:0<k) (k2:k≤1099511627) :
  Calls prog 61 #[.slice ao n cap,.int .i64 k] w fun e w'=>e=.returned (.int .i64 (k+6*n:Nat))∧BW w w':=by
 rcases hz with h0 | ⟨b,off,rfl,hb,hcell⟩
 ·have hn0:n=0:=by have:=Mh k n;rw [h0] at this;simpa using this.symm
  subst hn0;clear h0
  go_enter func61,ntmps61
  go_wp2;refine wp_loop_rounds 1 ?_;rw [rounds_succ];go_wp2;go_ret
  exact ⟨Af (by simp),bR⟩
 ·rw [Mh] at hcell
  have HC:Hid (∀ i,i<n→w.cell? ⟨b,off+i*6,none⟩=some (.string ⟨(Tv (k+6*i)).toArray⟩)∧w.cell? ⟨b,off+i*6+1,none⟩=some (.int .i64 ((k+6*i+1:Nat):Int))∧w.cell? ⟨b,off+i*6+2,none⟩=some (.int .i64 ((k+6*i+2:Nat):Int))∧w.cell? ⟨b,off+i*6+3,none⟩=some (.int .i64 ((k+6*i+3:Nat):Int))∧w.cell? ⟨b,off+i*6+4,none⟩=some (.int .i64 ((k+6*i+4:Nat):Int))∧w.cell? ⟨b,off+i*6+5,none⟩=some (.bool (((k+6*i+5:Nat):Int) % 3 == 0))):=by
   intro i hi
   have:=hcell i hi
   rw [rS k n i hi] at this;exact this
  clear hcell
  go_enter func61,ntmps61
  go_wp2
  go_loopw [1,5] (fun c i wr=>∃ j:Nat,j≤n∧i=.int .i64 j∧c=.int .i64 (k+6*j:Nat)∧BW w wr) (fun _ i _=>n - (intOf i).toNat)
  case atStart=>exact ⟨0,Nat.zero_le _,rfl,rfl,bR⟩
  case round =>
   obtain ⟨j,hj,rfl,rfl,hbr⟩:=hrel
   by_cases hlt:j<n
   ·have hji:(j:Int)<(n:Int):=by omega
    have HX:Hid (∀ v,BW w v→v.cell? ⟨b,off+j*6,none⟩=some (.string ⟨(Tv (k+6*j)).toArray⟩)∧v.cell? ⟨b,off+j*6+1,none⟩=some (.int .i64 ((k+6*j+1:Nat):Int))∧v.cell? ⟨b,off+j*6+2,none⟩=some (.int .i64 ((k+6*j+2:Nat):Int))∧v.cell? ⟨b,off+j*6+3,none⟩=some (.int .i64 ((k+6*j+3:Nat):Int))∧v.cell? ⟨b,off+j*6+4,none⟩=some (.int .i64 ((k+6*j+4:Nat):Int))∧v.cell? ⟨b,off+j*6+5,none⟩=some (.bool (((k+6*j+5:Nat):Int) % 3 == 0))):=fun v hv=>⟨(hv.cell (p:=⟨b,off+j*6,none⟩) hb).trans (HC.o j hlt).1,(hv.cell (p:=⟨b,off+j*6+1,none⟩) hb).trans (HC.o j hlt).2.1,(hv.cell (p:=⟨b,off+j*6+2,none⟩) hb).trans (HC.o j hlt).2.2.1,(hv.cell (p:=⟨b,off+j*6+3,none⟩) hb).trans (HC.o j hlt).2.2.2.1,(hv.cell (p:=⟨b,off+j*6+4,none⟩) hb).trans (HC.o j hlt).2.2.2.2.1,(hv.cell (p:=⟨b,off+j*6+5,none⟩) hb).trans (HC.o j hlt).2.2.2.2.2⟩
    obtain ⟨m,hm⟩:∃ m:Nat,k+6*j=m:=⟨_,rfl⟩;rw [hm] at HX ⊢
    simp only [show ((m+1:Nat):Int)=(m:Int)+1 by omega,show ((m+2:Nat):Int)=(m:Int)+1+1 by omega,show ((m+3:Nat):Int)=(m:Int)+1+1+1 by omega,show ((m+4:Nat):Int)=(m:Int)+1+1+1+1 by omega,show ((m+5:Nat):Int)=(m:Int)+1+1+1+1+1 by omega] at HX
    have hmb:m≤7696581390:=by omega
    have hm0:0<m:=by omega
    have HM:Hid (k+6 * (j+1)=m+1+1+1+1+1+1):=by rw [Hid];omega
    clear hm;obtain ⟨x0,-⟩:=HX.o wr hbr;have hne:=K0 wr;have g2:=As x0;go_wp2
    refine B6 (by kernel_rfl) (by kernel_rfl) ?_
    repeat (go_big_quiet_step (exact F8 (T8 m _ rfl _ hm0 (by omega))))
    refine wpQuiet_nil ?_;rintro w2 ⟨⟨wz,b2⟩,hw2⟩;subst hw2;have HB:Hid (BW w w2):=hbr.trans (b2.mono hbr.size);obtain ⟨-,x1,x2,x3,x4,x5⟩:=HX.o w2 HB.o;clear x0 hne g2 b2 hbr
    generalize Tv m=tx
    have n1:((m:Int)+1 != (m:Int)+1)=false:=by simp
    have n2:((m:Int)+1+1 != (m:Int)+1+1)=false:=by simp
    have n3:((m:Int)+1+1+1 != (m:Int)+1+1+1)=false:=by simp
    have n4:((m:Int)+1+1+1+1 != (m:Int)+1+1+1+1)=false:=by simp
    have n5:((((m:Int)+1+1+1+1+1) % 3 == 0) != (((m:Int)+1+1+1+1+1) % 3 == 0))=false:=by simp
    go_wp2
    go_roundw
    case rel=>exact ⟨j+1,by omega,by go_num,by rw [HM.o];go_num,HB.o⟩
    case measure=>simp [intOf];omega
   ·have hjn:j=n:=by omega
    subst hjn;go_wp2;go_ret;exact ⟨rfl,hbr⟩
def Bl (P:Cs→Bool) (cs:List Cs) (k:Nat):List Int:=((List.range k).filter fun i=>P (A8 cs i)).map fun i:Nat=>(i:Int)
theorem Ms {P:Cs→Bool} {cs:List Cs} {k:Nat} (h:P (A8 cs k)=true):Bl P cs (k+1)=Bl P cs k++[(k:Int)]:=by
 simp [Bl,List.range_succ,List.filter_append,h]
theorem Ko {P:Cs→Bool} {cs:List Cs} {k:Nat} (h:P (A8 cs k)=false):Bl P cs (k+1)=Bl P cs k:=by
 simp [Bl,List.range_succ,List.filter_append,h]
theorem Iz (P:Cs→Bool) (cs:List Cs) (k:Nat):(Bl P cs k).length≤k:=by
 refine Nat.le_trans (by rw [Bl,List.length_map];exact List.length_filter_le _ _) ?_
 simp
def Jp (c:Cs):Bool:=!(c.st == 7)
def Ds (t:Int) (c:Cs):Bool:=Jp c && Bv t c.due
theorem aW {c:Cs} (h:(c.st == 7)=true):Jp c=false:=by simp [Jp,h]
theorem Pm {c:Cs} (h:(c.st == 7)=false):Jp c=true:=by simp [Jp,h]
theorem dG {t:Int} {c:Cs} (h:(c.st == 7)=true):Ds t c=false:=by simp [Ds,aW h]
theorem S7 {t:Int} {c:Cs} (h:(c.st == 7)=false):Ds t c=Bv t c.due:=by simp [Ds,Pm h]
theorem Tw (x:Int):∀ u ∈ [Value.int .i64 x],u.oneCell'=true:=by
 intro u hu
 rw [List.mem_singleton.1 hu];rfl
theorem dE:(prog.info? 3).map (fun i=>(i.zero,i.size,i.bytes))=some (some (.int .i64 0),1,8):=by kernel_rfl
def qN (w:World) (zs:List Int) (e:Ending) (w':World):Prop :=
 ∃ a k,e=.returned (.slice a zs.length k)∧w'.ownsRow w.heap.size 3 1 (.slice a zs.length k) zs.length (zs.map (Value.int .i64))∧BW w w'
theorem mV (b:Bk) (p:Bp) (w:World) (hx:Aq w b p) (hn:D0 b) :
  Calls prog 35 #[C5 b p] w (qN w (Bl Jp b.cs b.cs.length)):=by
 obtain ⟨i0,hi,hz0,hz1,hz2⟩:=info_parts dE;obtain ⟨W,hW⟩:∃ W,W=(w.alloc (.cells #[.int .i64 b.today,.slice p.o b.off.length p.oc,.slice p.a b.az.length p.ac,.slice p.c b.cs.length p.cc,.slice p.l b.ls.length p.lc,.slice p.g b.log.length p.gc] 31)).alloc (.cells #[] 3):=⟨_,rfl⟩
 have bW:BW w W:=by rw [hW];go_grown
 have HS:Hid (S6 w.heap.size b p W):=by rw [Hid,hW];exact (S6.new w b p _).below (bR.alloc nL _)
 have HO0:Hid (W.ownsRow (w.heap.size+1) 3 1 (.slice (some ⟨w.heap.size+1,0,none⟩) 0 0) 0 (([]:List Int).map (Value.int .i64))):=by
  have h:=World.ownsRow_lit (base:=w.heap.size+1) (e:=3) (size:=1) (w.alloc (.cells #[.int .i64 b.today,.slice p.o b.off.length p.oc,.slice p.a b.az.length p.ac,.slice p.c b.cs.length p.cc,.slice p.l b.ls.length p.lc,.slice p.g b.log.length p.gc] 31)) #[] 0 (by simp) (by unfold maxLen;omega) rfl
  rw [Hid,hW];simpa using h
 have HX:Hid (A0 w p.c b.cs):=hx.cs;have HBW:Hid (BW w W):=bW
 have HWS:Hid (W.heap.size=w.heap.size+2):=by rw [Hid,hW];simp
 have HQ:Hid (∀ u,Below (w.heap.size+1) W u→BW w u):=fun u h=>bW.trans (h.mono (by omega))
 have HK:Hid (∀ u,Below (w.heap.size+1) W u→S6 w.heap.size b p u):=fun u h=>HS.o.under h (by omega)
 have hcn:=hn.2.2.1;clear hx hn bW HS;have HW:Hid _:=hW;clear hW;obtain ⟨td,fo,az,cs,ls,lg⟩:=b;obtain ⟨o,oc,a,ac,c,cc,l,lc,g,gc⟩:=p;unfold C5
 simp only at HW HX hcn ⊢
 go_enter func35,ntmps35
 go_upto_region 2 with fail
 rw [← HW.o];clear HW;go_wp2_with fail
 go_loopw [3,4] (fun s i wr=>∃ (v:Value) (k:Nat),v=s∧k≤cs.length∧i=.int .i64 (k:Int)∧wr.ownsRow (w.heap.size+1) 3 1 v (Bl Jp cs k).length ((Bl Jp cs k).map (Value.int .i64))∧Below (w.heap.size+1) W wr) (fun _ i _=>cs.length - (intOf i).toNat)
 case atStart=>exact ⟨_,0,rfl,Nat.zero_le _,rfl,HO0.o,bR⟩
 case round =>
  obtain ⟨v,k,hvs,hk,rfl,hown,hbr⟩:=hrel;subst hvs;have HBR:Hid (Below (w.heap.size+1) W wr):=hbr;have HO:Hid (wr.ownsRow (w.heap.size+1) 3 1 v (Bl Jp cs k).length ((Bl Jp cs k).map (Value.int .i64))):=hown;obtain ⟨x0,x1,x2,x3,x4,x5⟩:=HK.o _ hbr
  simp only at x0 x1 x2 x3 x4 x5
  by_cases hlt:k<cs.length
  ·have hki:(k:Int)<(cs.length:Int):=by omega
   obtain ⟨cb,off,rfl,hb2,hcb⟩:=(HX.o.below (HQ.o _ hbr)).at hlt;have hle:=Iz Jp cs k;have HIN:Hid _:=@Ms (Jp) cs k;have HOUT:Hid _:=@Ko (Jp) cs k;obtain ⟨⟨iss,acq,cur,am,st,rsn,cl,bk,fee,cop,sta,due⟩,hc⟩:∃ f,A8 cs k=f:=⟨_,rfl⟩;rw [hc] at hcb HIN HOUT;obtain ⟨y0,y1,y2,y3,y4,y5,y6,y7,y8,y9,y10,y11⟩:=hcb
   simp only at y0 y1 y2 y3 y4 y5 y6 y7 y8 y9 y10 y11
   clear hc hown hbr hb2
   by_cases h7:st=7
   ·subst h7
    have HP:Hid _:=@aW ⟨iss,acq,cur,am,7,rsn,cl,bk,fee,cop,sta,due⟩ rfl
    have HR5:Hid (wr.ownsRow (w.heap.size+1) 3 1 v (Bl (Jp) cs (k+1)).length ((Bl (Jp) cs (k+1)).map (Value.int .i64))):=by
     rw [Hid,HOUT.o HP.o];exact HO.o
    go_wp2
    go_roundw
    case rel=>exact ⟨_,k+1,rfl,by omega,by go_num,HR5.o,HBR.o⟩
    case measure=>simp [intOf];omega
   ·have h7b:(st != 7)=true:=by simpa using h7
    have HP:Hid _:=@Pm ⟨iss,acq,cur,am,st,rsn,cl,bk,fee,cop,sta,due⟩ (by simpa using h7)
    have HLT:Hid (∀ j,v.ownBlock=some j→w.heap.size+1≤j):=fun j hj=>(HO.o.lt j hj).1
    have HSZ:Hid (W.heap.size≤wr.heap.size):=HBR.o.size
    go_wp2_with (at_builtin;refine wpList_append_own _ rfl (.tmp 20) (.tmp 22) 22 rfl (w.heap.size+1) 3 i0 (.int .i64 0) 1 8 underlying22 hi hz0 hz1 hz2 rfl (by decide) _ _ _ rfl (HO.o.alloc _) ⟨wr.heap.size,0,none⟩ 1 1 [.int .i64 (k:Int)] rfl rfl (World.news_of_block (heap_alloc_new wr _)) (Tw _) (by unfold maxLen;omega) (by omega) (by simp;have:=HSZ.o;have:=HWS.o;omega) ?_;intro v5 w5 o5 g5 _)
    have hws:=HWS.o;have hsz:=HSZ.o
    have q5:Below (w.heap.size+1) W w5:=(HBR.o.alloc (by omega) _).grown g5 (by simp;omega) HLT.o
    have HR5:Hid (w5.ownsRow (w.heap.size+1) 3 1 v5 (Bl (Jp) cs (k+1)).length ((Bl (Jp) cs (k+1)).map (Value.int .i64))):=by
     rw [Hid,HIN.o HP.o,List.length_append,List.map_append];exact o5
    clear o5 g5 HO x0 x1 x2 x3 x4 x5 y0 y1 y2 y3 y4 y5 y6 y7 y8 y9 y10 y11 hws hsz;go_wp2
    go_roundw
    case rel=>exact ⟨_,k+1,rfl,by omega,by go_num,HR5.o,q5⟩
    case measure=>simp [intOf];omega
  ·have hke:k=cs.length:=by omega
   subst hke
   have hki:¬ (cs.length:Int)<(cs.length:Int):=by omega
   obtain ⟨va,vk,hva⟩:=Fz hown;subst hva;clear hbr hown;go_wp2;go_ret
   exact ⟨va,vk,rfl,Bi HO.o (by omega),HQ.o _ HBR.o⟩
theorem T2 (b:Bk) (p:Bp) (w:World) (hx:Aq w b p) (hn:D0 b) :
  Calls prog 38 #[C5 b p] w (qN w (Bl (Ds b.today) b.cs b.cs.length)):=by
 obtain ⟨i0,hi,hz0,hz1,hz2⟩:=info_parts dE;obtain ⟨W,hW⟩:∃ W,W=(w.alloc (.cells #[.int .i64 b.today,.slice p.o b.off.length p.oc,.slice p.a b.az.length p.ac,.slice p.c b.cs.length p.cc,.slice p.l b.ls.length p.lc,.slice p.g b.log.length p.gc] 31)).alloc (.cells #[] 3):=⟨_,rfl⟩
 have bW:BW w W:=by rw [hW];go_grown
 have HS:Hid (S6 w.heap.size b p W):=by rw [Hid,hW];exact (S6.new w b p _).below (bR.alloc nL _)
 have HO0:Hid (W.ownsRow (w.heap.size+1) 3 1 (.slice (some ⟨w.heap.size+1,0,none⟩) 0 0) 0 (([]:List Int).map (Value.int .i64))):=by
  have h:=World.ownsRow_lit (base:=w.heap.size+1) (e:=3) (size:=1) (w.alloc (.cells #[.int .i64 b.today,.slice p.o b.off.length p.oc,.slice p.a b.az.length p.ac,.slice p.c b.cs.length p.cc,.slice p.l b.ls.length p.lc,.slice p.g b.log.length p.gc] 31)) #[] 0 (by simp) (by unfold maxLen;omega) rfl
  rw [Hid,hW];simpa using h
 have HX:Hid (A0 w p.c b.cs):=hx.cs;have HBW:Hid (BW w W):=bW
 have HWS:Hid (W.heap.size=w.heap.size+2):=by rw [Hid,hW];simp
 have HQ:Hid (∀ u,Below (w.heap.size+1) W u→BW w u):=fun u h=>bW.trans (h.mono (by omega))
 have HK:Hid (∀ u,Below (w.heap.size+1) W u→S6 w.heap.size b p u):=fun u h=>HS.o.under h (by omega)
 have hcn:=hn.2.2.1;clear hx hn bW HS;have HW:Hid _:=hW;clear hW;obtain ⟨td,fo,az,cs,ls,lg⟩:=b;obtain ⟨o,oc,a,ac,c,cc,l,lc,g,gc⟩:=p;unfold C5
 simp only at HW HX hcn ⊢
 go_enter func38,ntmps38
 go_upto_region 2 with fail
 rw [← HW.o];clear HW;go_wp2_with fail
 go_loopw [3,4] (fun s i wr=>∃ (v:Value) (k:Nat),v=s∧k≤cs.length∧i=.int .i64 (k:Int)∧wr.ownsRow (w.heap.size+1) 3 1 v (Bl (Ds td) cs k).length ((Bl (Ds td) cs k).map (Value.int .i64))∧Below (w.heap.size+1) W wr) (fun _ i _=>cs.length - (intOf i).toNat)
 case atStart=>exact ⟨_,0,rfl,Nat.zero_le _,rfl,HO0.o,bR⟩
 case round =>
  obtain ⟨v,k,hvs,hk,rfl,hown,hbr⟩:=hrel;subst hvs;have HBR:Hid (Below (w.heap.size+1) W wr):=hbr;have HO:Hid (wr.ownsRow (w.heap.size+1) 3 1 v (Bl (Ds td) cs k).length ((Bl (Ds td) cs k).map (Value.int .i64))):=hown;have HBR0:=HBR;obtain ⟨x0,x1,x2,x3,x4,x5⟩:=HK.o _ hbr
  simp only at x0 x1 x2 x3 x4 x5
  by_cases hlt:k<cs.length
  ·have hki:(k:Int)<(cs.length:Int):=by omega
   obtain ⟨cb,off,rfl,hb2,hcb⟩:=(HX.o.below (HQ.o _ hbr)).at hlt;have hle:=Iz (Ds td) cs k;have HIN:Hid _:=@Ms ((Ds td)) cs k;have HOUT:Hid _:=@Ko ((Ds td)) cs k;obtain ⟨⟨iss,acq,cur,am,st,rsn,cl,bk,fee,cop,sta,due⟩,hc⟩:∃ f,A8 cs k=f:=⟨_,rfl⟩;rw [hc] at hcb HIN HOUT;obtain ⟨y0,y1,y2,y3,y4,y5,y6,y7,y8,y9,y10,y11⟩:=hcb
   simp only at y0 y1 y2 y3 y4 y5 y6 y7 y8 y9 y10 y11
   clear hc hown hbr hb2;obtain ⟨B,hB⟩:∃ B,Ds td ⟨iss,acq,cur,am,st,rsn,cl,bk,fee,cop,sta,due⟩=B:=⟨_,rfl⟩;have HDB:Hid _:=hB;rw [hB] at HIN HOUT;clear hB;go_upto_region 5 with fail
   go_cut [30] (fun v wc=>v=.bool B∧BW wr wc)
   case first =>
    have hne:=K0 wr;have ox0:=As x0;have ox3:=As x3;have oy4:=As y4;have oy11:=As y11
    by_cases h7:st=7
    ·subst h7
     have HB:Hid (B=false):=by rw [Hid,← HDB.o];exact dG rfl
     refine B6 (by kernel_rfl) (by kernel_rfl) ?_
     repeat (go_big_quiet_step (fail))
     refine wpQuiet_nil ?_;rintro _ ⟨⟨w2,b2⟩,hw2⟩;subst hw2;go_wp2_with fail
     go_meet
     exact ⟨by rw [HB.o],b2⟩
    ·have h7b:(st != 7)=true:=by simpa using h7
     have HB:Hid (B=Bv td due):=by rw [Hid,← HDB.o];exact S7 (by simpa using h7)
     have HLT:Hid (∀ u,Calls prog 92 #[.int .i64 td,.int .i64 due] u fun e w'=>e=.returned (.bool B)∧BW u w'):=fun u=>by rw [HB.o];exact (Kp td due u).mono fun e w' h=>⟨h.1,by rw [h.2];exact bR⟩
     refine B6 (by kernel_rfl) (by kernel_rfl) ?_
     repeat (go_big_quiet_step (exact F8 (HLT.o _)))
     refine wpQuiet_nil ?_;rintro _ ⟨⟨w2,b2⟩,hw2⟩;subst hw2;go_wp2_with fail
     go_meet;exact ⟨rfl,b2⟩
   case rest =>
    obtain ⟨rfl,b8⟩:=hcut;have HO1:Hid (wc.ownsRow (w.heap.size+1) 3 1 v (Bl (Ds td) cs k).length ((Bl (Ds td) cs k).map (Value.int .i64))):=Av HO.o b8
    have HBR1:Hid (Below (w.heap.size+1) W wc):=HBR.o.trans (b8.mono (by have:=HWS.o;have:=HBR.o.size;omega))
    clear b8 HO HBR HBR0 x0 x1 x2 x3 x4 x5 y0 y1 y2 y3 y4 y5 y6 y7 y8 y9 y10 y11 HDB
    cases B
    ·have HR5:Hid (wc.ownsRow (w.heap.size+1) 3 1 v (Bl ((Ds td)) cs (k+1)).length ((Bl ((Ds td)) cs (k+1)).map (Value.int .i64))):=by
       rw [Hid,HOUT.o rfl];exact HO1.o
     go_wp2
     go_roundw
     case rel=>exact ⟨_,k+1,rfl,by omega,by go_num,HR5.o,HBR1.o⟩
     case measure=>simp [intOf];omega
    ·have HLT:Hid (∀ j,v.ownBlock=some j→w.heap.size+1≤j):=fun j hj=>(HO1.o.lt j hj).1
     have HSZ:Hid (W.heap.size≤wc.heap.size):=HBR1.o.size
     go_wp2_with (at_builtin;refine wpList_append_own _ rfl (.tmp 31) (.tmp 33) 22 rfl (w.heap.size+1) 3 i0 (.int .i64 0) 1 8 underlying22 hi hz0 hz1 hz2 rfl (by decide) _ _ _ rfl (HO1.o.alloc _) ⟨wc.heap.size,0,none⟩ 1 1 [.int .i64 (k:Int)] rfl rfl (World.news_of_block (heap_alloc_new wc _)) (Tw _) (by unfold maxLen;omega) (by omega) (by simp;have:=HSZ.o;have:=HWS.o;omega) ?_;intro v5 w5 o5 g5 _)
     have hws:=HWS.o;have hsz:=HSZ.o
     have q5:Below (w.heap.size+1) W w5:=(HBR1.o.alloc (by omega) _).grown g5 (by simp;omega) HLT.o
     have HR5:Hid (w5.ownsRow (w.heap.size+1) 3 1 v5 (Bl ((Ds td)) cs (k+1)).length ((Bl ((Ds td)) cs (k+1)).map (Value.int .i64))):=by
      rw [Hid,HIN.o rfl,List.length_append,List.map_append];exact o5
     clear o5 g5 hws hsz;go_wp2
     go_roundw
     case rel=>exact ⟨_,k+1,rfl,by omega,by go_num,HR5.o,q5⟩
     case measure=>simp [intOf];omega
  ·have hke:k=cs.length:=by omega
   subst hke
   have hki:¬ (cs.length:Int)<(cs.length:Int):=by omega
   obtain ⟨va,vk,hva⟩:=Fz hown;subst hva;clear hbr hown;go_wp2;go_ret
   exact ⟨va,vk,rfl,Bi HO.o (by omega),HQ.o _ HBR.o⟩
theorem Qq (c:Cs) (w:World):Calls prog 88 #[cv c] w fun e w'=>e=.returned (.bool (Jp c))∧BW w w':=by
 obtain ⟨iss,acq,cur,am,st,rsn,cl,bk,fee,cop,sta,due⟩:=c;unfold cv
 simp only
 by_cases h:st=7
 ·subst h
  go_enter func88,ntmps88
  go_wp2;go_ret;refine ⟨rfl,?_⟩
  go_grown
 ·have h7:(st != 7)=true:=by simpa using h
  have HP:Hid _:=@Pm ⟨iss,acq,cur,am,st,rsn,cl,bk,fee,cop,sta,due⟩ (by simpa using h)
  go_enter func88,ntmps88
  go_wp2;go_ret;refine ⟨Aa HP.o.symm,?_⟩
  go_grown
theorem kI (c:Cs) (g:Nat) (td:Int) (w:World) (hc:w.cell? ⟨g,0,none⟩=some (.int .i64 td)) :
  Calls prog 90 #[cv c,.pointer (some ⟨g,0,none⟩)] w fun e w'=>e=.returned (.bool (Ds td c))∧BW w w':=by
 have hg:g<w.heap.size:=World.block_lt_of_cell? w _ hc;obtain ⟨iss,acq,cur,am,st,rsn,cl,bk,fee,cop,sta,due⟩:=c;obtain ⟨U,hU⟩:∃ U,U=w.alloc (.cells #[.int .i64 iss,.int .i64 acq,.int .i64 cur,.int .i64 am,.int .i64 st,.int .i64 rsn,.int .i64 cl,.int .i64 bk,.int .i64 fee,.bool cop,.int .i64 sta,.int .i64 due] 61):=⟨_,rfl⟩
 have bU:BW w U:=by rw [hU];exact bR.alloc nL _
 have hcU:CB w.heap.size 0 ⟨iss,acq,cur,am,st,rsn,cl,bk,fee,cop,sta,due⟩ U:=by rw [hU];exact ⟨by simp,by simp,by simp,by simp,by simp,by simp,by simp,by simp,by simp,by simp,by simp,by simp⟩
 have HFN:Hid (Calls prog 88 #[.agg #[.int .i64 iss,.int .i64 acq,.int .i64 cur,.int .i64 am,.int .i64 st,.int .i64 rsn,.int .i64 cl,.int .i64 bk,.int .i64 fee,.bool cop,.int .i64 sta,.int .i64 due]] U fun e w'=>e=.returned (.bool (Jp ⟨iss,acq,cur,am,st,rsn,cl,bk,fee,cop,sta,due⟩))∧BW U w'):=Qq ⟨iss,acq,cur,am,st,rsn,cl,bk,fee,cop,sta,due⟩ U
 unfold cv
 simp only
 have HU:Hid _:=hU;have HG:Hid (U.cell? ⟨g,0,none⟩=some (.int .i64 td)):=(bU.cell (p:=⟨g,0,none⟩) hg).trans hc;have HBU:Hid (BW w U):=bU;have HCU:Hid _:=hcU;obtain ⟨z0,z1,z2,z3,z4,z5,z6,z7,z8,z9,z10,z11⟩:=hcU
 simp only [Nat.zero_add] at z0 z1 z2 z3 z4 z5 z6 z7 z8 z9 z10 z11
 clear hU hc bU
 go_enter func90,ntmps90
 go_upto_region 1 with fail
 rw [← HU.o];clear HU;go_wp2_with fail
 refine HFN.o.mono ?_;rintro e w2 ⟨rfl,b2⟩;have HB2:Hid (BW w w2):=next HBU.o b2;have q0:w2.cell? ⟨g,0,none⟩=some (.int .i64 td):=(b2.cell (p:=⟨g,0,none⟩) (World.block_lt_of_cell? U _ HG.o)).trans HG.o;have q1:w2.cell? ⟨w.heap.size,11,none⟩=some (.int .i64 due):=(b2.cell (p:=⟨w.heap.size,11,none⟩) (World.block_lt_of_cell? U _ z11)).trans z11;clear z0 z1 z2 z3 z4 z5 z6 z7 z8 z9 z10 z11 b2 HFN
 by_cases h:st=7
 ·subst h
  have HP:Hid _:=@dG td ⟨iss,acq,cur,am,7,rsn,cl,bk,fee,cop,sta,due⟩ rfl;have HQ:Hid _:=@aW ⟨iss,acq,cur,am,7,rsn,cl,bk,fee,cop,sta,due⟩ rfl;rw [HQ.o];go_wp2;go_ret;exact ⟨Aa HP.o.symm,HB2.o⟩
 ·have HP:Hid _:=@S7 td ⟨iss,acq,cur,am,st,rsn,cl,bk,fee,cop,sta,due⟩ (by simpa using h)
  have HQ:Hid _:=@Pm ⟨iss,acq,cur,am,st,rsn,cl,bk,fee,cop,sta,due⟩ (by simpa using h)
  rw [HQ.o]
  go_wp2_with (go_at_call 91;refine (N2 _ _ _).mono ?_;rintro e w' ⟨rfl,rfl⟩)
  go_ret;exact ⟨Aa HP.o.symm,HB2.o⟩
theorem rV (ao:Option Addr) (cap:Nat) (cs:List Cs) (w:World) (hz:A0 w ao cs) (hn:cs.length≤1048576) :
  Calls prog 87 #[.slice ao cs.length cap,.func (.func 88) #[] #[]] w (qN w (Bl Jp cs cs.length)):=by
 obtain ⟨i0,hi,hz0,hz1,hz2⟩:=info_parts dE;have HX:Hid (A0 w ao cs):=hz;clear hz
 go_enter func87,ntmps87
 go_wp2
 go_loopw [5,10] (fun s i wr=>∃ (v:Value) (k:Nat),v=s∧k≤cs.length∧i=.int .i64 (k:Int)∧wr.ownsRow w.heap.size 3 1 v (Bl Jp cs k).length ((Bl Jp cs k).map (Value.int .i64))∧BW w wr) (fun _ i _=>cs.length - (intOf i).toNat)
 case atStart=>exact ⟨_,0,rfl,Nat.zero_le _,rfl,World.ownsRow_nil _ _ _ _,bR⟩
 case round =>
  obtain ⟨v,k,hvs,hk,rfl,hown,hbr⟩:=hrel;subst hvs;have HBR:Hid (BW w wr):=hbr;have HO:Hid (wr.ownsRow w.heap.size 3 1 v (Bl Jp cs k).length ((Bl Jp cs k).map (Value.int .i64))):=hown
  by_cases hlt:k<cs.length
  ·have hki:(k:Int)<(cs.length:Int):=by omega
   obtain ⟨cb,off,rfl,hb2,hcb⟩:=(HX.o.below hbr).at hlt;have hle:=Iz Jp cs k;have HIN:Hid _:=@Ms (Jp) cs k;have HOUT:Hid _:=@Ko (Jp) cs k;obtain ⟨⟨iss,acq,cur,am,st,rsn,cl,bk,fee,cop,sta,due⟩,hc⟩:∃ f,A8 cs k=f:=⟨_,rfl⟩;rw [hc] at hcb HIN HOUT;obtain ⟨y0,y1,y2,y3,y4,y5,y6,y7,y8,y9,y10,y11⟩:=hcb
   simp only at y0 y1 y2 y3 y4 y5 y6 y7 y8 y9 y10 y11
   clear hc hown hbr hb2;go_upto_region 5 with fail
   obtain ⟨B,hB⟩:∃ B,Jp ⟨iss,acq,cur,am,st,rsn,cl,bk,fee,cop,sta,due⟩=B:=⟨_,rfl⟩;obtain ⟨U,hU⟩:∃ U,U=wr.alloc (.cells #[.int .i64 iss,.int .i64 acq,.int .i64 cur,.int .i64 am,.int .i64 st,.int .i64 rsn,.int .i64 cl,.int .i64 bk,.int .i64 fee,.bool cop,.int .i64 sta,.int .i64 due] 61):=⟨_,rfl⟩
   have bU:BW wr U:=by rw [hU];exact bR.alloc nL _
   have hcU:CB wr.heap.size 0 ⟨iss,acq,cur,am,st,rsn,cl,bk,fee,cop,sta,due⟩ U:=by rw [hU];exact ⟨by simp,by simp,by simp,by simp,by simp,by simp,by simp,by simp,by simp,by simp,by simp,by simp⟩
   rw [← hU]
   have HFN:Hid (Calls prog 88 #[.agg #[.int .i64 iss,.int .i64 acq,.int .i64 cur,.int .i64 am,.int .i64 st,.int .i64 rsn,.int .i64 cl,.int .i64 bk,.int .i64 fee,.bool cop,.int .i64 sta,.int .i64 due]] U fun e w'=>e=.returned (.bool B)∧BW U w'):=by rw [Hid,← hB];exact Qq ⟨iss,acq,cur,am,st,rsn,cl,bk,fee,cop,sta,due⟩ U
   have HO1:Hid (U.ownsRow w.heap.size 3 1 v (Bl Jp cs k).length ((Bl Jp cs k).map (Value.int .i64))):=Av HO.o bU;have HB1:Hid (BW w U):=next HBR.o bU;rw [hB] at HIN HOUT;clear hU bU HO HBR y0 y1 y2 y3 y4 y5 y6 y7 y8 y9 y10 y11 hB;obtain ⟨z0,z1,z2,z3,z4,z5,z6,z7,z8,z9,z10,z11⟩:=hcU
   simp only [Nat.zero_add] at z0 z1 z2 z3 z4 z5 z6 z7 z8 z9 z10 z11
   go_wp2_with fail
   refine HFN.o.mono ?_;rintro e w2 ⟨rfl,b2⟩;have HO2:Hid (w2.ownsRow w.heap.size 3 1 v (Bl Jp cs k).length ((Bl Jp cs k).map (Value.int .i64))):=Av HO1.o b2;have HB2:Hid (BW w w2):=next HB1.o b2;have HSZ:Hid (w.heap.size≤w2.heap.size):=HB2.o.size;clear b2 HFN HO1 HB1 z0 z1 z2 z3 z4 z5 z6 z7 z8 z9 z10 z11
   cases B
   ·have HR5:Hid (w2.ownsRow w.heap.size 3 1 v (Bl Jp cs (k+1)).length ((Bl Jp cs (k+1)).map (Value.int .i64))):=by
      rw [Hid,HOUT.o (by first | rfl | trivial)];exact HO2.o
    go_wp2
    go_roundw
    case rel=>exact ⟨_,k+1,rfl,by omega,by go_num,HR5.o,HB2.o⟩
    case measure=>simp [intOf];omega
   ·have HLT:Hid (∀ j,v.ownBlock=some j→w.heap.size≤j):=fun j hj=>(HO2.o.lt j hj).1
    go_wp2_with (at_builtin;refine wpList_append_own _ rfl (.tmp 18) (.tmp 20) 22 rfl w.heap.size 3 i0 (.int .i64 0) 1 8 underlying22 hi hz0 hz1 hz2 rfl (by decide) _ _ _ rfl (HO2.o.alloc _) ⟨w2.heap.size,0,none⟩ 1 1 [.int .i64 (k:Int)] rfl rfl (World.news_of_block (heap_alloc_new w2 _)) (Tw _) (by unfold maxLen;omega) (by omega) (by simp;have:=HSZ.o;omega) ?_;intro v5 w5 o5 g5 _)
    have q5:BW w w5:=(HB2.o.alloc (by have:=HSZ.o;omega) _).grown g5 (by have:=HSZ.o;simp;omega) HLT.o
    have HR5:Hid (w5.ownsRow w.heap.size 3 1 v5 (Bl Jp cs (k+1)).length ((Bl Jp cs (k+1)).map (Value.int .i64))):=by
     rw [Hid,HIN.o (by first | rfl | trivial),List.length_append,List.map_append];exact o5
    clear o5 g5;go_wp2
    go_roundw
    case rel=>exact ⟨_,k+1,rfl,by omega,by go_num,HR5.o,q5⟩
    case measure=>simp [intOf];omega
  ·have hke:k=cs.length:=by omega
   subst hke
   have hki:¬ (cs.length:Int)<(cs.length:Int):=by omega
   obtain ⟨va,vk,hva⟩:=Fz hown;subst hva;clear hbr hown;go_wp2;go_ret;exact ⟨va,vk,rfl,HO.o,HBR.o⟩
theorem mP (ao:Option Addr) (cap:Nat) (cs:List Cs) (g:Nat) (td:Int) (w:World) (hz:A0 w ao cs) (hn:cs.length≤1048576) (hc:w.cell? ⟨g,0,none⟩=some (.int .i64 td)) :
  Calls prog 87 #[.slice ao cs.length cap,.func (.func 90) #[] #[.pointer (some ⟨g,0,none⟩)]] w (qN w (Bl (Ds td) cs cs.length)):=by
 obtain ⟨i0,hi,hz0,hz1,hz2⟩:=info_parts dE;have HX:Hid (A0 w ao cs):=hz
 have HG:Hid (∀ u,BW w u→u.cell? ⟨g,0,none⟩=some (.int .i64 td)):=fun u h=>(h.cell (p:=⟨g,0,none⟩) (World.block_lt_of_cell? w _ hc)).trans hc
 clear hz hc
 go_enter func87,ntmps87
 go_wp2
 go_loopw [5,10] (fun s i wr=>∃ (v:Value) (k:Nat),v=s∧k≤cs.length∧i=.int .i64 (k:Int)∧wr.ownsRow w.heap.size 3 1 v (Bl (Ds td) cs k).length ((Bl (Ds td) cs k).map (Value.int .i64))∧BW w wr) (fun _ i _=>cs.length - (intOf i).toNat)
 case atStart=>exact ⟨_,0,rfl,Nat.zero_le _,rfl,World.ownsRow_nil _ _ _ _,bR⟩
 case round =>
  obtain ⟨v,k,hvs,hk,rfl,hown,hbr⟩:=hrel;subst hvs;have HBR:Hid (BW w wr):=hbr;have HO:Hid (wr.ownsRow w.heap.size 3 1 v (Bl (Ds td) cs k).length ((Bl (Ds td) cs k).map (Value.int .i64))):=hown
  by_cases hlt:k<cs.length
  ·have hki:(k:Int)<(cs.length:Int):=by omega
   obtain ⟨cb,off,rfl,hb2,hcb⟩:=(HX.o.below hbr).at hlt;have hle:=Iz (Ds td) cs k;have HIN:Hid _:=@Ms ((Ds td)) cs k;have HOUT:Hid _:=@Ko ((Ds td)) cs k;obtain ⟨⟨iss,acq,cur,am,st,rsn,cl,bk,fee,cop,sta,due⟩,hc⟩:∃ f,A8 cs k=f:=⟨_,rfl⟩;rw [hc] at hcb HIN HOUT;obtain ⟨y0,y1,y2,y3,y4,y5,y6,y7,y8,y9,y10,y11⟩:=hcb
   simp only at y0 y1 y2 y3 y4 y5 y6 y7 y8 y9 y10 y11
   clear hc hown hbr hb2;go_upto_region 5 with fail
   obtain ⟨B,hB⟩:∃ B,(Ds td) ⟨iss,acq,cur,am,st,rsn,cl,bk,fee,cop,sta,due⟩=B:=⟨_,rfl⟩;obtain ⟨U,hU⟩:∃ U,U=wr.alloc (.cells #[.int .i64 iss,.int .i64 acq,.int .i64 cur,.int .i64 am,.int .i64 st,.int .i64 rsn,.int .i64 cl,.int .i64 bk,.int .i64 fee,.bool cop,.int .i64 sta,.int .i64 due] 61):=⟨_,rfl⟩
   have bU:BW wr U:=by rw [hU];exact bR.alloc nL _
   have hcU:CB wr.heap.size 0 ⟨iss,acq,cur,am,st,rsn,cl,bk,fee,cop,sta,due⟩ U:=by rw [hU];exact ⟨by simp,by simp,by simp,by simp,by simp,by simp,by simp,by simp,by simp,by simp,by simp,by simp⟩
   rw [← hU]
   have HFN:Hid (Calls prog 90 #[.agg #[.int .i64 iss,.int .i64 acq,.int .i64 cur,.int .i64 am,.int .i64 st,.int .i64 rsn,.int .i64 cl,.int .i64 bk,.int .i64 fee,.bool cop,.int .i64 sta,.int .i64 due],.pointer (some ⟨g,0,none⟩)] U fun e w'=>e=.returned (.bool B)∧BW U w'):=by rw [Hid,← hB];exact kI ⟨iss,acq,cur,am,st,rsn,cl,bk,fee,cop,sta,due⟩ g td U (HG.o _ (next HBR.o bU))
   have HO1:Hid (U.ownsRow w.heap.size 3 1 v (Bl (Ds td) cs k).length ((Bl (Ds td) cs k).map (Value.int .i64))):=Av HO.o bU;have HB1:Hid (BW w U):=next HBR.o bU;rw [hB] at HIN HOUT;clear hU bU HO HBR y0 y1 y2 y3 y4 y5 y6 y7 y8 y9 y10 y11 hB;obtain ⟨z0,z1,z2,z3,z4,z5,z6,z7,z8,z9,z10,z11⟩:=hcU
   simp only [Nat.zero_add] at z0 z1 z2 z3 z4 z5 z6 z7 z8 z9 z10 z11
   go_wp2_with fail
   refine HFN.o.mono ?_;rintro e w2 ⟨rfl,b2⟩;have HO2:Hid (w2.ownsRow w.heap.size 3 1 v (Bl (Ds td) cs k).length ((Bl (Ds td) cs k).map (Value.int .i64))):=Av HO1.o b2;have HB2:Hid (BW w w2):=next HB1.o b2;have HSZ:Hid (w.heap.size≤w2.heap.size):=HB2.o.size;clear b2 HFN HO1 HB1 z0 z1 z2 z3 z4 z5 z6 z7 z8 z9 z10 z11
   cases B
   ·have HR5:Hid (w2.ownsRow w.heap.size 3 1 v (Bl (Ds td) cs (k+1)).length ((Bl (Ds td) cs (k+1)).map (Value.int .i64))):=by
      rw [Hid,HOUT.o (by first | rfl | trivial)];exact HO2.o
    go_wp2
    go_roundw
    case rel=>exact ⟨_,k+1,rfl,by omega,by go_num,HR5.o,HB2.o⟩
    case measure=>simp [intOf];omega
   ·have HLT:Hid (∀ j,v.ownBlock=some j→w.heap.size≤j):=fun j hj=>(HO2.o.lt j hj).1
    go_wp2_with (at_builtin;refine wpList_append_own _ rfl (.tmp 18) (.tmp 20) 22 rfl w.heap.size 3 i0 (.int .i64 0) 1 8 underlying22 hi hz0 hz1 hz2 rfl (by decide) _ _ _ rfl (HO2.o.alloc _) ⟨w2.heap.size,0,none⟩ 1 1 [.int .i64 (k:Int)] rfl rfl (World.news_of_block (heap_alloc_new w2 _)) (Tw _) (by unfold maxLen;omega) (by omega) (by simp;have:=HSZ.o;omega) ?_;intro v5 w5 o5 g5 _)
    have q5:BW w w5:=(HB2.o.alloc (by have:=HSZ.o;omega) _).grown g5 (by have:=HSZ.o;simp;omega) HLT.o
    have HR5:Hid (w5.ownsRow w.heap.size 3 1 v5 (Bl (Ds td) cs (k+1)).length ((Bl (Ds td) cs (k+1)).map (Value.int .i64))):=by
     rw [Hid,HIN.o (by first | rfl | trivial),List.length_append,List.map_append];exact o5
    clear o5 g5;go_wp2
    go_roundw
    case rel=>exact ⟨_,k+1,rfl,by omega,by go_num,HR5.o,q5⟩
    case measure=>simp [intOf];omega
  ·have hke:k=cs.length:=by omega
   subst hke
   have hki:¬ (cs.length:Int)<(cs.length:Int):=by omega
   obtain ⟨va,vk,hva⟩:=Fz hown;subst hva;clear hbr hown;go_wp2;go_ret;exact ⟨va,vk,rfl,HO.o,HBR.o⟩
theorem Uw (b:Bk) (p:Bp) (w:World) (hx:Aq w b p) (hn:D0 b) :
  Calls prog 37 #[C5 b p] w (qN w (Bl (Ds b.today) b.cs b.cs.length)):=by
 obtain ⟨W,hW⟩:∃ W,W=w.alloc (.cells #[.int .i64 b.today,.slice p.o b.off.length p.oc,.slice p.a b.az.length p.ac,.slice p.c b.cs.length p.cc,.slice p.l b.ls.length p.lc,.slice p.g b.log.length p.gc] 31):=⟨_,rfl⟩
 have bW:BW w W:=by rw [hW];exact bR.alloc nL _
 have HS:Hid (S6 w.heap.size b p W):=by rw [Hid,hW];exact S6.new w b p _
 have HX:Hid (A0 W p.c b.cs):=(hx.below bW).cs;have HBW:Hid (BW w W):=bW;have HWS:Hid (w.heap.size≤W.heap.size):=bW.size;have hcn:=hn.2.2.1;clear hx hn bW;have HW:Hid _:=hW;clear hW;obtain ⟨td,fo,az,cs,ls,lg⟩:=b;obtain ⟨o,oc,a,ac,c,cc,l,lc,g,gc⟩:=p;unfold C5
 simp only at HW HX hcn ⊢
 obtain ⟨x0,x1,x2,x3,x4,x5⟩:=HS.o
 simp only at x0 x1 x2 x3 x4 x5
 go_enter func37,ntmps37
 go_upto_region 1 with fail
 rw [← HW.o];clear HW;go_wp2_with fail
 refine (mP _ _ cs w.heap.size td _ HX.o hcn x0).mono ?_;rintro e w2 ⟨va,vk,rfl,o2,b2⟩;have HO:Hid _:=Bi o2 HWS.o;have HB2:Hid (BW w w2):=next HBW.o b2;clear x0 x1 x2 x3 x4 x5 o2 b2;go_wp2;go_ret;exact ⟨va,vk,rfl,HO.o,HB2.o⟩
end Go.Proofs.YtomiclakhjncbaaGreatDoor
namespace Go.Proofs.YtomiclakhjncbaaGreatDoor
open Go.ChangeShapes Go.WideShapes Go.ChangeAt Go.RowKit Go.Deep Go.Proofs.Tryz
set_option maxRecDepth 100000
set_option maxHeartbeats 12800000
structure fM (b:Bk):Prop where
 td:(Lit.int .i64 b.today).wf=true
 off:b.off.length≤maxLen∧∀ z ∈ b.off,(Lit.int .i64 z).wf=true
 az:Ml b.az
 cs:U9 b.cs
 ls:Po b.ls
 log:Qu b.log
section
variable {P:Program} {H:Type} {enc:TypeId×Value→H} {W:World}
theorem gX {t e:TypeId} {fuel:Nat} {y:Value} {x:DataW H×List MemPlace} (ht:P.underlying t=some (.slice e)) (he:P.underlying e=some (.int .i64)) (ce:P.cellsOf e=1)
  (h:DataW.trod enc P W 0 (fun _=>true) true fuel t [y]=some x):∃ a cap zs,y=.slice a (List.length zs) cap∧Aw W a zs∧(zs.length≤maxLen∧∀ z ∈ zs,(Lit.int .i64 z).wf=true):=by
 rcases open_ints ht he ce h with ⟨hcs,_⟩ | ⟨x,l,c,zs,hcs,_,hl,hm,hz,_,hcell,hwz⟩
 ·simp at hcs
  exact ⟨none,0,[],by rw [hcs];rfl,.inl rfl,Nat.zero_le _,fun f hf=>by cases hf⟩
 ·simp at hcs
  have hr:pZ .i64 W (some x) l c zs:=.inr ⟨x,rfl,hl,hm,by simpa using hz,hcell,hwz⟩
  obtain ⟨e1,e2⟩:=Vw hr
  exact ⟨some x,c,zs.take l,by rw [hcs,e1],e2,by rw [e1];omega,fun z hz=>hwz z (List.mem_of_mem_take hz)⟩
theorem eY {t e:TypeId} {fuel:Nat} {y:Value} {x:DataW H×List MemPlace} (ht:P.underlying t=some (.slice e)) (he:P.underlying e=some .string) (ce:P.cellsOf e=1)
  (h:DataW.trod enc P W 0 (fun _=>true) true fuel t [y]=some x):∃ a cap rs,y=.slice a (List.length rs) cap∧Bh W a rs∧Qu rs:=by
 rcases open_strs ht he ce h with ⟨e1,_⟩ | ⟨a,len,cap,m,Sx,e1,_,hlc,hm,hmm,_,hx⟩
 ·simp at e1
  exact ⟨none,0,[],by rw [e1];rfl,.inl rfl,Nat.zero_le _,fun f hf=>by cases hf⟩
 ·simp at e1 hmm
  subst hmm
  refine ⟨some a,m,(List.range len).map fun i=>(Sx i).data.toList,by rw [e1];simp,?_,by rw [List.length_map,List.length_range];exact Nat.le_trans hlc hm,fun f hf=>by
   obtain ⟨i,hi,rfl⟩:=List.mem_map.1 hf
   have:=(hx i (by have:=List.mem_range.1 hi;omega)).2
   rw [Array.length_toList];exact this⟩
  by_cases hz:len=0
  ·subst hz;exact .inl rfl
  ·obtain ⟨bk,off,spot⟩:=a
   have hc0:=(hx 0 (by omega)).1
   have hspot:spot=none:=by simpa [Addr.add] using World.cell?_spot hc0
   subst hspot
   refine .inr ⟨bk,off,rfl,World.block_lt_of_cell? W _ hc0,fun i hi=>?_⟩
   have hi':i<len:=by simpa using hi
   have hat:Al ((List.range len).map fun i=>(Sx i).data.toList) i=(Sx i).data.toList:=by simp [Al,List.getD_eq_getElem?_getD,hi']
   have g0:=(hx i (by omega)).1
   rw [add_plain] at g0;rw [hat,g0]
theorem Wk {t e:TypeId} {g0 f0 f1 f2:Field} {fuel:Nat} {y:Value} {x:DataW H×List MemPlace} (hg:P.underlying t=some (.struct #[g0])) (og:g0.offset=0) (cg0:P.cellsOf g0.type=1) (ht:P.underlying g0.type=some (.slice e))
  (he:P.underlying e=some (.struct #[f0,f1,f2])) (ce:P.cellsOf e=3) (o0:f0.offset=0) (o1:f1.offset=1) (o2:f2.offset=2)
  (c0:P.cellsOf f0.type=1) (c1:P.cellsOf f1.type=1) (c2:P.cellsOf f2.type=1) (u0:P.underlying f0.type=some (.int .i64)) (u1:P.underlying f1.type=some (.int .i64)) (u2:P.underlying f2.type=some (.int .i64))
  (h:DataW.trod enc P W 0 (fun _=>true) true fuel t [y]=some x):∃ a cap ls,y=.slice a (List.length ls) cap∧Ai W a ls∧Po ls:=by
 obtain ⟨y0,m,_,hl,h0⟩:=trod_struct1 hg h
 simp [og,cg0] at h0
 exact X9 ht he ce o0 o1 o2 c0 c1 c2 u0 u1 u2 h0
theorem oZ {r:Reach} {base:Nat} {t:TypeId} {f0 f1 f2 f3 f4 f5:Field} {v:Value} {d:DataW H} {p:List MemPlace} (he:P.underlying t=some (.struct #[f0,f1,f2,f3,f4,f5])) (ce:P.cellsOf t=6) (o0:f0.offset=0) (o1:f1.offset=1) (o2:f2.offset=2) (o3:f3.offset=3) (o4:f4.offset=4) (o5:f5.offset=5)
  (c0:P.cellsOf f0.type=1) (c1:P.cellsOf f1.type=1) (c2:P.cellsOf f2.type=1) (c3:P.cellsOf f3.type=1) (c4:P.cellsOf f4.type=1) (c5:P.cellsOf f5.type=1) (u0:P.underlying f0.type=some (.int .i64))
  (q1:∀ (fuel:Nat) (y:Value) (x:DataW H×List MemPlace),DataW.trod enc P W 0 (fun _=>true) true fuel f1.type [y]=some x→∃ a cap ls,y=.slice a (List.length ls) cap∧Aw W a ls∧(ls.length≤maxLen∧∀ z ∈ ls,(Lit.int .i64 z).wf=true))
  (q2:∀ (fuel:Nat) (y:Value) (x:DataW H×List MemPlace),DataW.trod enc P W 0 (fun _=>true) true fuel f2.type [y]=some x→∃ a cap ls,y=.slice a (List.length ls) cap∧Ar W a ls∧Ml ls)
  (q3:∀ (fuel:Nat) (y:Value) (x:DataW H×List MemPlace),DataW.trod enc P W 0 (fun _=>true) true fuel f3.type [y]=some x→∃ a cap ls,y=.slice a (List.length ls) cap∧A0 W a ls∧U9 ls)
  (q4:∀ (fuel:Nat) (y:Value) (x:DataW H×List MemPlace),DataW.trod enc P W 0 (fun _=>true) true fuel f4.type [y]=some x→∃ a cap ls,y=.slice a (List.length ls) cap∧Ai W a ls∧Po ls)
  (q5:∀ (fuel:Nat) (y:Value) (x:DataW H×List MemPlace),DataW.trod enc P W 0 (fun _=>true) true fuel f5.type [y]=some x→∃ a cap ls,y=.slice a (List.length ls) cap∧Bh W a ls∧Qu ls)
  (hv:Value.okWide P W r base t v) (h:DataW.Trod enc P W 0 (fun _=>true) true t v d p):∃ b p,v=C5 b p∧Aq W b p∧fM b:=by
 obtain ⟨cs,rfl,_⟩:=okWide_struct he hv;obtain ⟨fuel,hf0⟩:=h;obtain ⟨xs,n,_,_,hl,hxl,hf⟩:=DataW.trod_struct he hf0
 simp only [Value.cells] at hl hf
 rw [ce] at hl;obtain ⟨l⟩:=cs
 match xs,hxl,l,hl with
 | [y0,y1,y2,y3,y4,y5],_,[a0,a1,a2,a3,a4,a5],_ =>
  have h0:=hf 0 f0 rfl
  simp [o0,c0] at h0
  have h1:=hf 1 f1 rfl
  simp [o1,c1] at h1
  have h2:=hf 2 f2 rfl
  simp [o2,c2] at h2
  have h3:=hf 3 f3 rfl
  simp [o3,c3] at h3
  have h4:=hf 4 f4 rfl
  simp [o4,c4] at h4
  have h5:=hf 5 f5 rfl
  simp [o5,c5] at h5
  obtain ⟨z0,e0,_,r0⟩:=DataW.trod_int u0 h0
  simp at e0
  obtain ⟨p1,k1,l1,e1,i1,b1⟩:=q1 _ _ _ h1;obtain ⟨p2,k2,l2,e2,i2,b2⟩:=q2 _ _ _ h2;obtain ⟨p3,k3,l3,e3,i3,b3⟩:=q3 _ _ _ h3;obtain ⟨p4,k4,l4,e4,i4,b4⟩:=q4 _ _ _ h4;obtain ⟨p5,k5,l5,e5,i5,b5⟩:=q5 _ _ _ h5
  exact ⟨⟨z0,l1,l2,l3,l4,l5⟩,⟨p1,k1,p2,k2,p3,k3,p4,k4,p5,k5⟩,by rw [e0,e1,e2,e3,e4,e5];rfl,⟨i1,i2,i3,i4,i5⟩,⟨r0,b1,b2,b3,b4,b5⟩⟩
end
end Go.Proofs.YtomiclakhjncbaaGreatDoor
namespace Go.Proofs.YtomiclakhjncbaaGreatDoor
open Go.RowKit Go.Proofs.Tryz
set_option maxRecDepth 100000
set_option maxHeartbeats 12800000
theorem Lv {n:Nat} {left:Int} (h:0≤Fw n left):(n:Int)≤left∧Fw n left≤left:=by
 unfold Fw at h ⊢
 split at h
 ·omega
 ·rename_i hh
  rw [if_neg hh]
  omega
theorem Yi (ao:Option Addr) (cap n:Nat) (left:Int) (w:World) (h0:0≤left) (h1:left≤1048576) (hn:n≤9223372036854775807) :
  Calls prog 67 #[.slice ao n cap,.int .i64 left] w fun e w'=>e=.returned (.int .i64 (Fw n left))∧w'=w:=by
 have hw:wrap64 (left - (n:Int))=left - (n:Int):=by unfold wrap64;omega
 by_cases h:left - (n:Int)<0
 ·have e:Fw n left = -1:=if_pos h
  rw [e]
  go_enter func67,ntmps67
  go_wp2;go_ret;exact ⟨rfl,rfl⟩
 ·have e:Fw n left=left - (n:Int):=if_neg h
  rw [e]
  go_enter func67,ntmps67
  go_wp2;go_ret;exact ⟨rfl,rfl⟩
def tL (b:Bk):Prop:=D0 b∧(b.log.length:Int)+V3 b.log≤1048576
def bX (b:Bk):Prop:=tL b∧∀ x ∈ b.az,x.ref.length≤1048576
theorem Vc (b:Bk) (p:Bp) (w:World) (hx:Aq w b p) (hd:fM b) :
  Calls prog 24 #[C5 b p,.int .i64 1048576] w fun e w'=>∃ n:Int,e=.returned (.int .i64 n)∧(0≤n→bX b)∧BW w w':=by
 obtain ⟨W,hW⟩:∃ W,W=w.alloc (.cells #[.int .i64 b.today,.slice p.o b.off.length p.oc,.slice p.a b.az.length p.ac,.slice p.c b.cs.length p.cc,.slice p.l b.ls.length p.lc,.slice p.g b.log.length p.gc] 50):=⟨_,rfl⟩
 have bW:BW w W:=by rw [hW];exact bR.alloc nL _
 have s1:S6 w.heap.size b p W:=by rw [hW];exact S6.new w b p _
 have HX:Hid (Aq W b p):=hx.below bW;have HBW:Hid (BW w W):=bW;have HS:Hid (S6 w.heap.size b p W):=s1;have HW:Hid _:=hW
 have m1:b.off.length≤9223372036854775807:=by have:=hd.off.1;unfold maxLen at this;omega
 have m3:b.cs.length≤9223372036854775807:=by have:=hd.cs.1;unfold maxLen at this;omega
 have m4:b.ls.length≤9223372036854775807:=by have:=hd.ls.1;unfold maxLen at this;omega
 have HDA:Hid (Ml b.az):=hd.az;have HDG:Hid (Qu b.log):=hd.log;obtain ⟨G,hG⟩:∃ G,G=bX b:=⟨_,rfl⟩
 have HG:Hid (b.off.length≤1048576→b.az.length≤1048576→Ws b.az≤1048576→b.cs.length≤1048576→b.ls.length≤1048576→(b.log.length:Int)+V3 b.log≤1048576→G):=by
  intro h1 h2 hr h3 h4 h5;rw [hG]
  exact ⟨⟨⟨h1,h2,h3,h4,by omega⟩,h5⟩,fun x hx=>Nat.le_trans (iY hx) hr⟩
 rw [← hG];clear hx bW hW s1 hd hG;obtain ⟨td,fo,az,cs,ls,lg⟩:=b;obtain ⟨o,oc,a,ac,c,cc,l,lc,g,gc⟩:=p;unfold C5
 simp only at HW HDA HDG HG m1 m3 m4 ⊢
 obtain ⟨c0,c1,c2,c3,c4,c5⟩:=HS.o
 simp only at c0 c1 c2 c3 c4 c5
 go_enter func24,ntmps24
 go_upto_region 1 with fail
 rw [← HW.o];clear HW;go_wp2_with fail
 refine (Yi _ _ _ _ _ (by omega) (by omega) m1).mono ?_
 rintro e w1 ⟨rfl,hw⟩;replace hw:=hw.symm;subst hw;have f1:=@Lv fo.length 1048576
 generalize Fw fo.length 1048576=n1 at f1 ⊢
 by_cases h1:n1<0
 ·go_wp2
  go_ret
  exact ⟨_,rfl,fun h=>absurd h (by decide),HBW.o⟩
 replace f1:=f1 (by omega)
 go_wp2_with fail
 refine (W6 _ _ _ _ _ HX.o.az HDA.o (by omega) (by omega)).mono ?_
 rintro e w2 ⟨rfl,b2⟩;have HX2:Hid _:=HX.o.below b2;have HS2:Hid _:=HS.o.below b2;have HB2:Hid (BW w w2):=next HBW.o b2;clear c0 c1 c2 c3 c4 c5 b2 HX HS HBW;obtain ⟨c0,c1,c2,c3,c4,c5⟩:=HS2.o
 simp only at c0 c1 c2 c3 c4 c5
 have f2:=@Xz az n1
 generalize Hr az n1=n2 at f2 ⊢
 by_cases h2:n2<0
 ·go_wp2
  go_ret
  exact ⟨_,rfl,fun h=>absurd h (by decide),HB2.o⟩
 replace f2:=f2 (by omega)
 have g2:(az.length≤1048576∧Ws az≤1048576)∧n2≤1048576:=by omega
 have g1:fo.length≤1048576:=by omega
 clear f1 f2;go_wp2_with fail
 refine (Vq _ _ _ _ _ (by omega) (by omega) m3).mono ?_
 rintro e w3 ⟨rfl,hw⟩;replace hw:=hw.symm;subst hw;have f3:=@Lv cs.length n2
 generalize Fw cs.length n2=n3 at f3 ⊢
 by_cases h3:n3<0
 ·go_wp2
  go_ret
  exact ⟨_,rfl,fun h=>absurd h (by decide),HB2.o⟩
 replace f3:=f3 (by omega)
 have g3:cs.length≤1048576∧n3≤1048576:=by omega
 clear f3 h2;go_wp2_with fail
 refine (Uk _ _ _ _ _ (by omega) (by omega) m4).mono ?_
 rintro e w4 ⟨rfl,b4⟩;have HX4:Hid _:=HX2.o.below b4;have HS4:Hid _:=HS2.o.below b4;have HB4:Hid (BW w w4):=next HB2.o b4;clear c0 c1 c2 c3 c4 c5 b4 HX2 HS2 HB2;obtain ⟨c0,c1,c2,c3,c4,c5⟩:=HS4.o
 simp only at c0 c1 c2 c3 c4 c5
 have f4:=@Lv ls.length n3
 generalize Fw ls.length n3=n4 at f4 ⊢
 by_cases h4:n4<0
 ·go_wp2
  go_ret
  exact ⟨_,rfl,fun h=>absurd h (by decide),HB4.o⟩
 replace f4:=f4 (by omega)
 have g4:ls.length≤1048576∧n4≤1048576:=by omega
 clear f4 h3;go_wp2_with fail
 refine (Rv _ _ _ _ _ HX4.o.log HDG.o (by omega) (by omega)).mono ?_
 rintro e w5 ⟨rfl,b5⟩;have HB5:Hid (BW w w5):=next HB4.o b5;clear c0 c1 c2 c3 c4 c5 b5;have f5:=@eW lg n4
 generalize Lk lg n4=n5 at f5 ⊢
 by_cases h5:n5<0
 ·go_wp2
  go_ret
  exact ⟨_,rfl,fun h=>absurd h (by decide),HB5.o⟩
 ·replace f5:=f5 (by omega)
  go_wp2;go_ret
  exact ⟨_,rfl,fun _=>HG.o g1 g2.1.1 g2.1.2 g3.1 g4.1 (by omega),HB5.o⟩
end Go.Proofs.YtomiclakhjncbaaGreatDoor
