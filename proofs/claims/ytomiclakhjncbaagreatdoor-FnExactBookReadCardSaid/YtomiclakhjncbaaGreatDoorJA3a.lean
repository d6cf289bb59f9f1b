import Derived.Test.YtomiclakhjncbaaGreatDoorKACLaw
import Derived.Test.YtomiclakhjncbaaGreatDoorJA1a
import Derived.Lib.AppendZeros
import Derived.Test.YtomiclakhjncbaaGreatDoorJA0a
import Derived.Deep.DeepCutAuto
import Derived.Test.YtomiclakhjncbaaGreatDoorKAAuLaw
import Derived.Test.YtomiclakhjncbaaGreatDoorKALnLaw2
import Derived.Handy
import Derived.OwnWalk
import Derived.Deep.AppendLies
import Derived.Maps.AppendAt
import Derived.Test.YtomiclakhjncbaaGreatDoorKASLed2
import Derived.Test.YtomiclakhjncbaaGreatDoorJA2a
namespace Go.Proofs.YtomiclakhjncbaaGreatDoor
open Go.ChangeShapes Go.WideShapes Go.ChangeAt Go.RowKit Go.Deep
set_option maxRecDepth 100000
set_option maxHeartbeats 12800000
def csAt (cs:List Cs) (k:Nat):Cs:=cs.getD k ⟨0,0,0,0,0,0,0,0,0,false,0,0⟩
theorem csAt_is {cs:List Cs} {k:Nat} (h:k<cs.length):csAt cs k=cs[k]:=by simp [csAt,List.getD_eq_getElem?_getD,h]
theorem csAt_mem {cs:List Cs} {k:Nat} (h:k<cs.length):csAt cs k ∈ cs:=by rw [csAt_is h];exact List.getElem_mem h
def CasesAt (w:World) (ao:Option Addr) (cs:List Cs):Prop :=
 cs=[]∨∃ b off,ao=some ⟨b,off,none⟩∧b<w.heap.size∧∀ i,i<cs.length→CB b (off+i*12) (csAt cs i) w
theorem CasesAt.below {w w':World} {ao:Option Addr} {cs:List Cs} (h:CasesAt w ao cs) (hb:Below w.heap.size w w'):CasesAt w' ao cs:=by
 rcases h with h | ⟨b,off,h1,h2,h3⟩
 ·exact .inl h
 ·exact .inr ⟨b,off,h1,Nat.lt_of_lt_of_le h2 hb.size,fun i hi=>(h3 i hi).below hb⟩
theorem CasesAt.at {w:World} {ao:Option Addr} {cs:List Cs} (h:CasesAt w ao cs) {k:Nat} (hk:k<cs.length):∃ b off,ao=some ⟨b,off,none⟩∧b<w.heap.size∧CB b (off+k*12) (csAt cs k) w:=by
 rcases h with rfl | ⟨b,off,h1,h2,h3⟩
 ·simp at hk
 ·exact ⟨b,off,h1,h2,h3 k hk⟩
section
variable {P:Program} {H:Type} {enc:TypeId×Value→H} {W:World}
end
def cscells (cs:List Cs):List Value:=cs.flatMap fun c=>(ccs c).toList
theorem cscells_cons (c:Cs) (r:List Cs):cscells (c::r)=(ccs c).toList++cscells r:=rfl
theorem cscells_append (a b:List Cs):cscells (a++b)=cscells a++cscells b:=by simp [cscells]
theorem cscells_len (cs:List Cs):(cscells cs).length=cs.length*12:=by
 induction cs with
 | nil=>rfl
 | cons c r ih=>rw [cscells_cons,List.length_append,ih];simp [ccs];omega
theorem cscells_at (cs:List Cs):∀ (k j:Nat),k<cs.length→j<12→(cscells cs)[k*12+j]?=(ccs (csAt cs k)).toList[j]?:=by
 induction cs with
 | nil=>intro k j h;simp at h
 | cons c r ih =>
  intro k j hk hj
  rw [cscells_cons]
  cases k with
  | zero =>
   rw [List.getElem?_append_left (by simp [ccs];omega)]
   simp [csAt]
  | succ k =>
   have hl:(ccs c).toList.length=12:=by simp [ccs]
   rw [List.getElem?_append_right (by rw [hl];omega),hl,show (k+1) * 12+j - 12=k*12+j by omega,ih k j (by simpa using hk) hj]
   simp [csAt]
theorem cscells_one (cs:List Cs):∀ u ∈ cscells cs,u.oneCell'=true:=by
 intro u hu
 simp [cscells,ccs] at hu
 obtain ⟨c,_,h⟩:=hu
 rcases h with rfl | rfl | rfl | rfl | rfl | rfl | rfl | rfl | rfl | rfl | rfl | rfl <;> rfl
theorem cases_own {w:World} {base n:Nat} {t:TypeId} {ao:Option Addr} {cap:Nat} {cs:List Cs} (h:w.ownsRow base t 12 (.slice ao n cap) n (cscells cs)):CasesAt w ao cs:=by
 rcases h.2 with ⟨hv,h0⟩ | ⟨g,cap',cur,hv,hrest⟩
 ·have hl:=h.1
  obtain ⟨rfl,rfl,rfl⟩:ao=none∧n=0∧cap=0:=by simpa using hv
  rw [cscells_len] at hl
  exact .inl (List.length_eq_zero_iff.1 (by omega))
 ·have hl:=h.1
  rw [cscells_len] at hl
  obtain ⟨rfl,rfl⟩:ao=some ⟨g,0,none⟩∧cap=cap':=by simpa using hv
  by_cases hz:cs=[]
  ·exact .inl hz
  ·have hlt:=(h.lt g rfl).2
   refine .inr ⟨g,0,rfl,hlt,fun i hi=>?_⟩
   have e:∀ j,j<12→w.cell? ⟨g,0+i*12+j,none⟩=(ccs (csAt cs i)).toList[j]?:=fun j hj=>by
    rw [Nat.zero_add,h.cellAt (i*12+j) (by omega),cscells_at cs i j hi hj]
   exact ⟨e 0 (by omega),e 1 (by omega),e 2 (by omega),e 3 (by omega),e 4 (by omega),e 5 (by omega),e 6 (by omega),e 7 (by omega),e 8 (by omega),e 9 (by omega),e 10 (by omega),e 11 (by omega)⟩
end Go.Proofs.YtomiclakhjncbaaGreatDoor
namespace Go.Proofs.YtomiclakhjncbaaGreatDoor
open Go.RowKit
set_option maxRecDepth 100000
set_option maxHeartbeats 12800000
theorem eqCaseS_same (ao bo:Option Addr) (c1 c2:Nat) (cs:List Cs) (w:World) (hx:CasesAt w ao cs) (hy:CasesAt w bo cs) (h1:cs.length≤1099511627776) :
  Calls Tryz.prog 54 #[.slice ao cs.length c1,.slice bo cs.length c2] w fun e w'=>e=.returned (.bool true)∧Below w.heap.size w w':=by
 have HX:Hid (CasesAt w ao cs):=hx
 have HY:Hid (CasesAt w bo cs):=hy
 clear hx hy
 have nn:((cs.length:Int) != (cs.length:Int))=false:=by simp
 go_enter Tryz.func54,Tryz.ntmps54
 go_wp2
 go_loopw [5] (fun i wr=>∃ k:Nat,k≤cs.length∧i=.int .i64 k∧Below w.heap.size w wr) (fun i _=>cs.length - (intOf i).toNat)
 case atStart=>exact ⟨0,Nat.zero_le _,rfl,Below.refl _ _⟩
 case round =>
  obtain ⟨k,hk,rfl,hbr⟩:=hrel
  have HBR:Hid (Below w.heap.size w wr):=hbr
  clear hbr
  by_cases hlt:k<cs.length
  ·have hki:(k:Int)<(cs.length:Int):=by omega
   obtain ⟨b,off,ha,hb,cx⟩:=CasesAt.at (CasesAt.below HX.out HBR.out) hlt
   obtain ⟨d,off2,hb2,hd,cy⟩:=CasesAt.at (CasesAt.below HY.out HBR.out) hlt
   subst ha
   subst hb2
   obtain ⟨⟨iss,acq,cur,am,st,rsn,cl,bk,fee,cop,sta,due⟩,hf⟩:∃ f,csAt cs k=f:=⟨_,rfl⟩
   rw [hf] at cx cy
   clear hf hb hd
   obtain ⟨x0,x1,x2,x3,x4,x5,x6,x7,x8,x9,x10,x11⟩:=cx
   obtain ⟨y0,y1,y2,y3,y4,y5,y6,y7,y8,y9,y10,y11⟩:=cy
   simp only at x0 y0 x1 y1 x2 y2 x3 y3 x4 y4 x5 y5 x6 y6 x7 y7 x8 y8 x9 y9 x10 y10 x11 y11
   have hne:=over_ne wr
   have ox0:=over_cell x0
   have oy0:=over_cell y0
   have ox1:=over_cell x1
   have oy1:=over_cell y1
   have ox2:=over_cell x2
   have oy2:=over_cell y2
   have ox3:=over_cell x3
   have oy3:=over_cell y3
   have ox4:=over_cell x4
   have oy4:=over_cell y4
   have ox5:=over_cell x5
   have oy5:=over_cell y5
   have ox6:=over_cell x6
   have oy6:=over_cell y6
   have ox7:=over_cell x7
   have oy7:=over_cell y7
   have ox8:=over_cell x8
   have oy8:=over_cell y8
   have ox9:=over_cell x9
   have oy9:=over_cell y9
   have ox10:=over_cell x10
   have oy10:=over_cell y10
   have ox11:=over_cell x11
   have oy11:=over_cell y11
   have HEQ:Hid (∀ z:Over wr,Calls Tryz.prog 116 #[.agg #[.int .i64 iss,.int .i64 acq,.int .i64 cur,.int .i64 am,.int .i64 st,.int .i64 rsn,.int .i64 cl,.int .i64 bk,.int .i64 fee,.bool cop,.int .i64 sta,.int .i64 due],.agg #[.int .i64 iss,.int .i64 acq,.int .i64 cur,.int .i64 am,.int .i64 st,.int .i64 rsn,.int .i64 cl,.int .i64 bk,.int .i64 fee,.bool cop,.int .i64 sta,.int .i64 due]] z.x fun e w'=>e=.returned (.bool true)∧Below z.x.heap.size z.x w'):=fun z=>eqCase_same ⟨iss,acq,cur,am,st,rsn,cl,bk,fee,cop,sta,due⟩ z.x
   clear x0 y0 x1 y1 x2 y2 x3 y3 x4 y4 x5 y5 x6 y6 x7 y7 x8 y8 x9 y9 x10 y10 x11 y11
   go_upto_region 6 with fail
   refine wp_region_over (by kernel_rfl) (by kernel_rfl) ?_
   repeat (go_big_quiet_step (exact over_of (HEQ.out _)))
   refine wpQuiet_nil ?_
   rintro w6 ⟨⟨wz,b6⟩,hw6⟩
   subst hw6
   have HB6:Hid (Below w.heap.size w w6):=HBR.out.trans (b6.mono HBR.out.size)
   clear ox0 oy0 ox1 oy1 ox2 oy2 ox3 oy3 ox4 oy4 ox5 oy5 ox6 oy6 ox7 oy7 ox8 oy8 ox9 oy9 ox10 oy10 ox11 oy11 hne HEQ b6
   go_wp2
   go_roundw
   case rel=>exact ⟨k+1,by omega,by go_num,HB6.out⟩
   case measure=>simp [intOf];omega
  ·have hki:¬ (k:Int)<(cs.length:Int):=by omega
   go_wp2
   go_ret
   exact ⟨rfl,HBR.out⟩
structure Bk where
 today:Int
 off:List Int
 az:List Au
 cs:List Cs
 ls:List Ln
 log:Recs
structure Bp where
 o:Option Addr
 oc:Nat
 a:Option Addr
 ac:Nat
 c:Option Addr
 cc:Nat
 l:Option Addr
 lc:Nat
 g:Option Addr
 gc:Nat
def bkv (b:Bk) (p:Bp):Value:=.agg #[.int .i64 b.today,.slice p.o b.off.length p.oc,.slice p.a b.az.length p.ac,.slice p.c b.cs.length p.cc,.slice p.l b.ls.length p.lc,.slice p.g b.log.length p.gc]
structure BookAt (u:World) (b:Bk) (p:Bp):Prop where
 off:IntsAt u p.o b.off
 az:AuthsAt u p.a b.az
 cs:CasesAt u p.c b.cs
 ls:LinesAt u p.l b.ls
 log:TxtsAt u p.g b.log
theorem BookAt.below {u u':World} {b:Bk} {p:Bp} (h:BookAt u b p) (hb:Below u.heap.size u u'):BookAt u' b p:=⟨h.off.below hb,h.az.below hb,h.cs.below hb,h.ls.below hb,h.log.below hb⟩
def bkSm (b:Bk):Prop:=b.off.length≤1048576∧b.az.length≤1048576∧b.cs.length≤1048576∧b.ls.length≤1048576∧b.log.length≤1048576
structure S6 (B:Nat) (b:Bk) (p:Bp) (u:World):Prop where
 c0:u.cell? ⟨B,0,none⟩=some (.int .i64 b.today)
 c1:u.cell? ⟨B,1,none⟩=some (.slice p.o b.off.length p.oc)
 c2:u.cell? ⟨B,2,none⟩=some (.slice p.a b.az.length p.ac)
 c3:u.cell? ⟨B,3,none⟩=some (.slice p.c b.cs.length p.cc)
 c4:u.cell? ⟨B,4,none⟩=some (.slice p.l b.ls.length p.lc)
 c5:u.cell? ⟨B,5,none⟩=some (.slice p.g b.log.length p.gc)
theorem S6.lt {B:Nat} {b:Bk} {p:Bp} {u:World} (h:S6 B b p u):B<u.heap.size:=World.block_lt_of_cell? u _ h.c0
theorem S6.below {B:Nat} {b:Bk} {p:Bp} {u u':World} (h:S6 B b p u) (hb:Below u.heap.size u u'):S6 B b p u':=by
 have l:=h.lt
 exact ⟨(hb.cell (p:=⟨B,0,none⟩) l).trans h.c0,(hb.cell (p:=⟨B,1,none⟩) l).trans h.c1,(hb.cell (p:=⟨B,2,none⟩) l).trans h.c2,(hb.cell (p:=⟨B,3,none⟩) l).trans h.c3,(hb.cell (p:=⟨B,4,none⟩) l).trans h.c4,(hb.cell (p:=⟨B,5,none⟩) l).trans h.c5⟩
theorem S6.new (w:World) (b:Bk) (p:Bp) (ty:TypeId):S6 w.heap.size b p (w.alloc (.cells #[.int .i64 b.today,.slice p.o b.off.length p.oc,.slice p.a b.az.length p.ac,.slice p.c b.cs.length p.cc,.slice p.l b.ls.length p.lc,.slice p.g b.log.length p.gc] ty)):=⟨by simp,by simp,by simp,by simp,by simp,by simp⟩
theorem eqBook_same (b:Bk) (p q:Bp) (w:World) (hx:BookAt w b p) (hy:BookAt w b q) (hn:bkSm b) :
  Calls Tryz.prog 15 #[bkv b p,bkv b q] w fun e w'=>e=.returned (.bool true)∧Below w.heap.size w w':=by
 obtain ⟨W,hW⟩:∃ W,W=(w.alloc (.cells #[.int .i64 b.today,.slice p.o b.off.length p.oc,.slice p.a b.az.length p.ac,.slice p.c b.cs.length p.cc,.slice p.l b.ls.length p.lc,.slice p.g b.log.length p.gc] 31)).alloc (.cells #[.int .i64 b.today,.slice q.o b.off.length q.oc,.slice q.a b.az.length q.ac,.slice q.c b.cs.length q.cc,.slice q.l b.ls.length q.lc,.slice q.g b.log.length q.gc] 31):=⟨_,rfl⟩
 have bW:Below w.heap.size w W:=by rw [hW];go_grown
 have s1:S6 w.heap.size b p W:=by rw [hW];exact (S6.new w b p _).below ((Below.refl _ _).alloc (Nat.le_refl _) _)
 have s2:S6 (w.heap.size+1) b q W:=by
  rw [hW]
  have h:=S6.new (w.alloc (.cells #[.int .i64 b.today,.slice p.o b.off.length p.oc,.slice p.a b.az.length p.ac,.slice p.c b.cs.length p.cc,.slice p.l b.ls.length p.lc,.slice p.g b.log.length p.gc] 31)) b q 31
  simpa using h
 have HW:Hid _:=hW
 have HX:Hid (BookAt W b p∧BookAt W b q):=⟨hx.below bW,hy.below bW⟩
 have HBW:Hid (Below w.heap.size w W):=bW
 have HS:Hid (S6 w.heap.size b p W∧S6 (w.heap.size+1) b q W):=⟨s1,s2⟩
 have HN:Hid (bkSm b):=hn
 clear hx hy bW hW s1 s2 hn
 obtain ⟨td,fo,az,cs,ls,lg⟩:=b
 obtain ⟨o,oc,a,ac,c,cc,l,lc,g,gc⟩:=p
 obtain ⟨o',oc',a',ac',c',cc',l',lc',g',gc'⟩:=q
 unfold bkv
 simp only at HW ⊢
 obtain ⟨c0,c1,c2,c3,c4,c5⟩:=HS.out.1
 obtain ⟨d0,d1,d2,d3,d4,d5⟩:=HS.out.2
 simp only at c0 c1 c2 c3 c4 c5 d0 d1 d2 d3 d4 d5
 have nt:(td != td)=false:=by simp
 go_enter Tryz.func15,Tryz.ntmps15
 go_upto_region 1 with fail
 rw [← HW.out]
 clear HW
 go_wp2_with fail
 refine (eqIntS_any _ _ _ _ fo fo _ HX.out.1.off HX.out.2.off (by have:=HN.out.1;simp only at this;omega) (by have:=HN.out.1;simp only at this;omega)).mono ?_
 rintro e w1 ⟨rfl,b1⟩
 have HX1:Hid _:=And.intro (HX.out.1.below b1) (HX.out.2.below b1)
 have HS1:Hid _:=And.intro (HS.out.1.below b1) (HS.out.2.below b1)
 have HB1:Hid (Below w.heap.size w w1):=next HBW.out b1
 clear c0 c1 c2 c3 c4 c5 d0 d1 d2 d3 d4 d5 b1 HX HS HBW
 obtain ⟨c0,c1,c2,c3,c4,c5⟩:=HS1.out.1
 obtain ⟨d0,d1,d2,d3,d4,d5⟩:=HS1.out.2
 simp only at c0 c1 c2 c3 c4 c5 d0 d1 d2 d3 d4 d5
 go_wp2_with fail
 refine (eqAuthS_same _ _ _ _ az _ HX1.out.1.az HX1.out.2.az (by have:=HN.out.2.1;simp only at this;omega)).mono ?_
 rintro e w2 ⟨rfl,b2⟩
 have HX2:Hid _:=And.intro (HX1.out.1.below b2) (HX1.out.2.below b2)
 have HS2:Hid _:=And.intro (HS1.out.1.below b2) (HS1.out.2.below b2)
 have HB2:Hid (Below w.heap.size w w2):=next HB1.out b2
 clear c0 c1 c2 c3 c4 c5 d0 d1 d2 d3 d4 d5 b2 HX1 HS1 HB1
 obtain ⟨c0,c1,c2,c3,c4,c5⟩:=HS2.out.1
 obtain ⟨d0,d1,d2,d3,d4,d5⟩:=HS2.out.2
 simp only at c0 c1 c2 c3 c4 c5 d0 d1 d2 d3 d4 d5
 go_wp2_with fail
 refine (eqCaseS_same _ _ _ _ cs _ HX2.out.1.cs HX2.out.2.cs (by have:=HN.out.2.2.1;simp only at this;omega)).mono ?_
 rintro e w3 ⟨rfl,b3⟩
 have HX3:Hid _:=And.intro (HX2.out.1.below b3) (HX2.out.2.below b3)
 have HS3:Hid _:=And.intro (HS2.out.1.below b3) (HS2.out.2.below b3)
 have HB3:Hid (Below w.heap.size w w3):=next HB2.out b3
 clear c0 c1 c2 c3 c4 c5 d0 d1 d2 d3 d4 d5 b3 HX2 HS2 HB2
 obtain ⟨c0,c1,c2,c3,c4,c5⟩:=HS3.out.1
 obtain ⟨d0,d1,d2,d3,d4,d5⟩:=HS3.out.2
 simp only at c0 c1 c2 c3 c4 c5 d0 d1 d2 d3 d4 d5
 go_wp2_with fail
 refine (eqLedger_same _ _ _ _ ls _ HX3.out.1.ls HX3.out.2.ls (by have:=HN.out.2.2.2.1;simp only at this;omega)).mono ?_
 rintro e w4 ⟨rfl,b4⟩
 have HX4:Hid _:=And.intro (HX3.out.1.below b4) (HX3.out.2.below b4)
 have HS4:Hid _:=And.intro (HS3.out.1.below b4) (HS3.out.2.below b4)
 have HB4:Hid (Below w.heap.size w w4):=next HB3.out b4
 clear c0 c1 c2 c3 c4 c5 d0 d1 d2 d3 d4 d5 b4 HX3 HS3 HB3
 obtain ⟨c0,c1,c2,c3,c4,c5⟩:=HS4.out.1
 obtain ⟨d0,d1,d2,d3,d4,d5⟩:=HS4.out.2
 simp only at c0 c1 c2 c3 c4 c5 d0 d1 d2 d3 d4 d5
 go_wp2_with fail
 refine (eqStringS_any _ _ _ _ lg lg _ HX4.out.1.log HX4.out.2.log (by have:=HN.out.2.2.2.2;simp only at this;omega) (by have:=HN.out.2.2.2.2;simp only at this;omega)).mono ?_
 rintro e w5 ⟨rfl,b5⟩
 have HB5:Hid (Below w.heap.size w w5):=next HB4.out b5
 clear c0 c1 c2 c3 c4 c5 d0 d1 d2 d3 d4 d5 b5
 go_wp2
 go_ret
 exact ⟨rfl,HB5.out⟩
theorem cscells_set (cs:List Cs) (c:Cs):∀ k,k<cs.length→(((((((((((((cscells cs).set (k*12) (.int .i64 c.iss)).set (k*12+1) (.int .i64 c.acq)).set (k*12+2) (.int .i64 c.cur)).set (k*12+3) (.int .i64 c.am)).set (k*12+4) (.int .i64 c.st)).set (k*12+5) (.int .i64 c.rsn)).set (k*12+6) (.int .i64 c.cl)).set (k*12+7) (.int .i64 c.bk)).set (k*12+8) (.int .i64 c.fee)).set (k*12+9) (.bool c.cop)).set (k*12+10) (.int .i64 c.sta)).set (k*12+11) (.int .i64 c.due))=cscells (cs.set k c):=by
 induction cs with
 | nil=>intro k h;simp at h
 | cons g r ih =>
  intro k h
  cases k with
  | zero=>rfl
  | succ k =>
   have:=ih k (by simpa using h)
   have e:cscells (g::r)=.int .i64 g.iss::.int .i64 g.acq::.int .i64 g.cur::.int .i64 g.am::.int .i64 g.st::.int .i64 g.rsn::.int .i64 g.cl::.int .i64 g.bk::.int .i64 g.fee::.bool g.cop::.int .i64 g.sta::.int .i64 g.due::cscells r:=rfl
   rw [e,show (k+1) * 12=k*12+1+1+1+1+1+1+1+1+1+1+1+1 by omega,show k*12+1+1+1+1+1+1+1+1+1+1+1+1+1=(k*12+1)+1+1+1+1+1+1+1+1+1+1+1+1 by omega,show k*12+1+1+1+1+1+1+1+1+1+1+1+1+2=(k*12+2)+1+1+1+1+1+1+1+1+1+1+1+1 by omega,show k*12+1+1+1+1+1+1+1+1+1+1+1+1+3=(k*12+3)+1+1+1+1+1+1+1+1+1+1+1+1 by omega,show k*12+1+1+1+1+1+1+1+1+1+1+1+1+4=(k*12+4)+1+1+1+1+1+1+1+1+1+1+1+1 by omega,show k*12+1+1+1+1+1+1+1+1+1+1+1+1+5=(k*12+5)+1+1+1+1+1+1+1+1+1+1+1+1 by omega,show k*12+1+1+1+1+1+1+1+1+1+1+1+1+6=(k*12+6)+1+1+1+1+1+1+1+1+1+1+1+1 by omega,show k*12+1+1+1+1+1+1+1+1+1+1+1+1+7=(k*12+7)+1+1+1+1+1+1+1+1+1+1+1+1 by omega,show k*12+1+1+1+1+1+1+1+1+1+1+1+1+8=(k*12+8)+1+1+1+1+1+1+1+1+1+1+1+1 by omega,show k*12+1+1+1+1+1+1+1+1+1+1+1+1+9=(k*12+9)+1+1+1+1+1+1+1+1+1+1+1+1 by omega,show k*12+1+1+1+1+1+1+1+1+1+1+1+1+10=(k*12+10)+1+1+1+1+1+1+1+1+1+1+1+1 by omega,show k*12+1+1+1+1+1+1+1+1+1+1+1+1+11=(k*12+11)+1+1+1+1+1+1+1+1+1+1+1+1 by omega]
   simp only [List.set_cons_succ,this]
   rfl
theorem infoC:(Tryz.prog.info? 61).map (fun i=>(i.zero,i.size,i.bytes))=some (some (.agg #[.int .i64 0,.int .i64 0,.int .i64 0,.int .i64 0,.int .i64 0,.int .i64 0,.int .i64 0,.int .i64 0,.int .i64 0,.bool false,.int .i64 0,.int .i64 0]),12,96):=by kernel_rfl
structure Z6 (B:Nat) (v0 v1 v2 v3 v4 v5:Value) (u:World):Prop where
 c0:u.cell? ⟨B,0,none⟩=some v0
 c1:u.cell? ⟨B,1,none⟩=some v1
 c2:u.cell? ⟨B,2,none⟩=some v2
 c3:u.cell? ⟨B,3,none⟩=some v3
 c4:u.cell? ⟨B,4,none⟩=some v4
 c5:u.cell? ⟨B,5,none⟩=some v5
 z0:u.frozen? ⟨B,0,none⟩=false
 z1:u.frozen? ⟨B,1,none⟩=false
 z2:u.frozen? ⟨B,2,none⟩=false
 z3:u.frozen? ⟨B,3,none⟩=false
 z4:u.frozen? ⟨B,4,none⟩=false
 z5:u.frozen? ⟨B,5,none⟩=false
theorem Z6.lt {B:Nat} {v0 v1 v2 v3 v4 v5:Value} {u:World} (h:Z6 B v0 v1 v2 v3 v4 v5 u):B<u.heap.size:=World.block_lt_of_cell? u _ h.c0
theorem Z6.below {B:Nat} {v0 v1 v2 v3 v4 v5:Value} {u u':World} (h:Z6 B v0 v1 v2 v3 v4 v5 u) (b:Below u.heap.size u u'):Z6 B v0 v1 v2 v3 v4 v5 u':=by
 have l:=h.lt
 exact ⟨(b.cell (p:=⟨B,0,none⟩) l).trans h.c0,(b.cell (p:=⟨B,1,none⟩) l).trans h.c1,(b.cell (p:=⟨B,2,none⟩) l).trans h.c2,(b.cell (p:=⟨B,3,none⟩) l).trans h.c3,(b.cell (p:=⟨B,4,none⟩) l).trans h.c4,(b.cell (p:=⟨B,5,none⟩) l).trans h.c5,(b.frozen (p:=⟨B,0,none⟩) l).trans h.z0,(b.frozen (p:=⟨B,1,none⟩) l).trans h.z1,(b.frozen (p:=⟨B,2,none⟩) l).trans h.z2,(b.frozen (p:=⟨B,3,none⟩) l).trans h.z3,(b.frozen (p:=⟨B,4,none⟩) l).trans h.z4,(b.frozen (p:=⟨B,5,none⟩) l).trans h.z5⟩
theorem Z6.far {B B' i:Nat} {v0 v1 v2 v3 v4 v5:Value} {u:World} {x:Value} (h:Z6 B v0 v1 v2 v3 v4 v5 u) (hne:B'≠B):Z6 B v0 v1 v2 v3 v4 v5 (u.setCell ⟨B',i,none⟩ x):=by
 have l:=h.lt
 have gr:u.grownBy (u.setCell ⟨B',i,none⟩ x) (some B'):=⟨rfl,rfl,rfl,by simp,fun j _ hj=>Below.heap_setCell _ _ _ _ (fun e=>hj (by rw [e]))⟩
 have hs:some B≠some B':=fun e=>hne (by injection e with e;exact e.symm)
 exact ⟨(gr.cell_far ⟨B,0,none⟩ l hs).trans h.c0,(gr.cell_far ⟨B,1,none⟩ l hs).trans h.c1,(gr.cell_far ⟨B,2,none⟩ l hs).trans h.c2,(gr.cell_far ⟨B,3,none⟩ l hs).trans h.c3,(gr.cell_far ⟨B,4,none⟩ l hs).trans h.c4,(gr.cell_far ⟨B,5,none⟩ l hs).trans h.c5,by simp [h.z0],by simp [h.z1],by simp [h.z2],by simp [h.z3],by simp [h.z4],by simp [h.z5]⟩
theorem Z6.set0 {B:Nat} {v0 v1 v2 v3 v4 v5:Value} {u:World} (h:Z6 B v0 v1 v2 v3 v4 v5 u) (x:Value):Z6 B x v1 v2 v3 v4 v5 (u.setCell ⟨B,0,none⟩ x):=by
 obtain ⟨c0,c1,c2,c3,c4,c5,z0,z1,z2,z3,z4,z5⟩:=h
 exact ⟨by simp [go_sem,c0],by simp [go_sem,c1],by simp [go_sem,c2],by simp [go_sem,c3],by simp [go_sem,c4],by simp [go_sem,c5],by simp [go_sem,z0],by simp [go_sem,z1],by simp [go_sem,z2],by simp [go_sem,z3],by simp [go_sem,z4],by simp [go_sem,z5]⟩
theorem Z6.set1 {B:Nat} {v0 v1 v2 v3 v4 v5:Value} {u:World} (h:Z6 B v0 v1 v2 v3 v4 v5 u) (x:Value):Z6 B v0 x v2 v3 v4 v5 (u.setCell ⟨B,1,none⟩ x):=by
 obtain ⟨c0,c1,c2,c3,c4,c5,z0,z1,z2,z3,z4,z5⟩:=h
 exact ⟨by simp [go_sem,c0],by simp [go_sem,c1],by simp [go_sem,c2],by simp [go_sem,c3],by simp [go_sem,c4],by simp [go_sem,c5],by simp [go_sem,z0],by simp [go_sem,z1],by simp [go_sem,z2],by simp [go_sem,z3],by simp [go_sem,z4],by simp [go_sem,z5]⟩
theorem Z6.set2 {B:Nat} {v0 v1 v2 v3 v4 v5:Value} {u:World} (h:Z6 B v0 v1 v2 v3 v4 v5 u) (x:Value):Z6 B v0 v1 x v3 v4 v5 (u.setCell ⟨B,2,none⟩ x):=by
 obtain ⟨c0,c1,c2,c3,c4,c5,z0,z1,z2,z3,z4,z5⟩:=h
 exact ⟨by simp [go_sem,c0],by simp [go_sem,c1],by simp [go_sem,c2],by simp [go_sem,c3],by simp [go_sem,c4],by simp [go_sem,c5],by simp [go_sem,z0],by simp [go_sem,z1],by simp [go_sem,z2],by simp [go_sem,z3],by simp [go_sem,z4],by simp [go_sem,z5]⟩
theorem Z6.set3 {B:Nat} {v0 v1 v2 v3 v4 v5:Value} {u:World} (h:Z6 B v0 v1 v2 v3 v4 v5 u) (x:Value):Z6 B v0 v1 v2 x v4 v5 (u.setCell ⟨B,3,none⟩ x):=by
 obtain ⟨c0,c1,c2,c3,c4,c5,z0,z1,z2,z3,z4,z5⟩:=h
 exact ⟨by simp [go_sem,c0],by simp [go_sem,c1],by simp [go_sem,c2],by simp [go_sem,c3],by simp [go_sem,c4],by simp [go_sem,c5],by simp [go_sem,z0],by simp [go_sem,z1],by simp [go_sem,z2],by simp [go_sem,z3],by simp [go_sem,z4],by simp [go_sem,z5]⟩
theorem Z6.set4 {B:Nat} {v0 v1 v2 v3 v4 v5:Value} {u:World} (h:Z6 B v0 v1 v2 v3 v4 v5 u) (x:Value):Z6 B v0 v1 v2 v3 x v5 (u.setCell ⟨B,4,none⟩ x):=by
 obtain ⟨c0,c1,c2,c3,c4,c5,z0,z1,z2,z3,z4,z5⟩:=h
 exact ⟨by simp [go_sem,c0],by simp [go_sem,c1],by simp [go_sem,c2],by simp [go_sem,c3],by simp [go_sem,c4],by simp [go_sem,c5],by simp [go_sem,z0],by simp [go_sem,z1],by simp [go_sem,z2],by simp [go_sem,z3],by simp [go_sem,z4],by simp [go_sem,z5]⟩
theorem Z6.set5 {B:Nat} {v0 v1 v2 v3 v4 v5:Value} {u:World} (h:Z6 B v0 v1 v2 v3 v4 v5 u) (x:Value):Z6 B v0 v1 v2 v3 v4 x (u.setCell ⟨B,5,none⟩ x):=by
 obtain ⟨c0,c1,c2,c3,c4,c5,z0,z1,z2,z3,z4,z5⟩:=h
 exact ⟨by simp [go_sem,c0],by simp [go_sem,c1],by simp [go_sem,c2],by simp [go_sem,c3],by simp [go_sem,c4],by simp [go_sem,c5],by simp [go_sem,z0],by simp [go_sem,z1],by simp [go_sem,z2],by simp [go_sem,z3],by simp [go_sem,z4],by simp [go_sem,z5]⟩
theorem Z6.new (w:World) (v0 v1 v2 v3 v4 v5:Value) (ty:TypeId):Z6 w.heap.size v0 v1 v2 v3 v4 v5 (w.alloc (.cells #[v0,v1,v2,v3,v4,v5] ty)) :=
 ⟨by simp,by simp,by simp,by simp,by simp,by simp,by simp [go_sem],by simp [go_sem],by simp [go_sem],by simp [go_sem],by simp [go_sem],by simp [go_sem]⟩
theorem Z6.under {s B:Nat} {v0 v1 v2 v3 v4 v5:Value} {u u':World} (h:Z6 s v0 v1 v2 v3 v4 v5 u) (hb:Below B u u') (l:s<B):Z6 s v0 v1 v2 v3 v4 v5 u' :=
 ⟨(hb.cell (p:=⟨s,0,none⟩) l).trans h.c0,(hb.cell (p:=⟨s,1,none⟩) l).trans h.c1,(hb.cell (p:=⟨s,2,none⟩) l).trans h.c2,(hb.cell (p:=⟨s,3,none⟩) l).trans h.c3,(hb.cell (p:=⟨s,4,none⟩) l).trans h.c4,(hb.cell (p:=⟨s,5,none⟩) l).trans h.c5,(hb.frozen (p:=⟨s,0,none⟩) l).trans h.z0,(hb.frozen (p:=⟨s,1,none⟩) l).trans h.z1,(hb.frozen (p:=⟨s,2,none⟩) l).trans h.z2,(hb.frozen (p:=⟨s,3,none⟩) l).trans h.z3,(hb.frozen (p:=⟨s,4,none⟩) l).trans h.z4,(hb.frozen (p:=⟨s,5,none⟩) l).trans h.z5⟩
theorem row_far {u:World} {base n size B i:Nat} {t:TypeId} {v x:Value} {xs:List Value} (o:u.ownsRow base t size v n xs) (hB:B<base):(u.setCell ⟨B,i,none⟩ x).ownsRow base t size v n xs :=
 o.kept (row:=some B) ⟨rfl,rfl,rfl,by simp,fun j _ hj=>Below.heap_setCell _ _ _ _ (fun e=>hj (by rw [e]))⟩ (.inr fun h=>by have:=(o.lt _ h).1;omega)
theorem cases_news {w:World} {b off:Nat} {xs:List Cs} (h:CasesAt w (some ⟨b,off,none⟩) xs):∀ j u,(cscells xs)[j]?=some u→w.cell? ((⟨b,off,none⟩:Addr).add j)=some u:=by
 intro j u hj
 have hlt:j<xs.length*12:=by
  rw [← cscells_len]
  exact (List.getElem?_eq_some_iff.1 hj).1
 rcases h with rfl | ⟨b',off',hq,hb,hc⟩
 ·simp at hlt
 ·obtain ⟨rfl,rfl⟩:b=b'∧off=off':=by simpa using hq
  have e:((⟨b,off,none⟩:Addr).add j)=⟨b,off+j,none⟩:=by unfold Addr.add;split <;> simp_all
  obtain ⟨k0,k1,k2,k3,k4,k5,k6,k7,k8,k9,k10,k11⟩:=hc (j / 12) (by omega)
  have hat:=cscells_at xs (j / 12) (j % 12) (by omega) (by omega)
  rw [show j / 12*12+j % 12=j by omega,hj] at hat
  rw [e]
  rcases (show j % 12=0∨j % 12=1∨j % 12=2∨j % 12=3∨j % 12=4∨j % 12=5∨j % 12=6∨j % 12=7∨j % 12=8∨j % 12=9∨j % 12=10∨j % 12=11 by omega) with e | e | e | e | e | e | e | e | e | e | e | e
  ·rw [e] at hat
   rw [show off+j=off+j / 12*12 by omega,k0]
   exact hat.symm
  ·rw [e] at hat
   rw [show off+j=off+j / 12*12+1 by omega,k1]
   exact hat.symm
  ·rw [e] at hat
   rw [show off+j=off+j / 12*12+2 by omega,k2]
   exact hat.symm
  ·rw [e] at hat
   rw [show off+j=off+j / 12*12+3 by omega,k3]
   exact hat.symm
  ·rw [e] at hat
   rw [show off+j=off+j / 12*12+4 by omega,k4]
   exact hat.symm
  ·rw [e] at hat
   rw [show off+j=off+j / 12*12+5 by omega,k5]
   exact hat.symm
  ·rw [e] at hat
   rw [show off+j=off+j / 12*12+6 by omega,k6]
   exact hat.symm
  ·rw [e] at hat
   rw [show off+j=off+j / 12*12+7 by omega,k7]
   exact hat.symm
  ·rw [e] at hat
   rw [show off+j=off+j / 12*12+8 by omega,k8]
   exact hat.symm
  ·rw [e] at hat
   rw [show off+j=off+j / 12*12+9 by omega,k9]
   exact hat.symm
  ·rw [e] at hat
   rw [show off+j=off+j / 12*12+10 by omega,k10]
   exact hat.symm
  ·rw [e] at hat
   rw [show off+j=off+j / 12*12+11 by omega,k11]
   exact hat.symm
theorem run_append_cases (w:World) (base:Nat) (ty:TypeId) (v:Value) (n:Nat) (xs:List Value) (hown:w.ownsRow base 61 12 v n xs) (ao:Option Addr) (c:Nat) (az:List Cs) (hz:CasesAt w ao az)
  (hn:n+az.length≤5000000) (hbase:base≤w.heap.size) :
  ∃ v' w',(Builtin.append_ #[26,26] ty #[v,.slice ao az.length c]).run Tryz.prog w=.ok v' w'∧w'.ownsRow base 61 12 v' (n+az.length) (xs++cscells az)∧w.grownBy w' v.ownBlock ∧
   (v≠.slice none 0 0→v'≠.slice none 0 0):=by
 obtain ⟨i0,hi,hz0,hz1,hz2⟩:=info_parts infoC
 cases ao with
 | none =>
  have hf:az=[]:=by
   rcases hz with h | ⟨b,off,h,_⟩
   ·exact h
   ·cases h
  subst hf
  refine ⟨v,w,?_,by simpa [cscells] using hown,⟨rfl,rfl,rfl,Nat.le_refl _,fun _ _ _=>rfl⟩,id⟩
  have hu:=Tryz.underlying26
  rcases hown.2 with ⟨rfl,rfl⟩ | ⟨g,cap,cur,rfl,hbg,hg,hnc,hcm,hcs,htake⟩
  ·simp [Builtin.append_,run_underlying hu,sizeOf,typeInfo,hi,Builtin.lenOf,Builtin.firstCells]
  ·simp [Builtin.append_,run_underlying hu,sizeOf,typeInfo,hi,Builtin.lenOf,Builtin.firstCells,loadCells,hnc,storeCells]
 | some a =>
  have hnews:∀ j u,(cscells az)[j]?=some u→w.cell? (a.add j)=some u:=by
   rcases hz with rfl | ⟨b,off,hq,hb,hc⟩
   ·intro j u hj;simp [cscells] at hj
   ·obtain rfl:a=⟨b,off,none⟩:=by simpa using hq
    exact cases_news (.inr ⟨b,off,rfl,hb,hc⟩)
  obtain ⟨v',w',h1,h2,h3,h4,_⟩:=run_append_own_at (P:=Tryz.prog) w base 26 ty 61 i0 _ 12 96 Tryz.underlying26 hi hz0 hz1 hz2 rfl (by decide) v n xs hown a az.length c (cscells az) (cscells_len az) hnews (cscells_one az) (by unfold maxLen;omega) (by omega) hbase
  exact ⟨v',w',h1,h2,h3,fun hne h=>hne (h4.1 h).1⟩
theorem wpList_append_cases {ops:Array Oper} {rest:List Oper} {o:Oper} {a:Act} {Q:Exit→Act→World→Prop} (w:World) (hgd:o.guard=none) (s x:Operand)
  (ho:o.op=.call { callee:=.builtin .append,args:=#[s,x],argTypes:=#[26,26] }) (base:Nat) (v:Value) (n:Nat) (xs:List Value) (hs:a.eval s=v) (hown:w.ownsRow base 61 12 v n xs)
  (ao:Option Addr) (c:Nat) (az:List Cs) (hx:a.eval x=.slice ao az.length c) (hz:CasesAt w ao az) (hn:n+az.length≤5000000) (hbase:base≤w.heap.size)
  (h:∀ v' w',w'.ownsRow base 61 12 v' (n+az.length) (xs++cscells az)→w.grownBy w' v.ownBlock→(v≠.slice none 0 0→v'≠.slice none 0 0)→wpList Tryz.prog ops Q rest (a.put o.dst v') w'):wpList Tryz.prog ops Q (o::rest) a w:=by
 obtain ⟨v',w',hr,h1,h2,h3⟩:=run_append_cases w base o.type v n xs hown ao c az hz hn hbase
 exact Lib.wpList_append_run w hgd s x _ _ ho _ _ hs hx v' w' hr (h v' w' h1 h2 h3)
theorem caLit (w:World):(w.alloc (.cells #[] 61)).ownsRow w.heap.size 61 12 (.slice (some ⟨w.heap.size,0,none⟩) 0 0) 0 []:=World.ownsRow_lit w #[] 0 (Nat.le_refl _) (by unfold maxLen;omega) rfl
theorem below_grow (w:World) (q:Nat) (os:Array Obj):Below w.heap.size w (Go.Sort.grow (w.drewN q) os) :=
 ⟨rfl,rfl,rfl,by simp [Go.Sort.grow,World.drewN],fun k hk=>by simp [Go.Sort.grow,World.drewN,Array.getElem?_append,hk]⟩
theorem lineOk_is {a c m:Int} {v:Bool} (h:lnOk (a,c,m)=v) (hc:(Lit.int .i64 c).wf=true) (w:World) :
  Calls Tryz.prog 93 #[.agg #[.int .i64 a,.int .i64 c,.int .i64 m]] w fun e w'=>e=.returned (.bool v)∧Below w.heap.size w w':=by rw [← h];exact lineOk_any a c m w hc
theorem cmpLines_is {a b c x y z v:Int} (h:cmpL (a,b,c) (x,y,z)=v) (w:World) :
  Calls Tryz.prog 94 #[.agg #[.int .i64 a,.int .i64 b,.int .i64 c],.agg #[.int .i64 x,.int .i64 y,.int .i64 z]] w fun e w'=>e=.returned (.int .i64 v)∧Below w.heap.size w w' :=
 (cmpLines_any a b c x y z w).mono fun e w' ⟨he,q,os,hw⟩=>⟨by rw [he,h],by rw [hw];exact below_grow w q os⟩
theorem even_of {ls:List Ln} (h:linesOk none ls=true) (hl:ls.length≤400):ledgerOk ls=evB ls:=by
 have he:evenL ls=evB ls:=by
  rw [Bool.eq_iff_iff,evenL_iff fun x hx=>(lnOk_is (linesOk_mem h x hx)).2.1,evB,List.all_eq_true]
  simp
 simp [ledgerOk,h,hl,he]
theorem iLedgerOk_any (ao:Option Addr) (cap:Nat) (ls:List Ln) (w:World) (hz:LinesAt w ao ls) (hn:ls.length≤1099511627776) (hwf:∀ x ∈ ls,lnBd x) :
  Calls Tryz.prog 39 #[.agg #[.slice ao ls.length cap]] w fun e w'=>e=.returned (.bool (ledgerOk ls))∧Below w.heap.size w w':=by
 obtain ⟨W,hW⟩:∃ W,W=w.alloc (.cells #[.slice ao ls.length cap] 29):=⟨_,rfl⟩
 have bW:Below w.heap.size w W:=by rw [hW];go_grown
 have hWs:w.heap.size<W.heap.size:=by rw [hW];simp
 have k0:W.cell? ⟨w.heap.size,0,none⟩=some (.slice ao ls.length cap):=by rw [hW];simp
 have HK:Hid (W.cell? ⟨w.heap.size,0,none⟩=some (.slice ao ls.length cap)):=k0
 have HZ:Hid (LinesAt W ao ls):=hz.below bW
 have HWF:Hid (∀ x ∈ ls,lnBd x):=hwf
 clear hz hwf
 by_cases h4:(400:Int)<(ls.length:Int)
 ·have HE:Hid (ledgerOk ls=false):=by
    have:¬ ls.length≤400:=by omega
    simp [Hid,ledgerOk,this]
  go_enter Tryz.func39,Tryz.ntmps39
  go_wp2
  go_ret
  rw [← hW]
  exact ⟨one_bool HE.out.symm,bW⟩
 have hl4:ls.length≤400:=by omega
 go_enter Tryz.func39,Tryz.ntmps39
 go_wp2
 rw [← hW]
 clear hW
 go_loopw [12] (fun i wr=>∃ k:Nat,k≤ls.length∧i=.int .i64 k∧linesOk none ls=linesOk (prevL ls k) (ls.drop k)∧Below W.heap.size W wr) (fun i _=>ls.length - (intOf i).toNat)
 case atStart=>exact ⟨0,Nat.zero_le _,rfl,rfl,Below.refl _ _⟩
 case round =>
  obtain ⟨k,hk,rfl,hok,hbr⟩:=hrel
  have HOK:Hid _:=hok
  have hbs:=hbr.size
  have hws:w.heap.size<wr.heap.size:=Nat.lt_of_lt_of_le hWs hbs
  clear hok k0
  by_cases hlt:k<ls.length
  ·have hki:(k:Int)<(ls.length:Int):=by omega
   obtain ⟨b,off,rfl,hb2,c1,c2,c3⟩:=(HZ.out.below hbr).at hlt
   have hst:=linesOk_step ls k hlt
   have hwk:=HWF.out _ (lnAt_mem hlt)
   obtain ⟨p,hp⟩:∃ p,prevL ls k=p:=⟨_,rfl⟩
   have HP:Hid _:=hp
   rw [hp] at hst HOK
   obtain ⟨⟨x,y,z⟩,hx⟩:∃ x,lnAt ls k=x:=⟨_,rfl⟩
   rw [hx] at c1 c2 c3 hst hwk
   simp only at c1 c2 c3
   have HWK:Hid ((Lit.int .i64 y).wf=true):=hwk.2.1
   have HST:Hid _:=HOK.out.trans hst
   obtain ⟨V,hV⟩:∃ V,V=wr.alloc (.cells #[.int .i64 x,.int .i64 y,.int .i64 z] 113):=⟨_,rfl⟩
   have bV:Below W.heap.size W V:=by rw [hV];exact hbr.alloc hbs _
   have hVs:V.heap.size=wr.heap.size+1:=by rw [hV];simp
   have v0:V.cell? ⟨wr.heap.size,0,none⟩=some (.int .i64 x):=by rw [hV];simp
   have v1:V.cell? ⟨wr.heap.size,1,none⟩=some (.int .i64 y):=by rw [hV];simp
   have v2:V.cell? ⟨wr.heap.size,2,none⟩=some (.int .i64 z):=by rw [hV];simp
   have l0:=(bV.cell (p:=⟨w.heap.size,0,none⟩) hWs).trans HK.out
   have HBV:Hid (Below W.heap.size W V):=bV
   have HBW:Hid (Below w.heap.size w W):=bW
   have hVw:W.heap.size≤V.heap.size:=bV.size
   have hne:=over_ne V
   have g0:=over_cell v0
   have g1:=over_cell v1
   have g2:=over_cell v2
   have g3:=over_cell l0
   have HLV:Hid (LinesAt V (some ⟨b,off,none⟩) ls):=HZ.out.below bV
   go_upto_region 6 with fail
   rw [← hV]
   clear hV hst hx hp HOK hwk bV bW hbr c1 c2 c3
   cases h1:lnOk (x,y,z)
   ·have HE:Hid (ledgerOk ls=false):=by
      unfold ledgerOk
      rw [Hid,HST.out,h1];rfl
    have H1:Hid _:=h1
    clear h1 HST
    refine wp_region_over (by kernel_rfl) (by kernel_rfl) ?_
    repeat (go_big_quiet_step (exact over_of (lineOk_is H1.out HWK.out _)))
    refine wpQuiet_nil ?_
    rintro _ ⟨⟨u1,q1⟩,hu1⟩
    subst hu1
    go_wp2
    go_ret
    exact ⟨one_bool HE.out.symm,HBW.out.trans ((HBV.out.trans (q1.mono hVw)).mono HBW.out.size)⟩
   have H1:Hid _:=h1
   have HST2:Hid (linesOk none ls=(behindP p (x,y,z) && linesOk (prevL ls (k+1)) (ls.drop (k+1)))):=by rw [Hid,HST.out,h1];rfl
   clear h1 HST
   cases k with
   | zero =>
    have HN:Hid (linesOk none ls=linesOk (prevL ls (0+1)) (ls.drop (0+1))):=by
     have hp0:p=none:=by rw [← HP.out];rfl
     rw [Hid,HST2.out,hp0];rfl
    clear HST2 HP
    refine wp_region_over (by kernel_rfl) (by kernel_rfl) ?_
    repeat (go_big_quiet_step (exact over_of (lineOk_is H1.out HWK.out _)))
    refine wpQuiet_nil ?_
    rintro _ ⟨⟨u1,q1⟩,hu1⟩
    subst hu1
    go_wp2
    go_roundw
    case rel=>exact ⟨1,by omega,by go_num,HN.out,HBV.out.trans (q1.mono hVw)⟩
    case measure=>simp [intOf];omega
   | succ k =>
    have hpe:p=some (lnAt ls k):=by rw [← HP.out];simp [prevL]
    obtain ⟨b',off',hao,hb',e1,e2,e3⟩:=HLV.out.at (k:=k) (by omega)
    obtain ⟨rfl,rfl⟩:b=b'∧off=off':=by simpa using hao
    obtain ⟨⟨x',y',z'⟩,hx'⟩:∃ x,lnAt ls k=x:=⟨_,rfl⟩
    rw [hx'] at e1 e2 e3 hpe
    simp only at e1 e2 e3
    subst hpe
    have HLT:Hid (linesOk none ls=(lnLt (x',y',z') (x,y,z) && linesOk (prevL ls (k+1+1)) (ls.drop (k+1+1)))):=HST2.out
    have hk1:((k+1:Nat):Int) - 1=(k:Int):=by omega
    have hk2:(0:Int)<((k+1:Nat):Int):=by omega
    have hkl:(k:Int)<(ls.length:Int):=by omega
    have g4:=over_cell e1
    have g5:=over_cell e2
    have g6:=over_cell e3
    have hkz:decide (0<k+1)=true:=by simp
    obtain ⟨v,hv⟩:∃ v,cmpL (x',y',z') (x,y,z)=v:=⟨_,rfl⟩
    have hiff:=cmpL_lt (x',y',z') (x,y,z)
    rw [hv] at hiff
    have HV:Hid _:=hv
    have HIF:Hid _:=hiff
    clear HST2 HP hx' hao HLV hv hiff
    by_cases h2:0≤v
    ·have hdn:decide (0≤v)=true:=by simpa using h2
     have HE:Hid (ledgerOk ls=false):=by
      have:lnLt (x',y',z') (x,y,z)=false:=by
       cases h:lnLt (x',y',z') (x,y,z)
       ·rfl
       ·have:=HIF.out.2 h;omega
      unfold ledgerOk
      rw [Hid,HLT.out,this];rfl
     clear HLT HIF
     refine wp_region_over (by kernel_rfl) (by kernel_rfl) ?_
     repeat (go_big_quiet_step (first | exact over_of (lineOk_is H1.out HWK.out _) | exact over_of (cmpLines_is HV.out _)))
     refine wpQuiet_nil ?_
     rintro _ ⟨⟨u1,q1⟩,hu1⟩
     subst hu1
     go_wp2
     go_ret
     exact ⟨one_bool HE.out.symm,HBW.out.trans ((HBV.out.trans (q1.mono hVw)).mono HBW.out.size)⟩
    ·have hdn:decide (0≤v)=false:=by simpa using h2
     have HN:Hid (linesOk none ls=linesOk (prevL ls (k+1+1)) (ls.drop (k+1+1))):=by
      rw [Hid,HLT.out,HIF.out.1 (by omega)];rfl
     clear HLT HIF
     refine wp_region_over (by kernel_rfl) (by kernel_rfl) ?_
     repeat (go_big_quiet_step (first | exact over_of (lineOk_is H1.out HWK.out _) | exact over_of (cmpLines_is HV.out _)))
     refine wpQuiet_nil ?_
     rintro _ ⟨⟨u1,q1⟩,hu1⟩
     subst hu1
     go_wp2
     go_roundw
     case rel=>exact ⟨k+1+1,by omega,by go_num,HN.out,HBV.out.trans (q1.mono hVw)⟩
     case measure=>simp [intOf];omega
  ·have hke:k=ls.length:=by omega
   subst hke
   have hki:¬ (ls.length:Int)<(ls.length:Int):=by omega
   have hall:linesOk none ls=true:=by rw [HOK.out,linesOk_end]
   have HE:Hid (ledgerOk ls=evB ls):=even_of hall hl4
   have HBD:Hid (∀ x ∈ ls,-1000000000000≤x.2.2∧x.2.2≤1000000000000):=fun x hx=>(lnOk_is (linesOk_mem hall x hx)).2.2.1
   have l0:=(hbr.cell (p:=⟨w.heap.size,0,none⟩) hWs).trans HK.out
   have q0:=next bW hbr
   have HZR:Hid (LinesAt wr ao ls):=HZ.out.below hbr
   clear HOK hall hbr bW
   go_wp2_with fail
   refine (even_any _ _ _ _ HZR.out hl4 HBD.out (fun x hx=>(HWF.out x hx).2.1)).mono ?_
   rintro e u1 ⟨rfl,b1⟩
   have q1:=next q0 b1
   obtain ⟨V,hV⟩:∃ V,evB ls=V:=⟨_,rfl⟩
   rw [hV] at HE ⊢
   clear b1 q0 hV
   go_wp2
   go_ret
   exact ⟨one_bool HE.out.symm,q1⟩
end Go.Proofs.YtomiclakhjncbaaGreatDoor
