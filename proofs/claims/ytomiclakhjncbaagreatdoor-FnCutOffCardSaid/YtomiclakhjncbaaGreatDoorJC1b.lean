import Derived.Test.YtomiclakhjncbaaGreatDoorJC1a
import Derived.Test.YtomiclakhjncbaaGreatDoorCards
import Derived.Test.YtomiclakhjncbaaGreatDoorTie
import Derived.LaidMore
import Derived.Deep.DeepHandedRow
import Derived.Lay
import Derived.Stop.LaidErr
set_option maxRecDepth 100000
set_option maxHeartbeats 12800000
namespace Go.Proofs.YtomiclakhjncbaaGreatDoor
open Go.RowKit Go.Maps Go.Proofs.Tryz
theorem iZ {f:Int→Int→Option Int} {a c m v:Int} (hv:(f a c).getD 0=v) (h0:v+m=0):iD f a c m=fun a' c'=>if a'=a∧c'=c then none else if a'=a∧c'=c then some (v+m) else f a' c':=by
 funext a' c'
 unfold iD
 by_cases he:a'=a∧c'=c
 ·rw [if_pos he,if_pos he,hv,if_pos h0]
 ·rw [if_neg he,if_neg he,if_neg he]
theorem iG {f:Int→Int→Option Int} {a c m v:Int} (hv:(f a c).getD 0=v) (h0:v+m≠0):iD f a c m=fun a' c'=>if a'=a∧c'=c then some (v+m) else f a' c':=by
 funext a' c'
 unfold iD
 by_cases he:a'=a∧c'=c
 ·rw [if_pos he,if_pos he,hv,if_neg h0]
 ·rw [if_neg he,if_neg he]
theorem U6 (b n:Nat) (f:Int→Int→Option Int) (a c m v:Int) (w:World) (h:F5 w b n f) (ha:Bf a) (hc:Bf c) (hv:(f a c).getD 0=v) (hbd:-9000000000000000000≤v+m∧v+m≤9000000000000000000) (hn:n<maxLen) :
  Calls prog 315 #[.map (some b),.agg #[.int .i64 a,.int .i64 c],.int .i64 m] w fun e w'=>e=.returned (.tuple #[])∧F5 w' b (n+1) (iD f a c m)∧w.grownBy w' (some b):=by
 obtain ⟨W0,hW0⟩:∃ W0,W0=w.alloc (.cells #[.int .i64 a,.int .i64 c] 128):=⟨_,rfl⟩;have hbl:b<w.heap.size:=h.lt
 have k0:W0.cell? ⟨w.heap.size,0,none⟩=some (.int .i64 a):=by rw [hW0];simp
 have k1:W0.cell? ⟨w.heap.size,1,none⟩=some (.int .i64 c):=by rw [hW0];simp
 have hs0:w.heap.size<W0.heap.size:=by rw [hW0];simp
 have G0:w.grownBy W0 (some b):=by rw [hW0];exact World.grownBy_alloc w _ _
 have M0:F5 W0 b n f:=by rw [hW0];exact h.kept (World.grownBy_alloc w _ none) (by simp)
 have M1:F5 W0.drew b n f:=M0
 obtain ⟨st,W1,W2,hE,hL,hL1,hS,hL2,hg1,hg2,M2⟩:=gM (m:=m) M1 ha hc hv (WalkArith.wf_i64 (by omega)) hn
 have hwr:IntKind.i64.wrap (v+m)=v+m:=by simp [IntKind.wrap,IntKind.bits,IntKind.signed];omega
 have x0:=(hg1.cell_far ⟨w.heap.size,0,none⟩ hs0 (by simp;omega)).trans k0
 have x1:=(hg1.cell_far ⟨w.heap.size,1,none⟩ hs0 (by simp;omega)).trans k1
 have y0:=(hg2.cell_far ⟨w.heap.size,0,none⟩ hs0 (by simp;omega)).trans k0
 have y1:=(hg2.cell_far ⟨w.heap.size,1,none⟩ hs0 (by simp;omega)).trans k1
 have G2:W0.grownBy W2 (some b):=⟨hg2.os,hg2.tape,hg2.output,hg2.size,hg2.block⟩;have HG:Hid (w.grownBy W2 (some b)):=G0.trans G2
 have HM:Hid (F5 W2 b (n+1) (fun a' c'=>if a'=a∧c'=c then some (v+m) else f a' c')):=M2
 have HKY:Hid _:=L9 ha hc;have HA:Hid (Bf a):=ha;have HC:Hid (Bf c):=hc;clear h M0 M1 M2 hg1 hg2 G0 G2 ha hc
 by_cases h0:v+m=0
 ·have h0':(v+m == 0)=true:=by simpa using h0
  have HU:Hid _:=iZ hv h0;clear h0 hv
  go_enter func315,ntmps315
  go_upto_region 1 with fail
  rw [← hW0];clear hW0
  go_region
  all_goals
   obtain ⟨D,hown,hview,hwf⟩:=HM.o;have HO:Hid (W2.ownsMap prog 128 (plainElem (H:=Unit) prog 3) b (n+1) D):=hown;have HV:Hid _:=eN hview HA.o HC.o;have HWF:Hid _:=hwf;clear hown hview hwf
   go_wp2_with (at_delete;refine wpList_delete_own _ rfl _ _ 338 128 rfl 3 Tx underlying338 _ b (n+1) D rfl HO.o _ _ rfl HKY.o ?_;intro w3 hown3 hturn3)
   have hg3:=hturn3.grown;go_end0;refine ⟨rfl,⟨_,hown3,?_,?_⟩,HG.o.trans hg3⟩
   ·rw [HU.o];exact HV.o
   ·rw [HU.o]
    intro a' c' hf
    by_cases he:a'=a∧c'=c
    ·simp only [if_pos he] at hf;exact absurd rfl hf
    ·simp only [if_neg he] at hf
     exact HWF.o a' c' (by simp only [if_neg he];exact hf)
 ·have h0':(v+m == 0)=false:=by simpa using h0
  have HU:Hid _:=iG hv h0;clear h0 hv
  go_enter func315,ntmps315
  go_upto_region 1 with fail
  rw [← hW0];clear hW0
  go_region
  all_goals
   go_wp2;go_end0;refine ⟨rfl,?_,HG.o⟩
   rw [HU.o];exact HM.o
theorem eZ (w:World):F5 (w.alloc (.map #[] 0)) w.heap.size 0 (Cf []) :=
 ⟨.map [],World.ownsMap_made w prog 128 (plainElem (H:=Unit) prog 3),fun _ _ _ _=>⟨rfl,rfl⟩,fun _ _ h=>absurd rfl h⟩
theorem tP {ls:List Ln} (h:∀ x ∈ ls,-1000000000000≤x.2.2∧x.2.2≤1000000000000) (a c:Int):-1000000000000≤(Cf ls a c).getD 0∧(Cf ls a c).getD 0≤1000000000000:=by
 cases hl:Cf ls a c with
 | none=>simp
 | some v=>have:=h _ (Mr hl);simpa using this
theorem Ut (ao:Option Addr) (cap:Nat) (ls:List Ln) (w:World) (hz:Ai w ao ls) (hn:ls.length≤400) (hs:Va ls) (hnz:NZ ls) (hbd:∀ x ∈ ls,-1000000000000≤x.2.2∧x.2.2≤1000000000000) (hwf:∀ x ∈ ls,Hw x) :
  Calls prog 314 #[.agg #[.slice ao ls.length cap]] w fun e w'=>∃ g,e=.returned (.map (some g))∧w.heap.size≤g∧F5 w' g ls.length (Cf ls)∧BW w w':=by
 have hmm:=@run_makeMap prog;obtain ⟨W,hW⟩:∃ W,W=(w.alloc (.cells #[.slice ao ls.length cap] 29)).alloc (.map #[] 0):=⟨_,rfl⟩
 have bW:BW w W:=by rw [hW];go_grown
 have hWs:W.heap.size=w.heap.size+2:=by rw [hW];simp
 have k0:W.cell? ⟨w.heap.size,0,none⟩=some (.slice ao ls.length cap):=by rw [hW];simp [go_sem]
 have M0:F5 W (w.heap.size+1) 0 (Cf []):=by
  have:=eZ (w.alloc (.cells #[.slice ao ls.length cap] 29))
  rw [hW];simpa using this
 have HZ:Hid (Ai w ao ls):=hz;have HS:Hid (Va ls):=hs;have HNZ:Hid (NZ ls):=hnz;have HBD:Hid (∀ x ∈ ls,-1000000000000≤x.2.2∧x.2.2≤1000000000000):=hbd;have HWF:Hid (∀ x ∈ ls,Hw x):=hwf;have HWB:Hid (BW w W):=bW;have HM0:Hid _:=M0;clear hz hs hnz hbd hwf bW M0
 go_enter func314,ntmps314
 go_wp2;rw [← hW];clear hW
 go_loopw [10] (fun i wr=>∃ k:Nat,k≤ls.length∧i=.int .i64 k∧F5 wr (w.heap.size+1) k (Cf (ls.take k))∧BW w wr) (fun i _=>ls.length - (intOf i).toNat)
 case atStart=>exact ⟨0,Nat.zero_le _,rfl,HM0.o,HWB.o⟩
 case round =>
  obtain ⟨k,hk,rfl,hM,hbr⟩:=hrel;have HM:Hid (F5 wr (w.heap.size+1) k (Cf (ls.take k))):=hM;have hsz:w.heap.size≤wr.heap.size:=hbr.size;have hMl:w.heap.size+1<wr.heap.size:=hM.lt;clear hM HM0
  by_cases hlt:k<ls.length
  ·have hki:(k:Int)<(ls.length:Int):=by omega
   obtain ⟨b,off,rfl,hb2,c1,c2,c3⟩:=(HZ.o.below hbr).at hlt;have hLT:=fN HS.o HNZ.o hlt;have hbk:=HBD.o _ (Ex hlt);have hwk:=HWF.o _ (Ex hlt);obtain ⟨⟨x,y,z⟩,hx⟩:∃ x,Cg ls k=x:=⟨_,rfl⟩;rw [hx] at c1 c2 c3 hLT hbk hwk
   simp only at c1 c2 c3 hLT hbk
   have hlb:=tP (ls:=ls.take k) (fun q hq=>HBD.o q (List.mem_of_mem_take hq)) x y
   have HLT:Hid _:=hLT;have HWK:Hid (Bf x∧Bf y∧Bf z):=hwk;obtain ⟨V,hV⟩:∃ V,V=wr.alloc (.cells #[.int .i64 x,.int .i64 y,.int .i64 z] 113):=⟨_,rfl⟩
   have bV:BW w V:=by rw [hV];exact hbr.alloc hsz _
   have hVs:V.heap.size=wr.heap.size+1:=by rw [hV];simp
   have MV:F5 V (w.heap.size+1) k (Cf (ls.take k)):=by rw [hV];exact HM.o.kept (World.grownBy_alloc wr _ none) (by simp)
   have v0:V.cell? ⟨wr.heap.size,0,none⟩=some (.int .i64 x):=by rw [hV];simp
   have v1:V.cell? ⟨wr.heap.size,1,none⟩=some (.int .i64 y):=by rw [hV];simp
   have v2:V.cell? ⟨wr.heap.size,2,none⟩=some (.int .i64 z):=by rw [hV];simp
   obtain ⟨t,ht⟩:∃ t,(Cf (ls.take k) x y).getD 0=t:=⟨_,rfl⟩;rw [ht] at hlb;have HT:Hid _:=ht;have HBV:Hid (BW w V):=bV;have HMV:Hid (F5 V (w.heap.size+1) k (Cf (ls.take k))):=MV;have HVW:Hid (w.heap.size≤V.heap.size):=bV.size
   have HKP:Hid (∀ u,BW V u→u.cell? ⟨wr.heap.size,0,none⟩=some (.int .i64 x)∧u.cell? ⟨wr.heap.size,1,none⟩=some (.int .i64 y)∧u.cell? ⟨wr.heap.size,2,none⟩=some (.int .i64 z)):=fun u hu =>
    ⟨(hu.cell (p:=⟨wr.heap.size,0,none⟩) (by show wr.heap.size<V.heap.size;omega)).trans v0,(hu.cell (p:=⟨wr.heap.size,1,none⟩) (by show wr.heap.size<V.heap.size;omega)).trans v1,(hu.cell (p:=⟨wr.heap.size,2,none⟩) (by show wr.heap.size<V.heap.size;omega)).trans v2⟩
   have HADD:Hid (∀ u,BW V u→Calls prog 315 #[.map (some (w.heap.size+1)),.agg #[.int .i64 x,.int .i64 y],.int .i64 z] u fun e u'=>e=.returned (.tuple #[])∧F5 u' (w.heap.size+1) (k+1) (Cf (ls.take (k+1)))∧u.grownBy u' (some (w.heap.size+1))):=fun u hu=>by
    rw [HLT.o]
    exact U6 (w.heap.size+1) k _ x y z t u (HMV.o.below hu) HWK.o.1 HWK.o.2.1 HT.o ⟨by omega,by omega⟩ (by unfold maxLen;omega)
   clear hLT hx ht hwk hbk MV bV hbr hlb;go_upto_region 5 with fail
   rw [← hV];clear hV c1 c2 c3
   go_region_held3 (fun u=>u.cell? ⟨wr.heap.size,0,none⟩=some (.int .i64 x)∧u.cell? ⟨wr.heap.size,1,none⟩=some (.int .i64 y)∧u.cell? ⟨wr.heap.size,2,none⟩=some (.int .i64 z)) (first | exact ⟨v0,v1,v2⟩ | exact HKP.o _ q1 | exact HKP2.o) ((first
    | (go_at_call 107;refine (kH _ _ _ _).mono ?_;rintro e u1 ⟨rfl,b1⟩;have q1:BW V u1:=bR.drew.trans b1)
    | (go_at_call 315;refine (HADD.o _ q1).mono ?_;rintro e u2 ⟨rfl,m2,g2⟩;have HKP2:Hid (u2.cell? ⟨wr.heap.size,0,none⟩=some (.int .i64 x)∧u2.cell? ⟨wr.heap.size,1,none⟩=some (.int .i64 y)∧u2.cell? ⟨wr.heap.size,2,none⟩=some (.int .i64 z)):=⟨(g2.cell_far ⟨wr.heap.size,0,none⟩ (by have:=q1.size;show wr.heap.size<u1.heap.size;omega) (by simp;omega)).trans (HKP.o _ q1).1,(g2.cell_far ⟨wr.heap.size,1,none⟩ (by have:=q1.size;show wr.heap.size<u1.heap.size;omega) (by simp;omega)).trans (HKP.o _ q1).2.1,(g2.cell_far ⟨wr.heap.size,2,none⟩ (by have:=q1.size;show wr.heap.size<u1.heap.size;omega) (by simp;omega)).trans (HKP.o _ q1).2.2⟩)))
   all_goals
    have HM2:Hid _:=m2
    have q2:BW w u2:=(HBV.o.trans (q1.mono HVW.o)).grown g2 (HBV.o.trans (q1.mono HVW.o)).size (fun j hj=>by cases hj;omega)
    clear m2 g2 q1 b1 HKP HADD HKP2;go_wp2
    go_roundw
    case rel=>exact ⟨k+1,by omega,by go_num,HM2.o,q2⟩
    case measure=>simp [intOf];omega
  ·have hke:k=ls.length:=by omega
   subst hke
   have hki:¬ (ls.length:Int)<(ls.length:Int):=by omega
   rw [List.take_length] at HM;go_wp2;go_ret
   exact ⟨w.heap.size+1,rfl,by omega,HM.o,hbr⟩
end Go.Proofs.YtomiclakhjncbaaGreatDoor
namespace Go.Proofs.YtomiclakhjncbaaGreatDoor
open Go.RowKit Go.Proofs.Tryz
def Sx (t:Int) (zs:List Int):Bool:=Dn t && Ct zs
def bsT (t:Int) (zs:List Int):Int:=if Sx t zs=true then t else 0
def bsL (t:Int) (zs:List Int):List Int:=if Sx t zs=true then zs else []
def bk0 (t:Int) (a:Option Addr) (n k:Nat):Value:=.agg #[.int .i64 t,.slice a n k,.slice none 0 0,.slice none 0 0,.slice none 0 0,.slice none 0 0]
def BsR (w:World) (t:Int) (zs:List Int) (e:Ending) (w':World):Prop :=
 ∃ a k,e=.returned (.tuple #[bk0 (bsT t zs) a (bsL t zs).length k,.bool (Sx t zs)])∧w'.ownsRow w.heap.size 3 1 (.slice a (bsL t zs).length k) (bsL t zs).length ((bsL t zs).map (Value.int .i64))∧BW w w'
def put6 (u:World) (h:Nat) (a b c d e f:Value):World:=((((((u.setCell ⟨h,0,none⟩ a).setCell ⟨h,1,none⟩ b).setCell ⟨h,2,none⟩ c).setCell ⟨h,3,none⟩ d).setCell ⟨h,4,none⟩ e).setCell ⟨h,5,none⟩ f)
theorem _root_.Go.RowKit.Below.put6 {w u:World} (h:BW w u) (a b c d e f:Value):Below w.heap.size w (put6 u w.heap.size a b c d e f) :=
 (((((h.setCell nL _).setCell nL _).setCell nL _).setCell nL _).setCell nL _).setCell nL _
theorem wQ {w u:World} {t:Int} {zs:List Int} (h:Sx t zs=false) (b:BW w u):BsR w t zs (.returned (.tuple #[bk0 0 none 0 0,.bool false])) u:=by
 have e1:bsT t zs=0:=by simp [bsT,h]
 have e2:bsL t zs=[]:=by simp [bsL,h]
 refine ⟨none,0,?_,?_,b⟩
 ·rw [e1,e2,h];rfl
 ·rw [e2];exact World.ownsRow_nil _ _ _ _
theorem yF {w:World} {base base' n:Nat} {v:Value} {xs:List Value} (h:w.ownsRow base 3 1 v n xs) (hb:base'≤base):w.ownsRow base' 3 1 v n xs:=by
 obtain ⟨h1,h2⟩:=h;refine ⟨h1,?_⟩
 rcases h2 with h2 | ⟨g,cap,cQ,e1,e2,e3⟩
 ·exact .inl h2
 ·exact .inr ⟨g,cap,cQ,e1,Nat.le_trans hb e2,e3⟩
theorem wB (u:World) (h:Nat) (a b c d e f:Value):u.grownBy (put6 u h a b c d e f) (some h):=by
 have g:∀ (x:World) (k:Nat) (v:Value),x.grownBy (x.setCell ⟨h,k,none⟩ v) (some h):=fun x k v=>⟨rfl,rfl,rfl,by simp,fun j _ hj=>Below.heap_setCell _ _ _ _ (fun e=>hj (by rw [e]))⟩
 exact (((((g _ _ _).trans (g _ _ _)).trans (g _ _ _)).trans (g _ _ _)).trans (g _ _ _)).trans (g _ _ _)
theorem yP {w u:World} {t:Int} {zs:List Int} {a:Option Addr} {k base:Nat} (h:Sx t zs=true) (o:u.ownsRow base 3 1 (.slice a zs.length k) zs.length (zs.map (Value.int .i64))) (hb:w.heap.size+1≤base) (b:BW w u) :
  BsR w t zs (.returned (.tuple #[bk0 t a zs.length k,.bool true])) (put6 u w.heap.size (.int .i64 t) (.slice a zs.length k) (.slice none 0 0) (.slice none 0 0) (.slice none 0 0) (.slice none 0 0)):=by
 have e1:bsT t zs=t:=by simp [bsT,h]
 have e2:bsL t zs=zs:=by simp [bsL,h]
 refine ⟨a,k,?_,?_,b.put6 _ _ _ _ _ _⟩
 ·rw [e1,e2,h]
 ·rw [e2]
  exact yF (o.kept (wB _ _ _ _ _ _ _ _) (.inr fun hh=>by have:=(o.lt _ hh).1;omega)) (by omega)
theorem zZ (t:Int) (ao:Option Addr) (c:Nat) (zs:List Int) (w:World) (hx:Aw w ao zs) (hn:zs.length≤1048576) :
  Calls prog 44 #[.int .i64 t,.slice ao zs.length c] w (BsR w t zs):=by
 obtain ⟨W,hW⟩:∃ W,W=w.alloc (.cells #[.int .i64 0,.slice none 0 0,.slice none 0 0,.slice none 0 0,.slice none 0 0,.slice none 0 0] 31):=⟨_,rfl⟩
 have c0:W.cell? ⟨w.heap.size,0,none⟩=some (.int .i64 0):=by rw [hW];simp
 have z0:W.frozen? ⟨w.heap.size,0,none⟩=false:=by rw [hW];simp [go_sem]
 have c1:W.cell? ⟨w.heap.size,1,none⟩=some (.slice none 0 0):=by rw [hW];simp
 have z1:W.frozen? ⟨w.heap.size,1,none⟩=false:=by rw [hW];simp [go_sem]
 have c2:W.cell? ⟨w.heap.size,2,none⟩=some (.slice none 0 0):=by rw [hW];simp
 have z2:W.frozen? ⟨w.heap.size,2,none⟩=false:=by rw [hW];simp [go_sem]
 have c3:W.cell? ⟨w.heap.size,3,none⟩=some (.slice none 0 0):=by rw [hW];simp
 have z3:W.frozen? ⟨w.heap.size,3,none⟩=false:=by rw [hW];simp [go_sem]
 have c4:W.cell? ⟨w.heap.size,4,none⟩=some (.slice none 0 0):=by rw [hW];simp
 have z4:W.frozen? ⟨w.heap.size,4,none⟩=false:=by rw [hW];simp [go_sem]
 have c5:W.cell? ⟨w.heap.size,5,none⟩=some (.slice none 0 0):=by rw [hW];simp
 have z5:W.frozen? ⟨w.heap.size,5,none⟩=false:=by rw [hW];simp [go_sem]
 have bW:BW w W:=by rw [hW];go_grown
 have hWs:W.heap.size=w.heap.size+1:=by rw [hW];simp
 have HW:Hid _:=hW;have HX:Hid (Aw W ao zs):=hx.below bW;have HBW:Hid (BW w W):=bW;have HWS:Hid (W.heap.size=w.heap.size+1):=hWs;clear hx bW hWs hW
 have HDK:Hid (∀ u,Calls prog 99 #[.int .i64 t] u fun e w'=>e=.returned (.bool (Dn t))∧w'=u):=fun u=>Bm t u
 have HOK:Hid (Calls prog 100 #[.slice ao zs.length c] W fun e w'=>e=.returned (.bool (Ct zs))∧BW W w'):=(Pp ao c zs W HX.o (by omega)).mono fun _ _ ⟨h,h2⟩=>⟨h,h2 ▸ bR⟩
 cases hd:Dn t
 ·have HB:Hid (Sx t zs=false):=by simp [Hid,Sx,hd]
  rw [hd] at HDK
  go_enter func44,ntmps44
  go_upto_region 1 with fail
  rw [← HW.o];go_wp2_with fail
  refine (HDK.o _).mono ?_;rintro e w1 ⟨rfl,hw1⟩;replace hw1:=hw1.symm;subst hw1;go_wp2
  refine bodyPost_ret (by simp [results,results44,go_sem,c0,c1,c2,c3,c4,c5];try rfl) rfl ?_
  exact wQ HB.o (HBW.o.put6 _ _ _ _ _ _)
 ·rw [hd] at HDK
  cases ho:Ct zs
  ·have HB:Hid (Sx t zs=false):=by simp [Hid,Sx,ho]
   rw [ho] at HOK
   go_enter func44,ntmps44
   go_upto_region 1 with fail
   rw [← HW.o];go_wp2_with fail
   refine (HDK.o _).mono ?_;rintro e w1 ⟨rfl,hw1⟩;replace hw1:=hw1.symm;subst hw1;go_wp2_with fail
   refine HOK.o.mono ?_;rintro e w2 ⟨rfl,b2⟩
   replace c0:=(b2.cell (p:=⟨w.heap.size,0,none⟩) (by have:=HWS.o;show w.heap.size<W.heap.size;omega)).trans c0
   replace z0:=(b2.frozen (p:=⟨w.heap.size,0,none⟩) (by have:=HWS.o;show w.heap.size<W.heap.size;omega)).trans z0
   replace c1:=(b2.cell (p:=⟨w.heap.size,1,none⟩) (by have:=HWS.o;show w.heap.size<W.heap.size;omega)).trans c1
   replace z1:=(b2.frozen (p:=⟨w.heap.size,1,none⟩) (by have:=HWS.o;show w.heap.size<W.heap.size;omega)).trans z1
   replace c2:=(b2.cell (p:=⟨w.heap.size,2,none⟩) (by have:=HWS.o;show w.heap.size<W.heap.size;omega)).trans c2
   replace z2:=(b2.frozen (p:=⟨w.heap.size,2,none⟩) (by have:=HWS.o;show w.heap.size<W.heap.size;omega)).trans z2
   replace c3:=(b2.cell (p:=⟨w.heap.size,3,none⟩) (by have:=HWS.o;show w.heap.size<W.heap.size;omega)).trans c3
   replace z3:=(b2.frozen (p:=⟨w.heap.size,3,none⟩) (by have:=HWS.o;show w.heap.size<W.heap.size;omega)).trans z3
   replace c4:=(b2.cell (p:=⟨w.heap.size,4,none⟩) (by have:=HWS.o;show w.heap.size<W.heap.size;omega)).trans c4
   replace z4:=(b2.frozen (p:=⟨w.heap.size,4,none⟩) (by have:=HWS.o;show w.heap.size<W.heap.size;omega)).trans z4
   replace c5:=(b2.cell (p:=⟨w.heap.size,5,none⟩) (by have:=HWS.o;show w.heap.size<W.heap.size;omega)).trans c5
   replace z5:=(b2.frozen (p:=⟨w.heap.size,5,none⟩) (by have:=HWS.o;show w.heap.size<W.heap.size;omega)).trans z5
   have HB2:Hid (BW w w2):=next HBW.o b2;have HX2:Hid (Aw w2 ao zs):=HX.o.below b2
   have HS2:Hid (w.heap.size+1≤w2.heap.size):=by have h1:=HWS.o;have h2:=b2.size;rw [Hid];omega
   clear b2;go_wp2
   refine bodyPost_ret (by simp [results,results44,go_sem,c0,c1,c2,c3,c4,c5];try rfl) rfl ?_
   exact wQ HB.o (HB2.o.put6 _ _ _ _ _ _)
  ·have HB:Hid (Sx t zs=true):=by simp [Hid,Sx,ho,hd]
   rw [ho] at HOK
   go_enter func44,ntmps44
   go_upto_region 1 with fail
   rw [← HW.o];go_wp2_with fail
   refine (HDK.o _).mono ?_;rintro e w1 ⟨rfl,hw1⟩;replace hw1:=hw1.symm;subst hw1;go_wp2_with fail
   refine HOK.o.mono ?_;rintro e w2 ⟨rfl,b2⟩
   replace c0:=(b2.cell (p:=⟨w.heap.size,0,none⟩) (by have:=HWS.o;show w.heap.size<W.heap.size;omega)).trans c0
   replace z0:=(b2.frozen (p:=⟨w.heap.size,0,none⟩) (by have:=HWS.o;show w.heap.size<W.heap.size;omega)).trans z0
   replace c1:=(b2.cell (p:=⟨w.heap.size,1,none⟩) (by have:=HWS.o;show w.heap.size<W.heap.size;omega)).trans c1
   replace z1:=(b2.frozen (p:=⟨w.heap.size,1,none⟩) (by have:=HWS.o;show w.heap.size<W.heap.size;omega)).trans z1
   replace c2:=(b2.cell (p:=⟨w.heap.size,2,none⟩) (by have:=HWS.o;show w.heap.size<W.heap.size;omega)).trans c2
   replace z2:=(b2.frozen (p:=⟨w.heap.size,2,none⟩) (by have:=HWS.o;show w.heap.size<W.heap.size;omega)).trans z2
   replace c3:=(b2.cell (p:=⟨w.heap.size,3,none⟩) (by have:=HWS.o;show w.heap.size<W.heap.size;omega)).trans c3
   replace z3:=(b2.frozen (p:=⟨w.heap.size,3,none⟩) (by have:=HWS.o;show w.heap.size<W.heap.size;omega)).trans z3
   replace c4:=(b2.cell (p:=⟨w.heap.size,4,none⟩) (by have:=HWS.o;show w.heap.size<W.heap.size;omega)).trans c4
   replace z4:=(b2.frozen (p:=⟨w.heap.size,4,none⟩) (by have:=HWS.o;show w.heap.size<W.heap.size;omega)).trans z4
   replace c5:=(b2.cell (p:=⟨w.heap.size,5,none⟩) (by have:=HWS.o;show w.heap.size<W.heap.size;omega)).trans c5
   replace z5:=(b2.frozen (p:=⟨w.heap.size,5,none⟩) (by have:=HWS.o;show w.heap.size<W.heap.size;omega)).trans z5
   have HB2:Hid (BW w w2):=next HBW.o b2;have HX2:Hid (Aw w2 ao zs):=HX.o.below b2
   have HS2:Hid (w.heap.size+1≤w2.heap.size):=by have h1:=HWS.o;have h2:=b2.size;rw [Hid];omega
   clear b2;go_wp2_with fail
   refine (fC w2.heap.size ao c zs _ (by simp) (HX2.o.below (bR.alloc nL _)) (by omega)).mono ?_
   rintro e w3 ⟨a2,k2,rfl,o3,b3⟩
   have bb:BW w2 w3:=(bR.alloc nL _).trans (b3.mono (by simp))
   replace c0:=(bb.cell (p:=⟨w.heap.size,0,none⟩) (by have:=HS2.o;show w.heap.size<w2.heap.size;omega)).trans c0
   replace z0:=(bb.frozen (p:=⟨w.heap.size,0,none⟩) (by have:=HS2.o;show w.heap.size<w2.heap.size;omega)).trans z0
   replace c1:=(bb.cell (p:=⟨w.heap.size,1,none⟩) (by have:=HS2.o;show w.heap.size<w2.heap.size;omega)).trans c1
   replace z1:=(bb.frozen (p:=⟨w.heap.size,1,none⟩) (by have:=HS2.o;show w.heap.size<w2.heap.size;omega)).trans z1
   replace c2:=(bb.cell (p:=⟨w.heap.size,2,none⟩) (by have:=HS2.o;show w.heap.size<w2.heap.size;omega)).trans c2
   replace z2:=(bb.frozen (p:=⟨w.heap.size,2,none⟩) (by have:=HS2.o;show w.heap.size<w2.heap.size;omega)).trans z2
   replace c3:=(bb.cell (p:=⟨w.heap.size,3,none⟩) (by have:=HS2.o;show w.heap.size<w2.heap.size;omega)).trans c3
   replace z3:=(bb.frozen (p:=⟨w.heap.size,3,none⟩) (by have:=HS2.o;show w.heap.size<w2.heap.size;omega)).trans z3
   replace c4:=(bb.cell (p:=⟨w.heap.size,4,none⟩) (by have:=HS2.o;show w.heap.size<w2.heap.size;omega)).trans c4
   replace z4:=(bb.frozen (p:=⟨w.heap.size,4,none⟩) (by have:=HS2.o;show w.heap.size<w2.heap.size;omega)).trans z4
   replace c5:=(bb.cell (p:=⟨w.heap.size,5,none⟩) (by have:=HS2.o;show w.heap.size<w2.heap.size;omega)).trans c5
   replace z5:=(bb.frozen (p:=⟨w.heap.size,5,none⟩) (by have:=HS2.o;show w.heap.size<w2.heap.size;omega)).trans z5
   have HB3:Hid (BW w w3):=next HB2.o bb
   have HO3:Hid (w3.ownsRow (w.heap.size+1) 3 1 (.slice a2 zs.length k2) zs.length (zs.map (Value.int .i64))):=yF o3 (by have:=HS2.o;simp;omega)
   clear bb o3 b3;go_wp2
   refine bodyPost_ret (by simp [results,results44,go_sem,c0,c1,c2,c3,c4,c5];try rfl) rfl ?_
   exact yP HB.o HO3.o nL HB3.o
theorem vR (t:Int) (ao:Option Addr) (c:Nat) (zs:List Int) (w:World) (hx:Aw w ao zs) (hn:zs.length≤1048576) :
  Calls prog 45 #[.int .i64 t,.slice ao zs.length c] w (BsR w t zs):=by
 obtain ⟨W,hW⟩:∃ W,W=w.alloc (.cells #[.int .i64 0,.slice none 0 0,.slice none 0 0,.slice none 0 0,.slice none 0 0,.slice none 0 0] 31):=⟨_,rfl⟩
 have c0:W.cell? ⟨w.heap.size,0,none⟩=some (.int .i64 0):=by rw [hW];simp
 have z0:W.frozen? ⟨w.heap.size,0,none⟩=false:=by rw [hW];simp [go_sem]
 have c1:W.cell? ⟨w.heap.size,1,none⟩=some (.slice none 0 0):=by rw [hW];simp
 have z1:W.frozen? ⟨w.heap.size,1,none⟩=false:=by rw [hW];simp [go_sem]
 have c2:W.cell? ⟨w.heap.size,2,none⟩=some (.slice none 0 0):=by rw [hW];simp
 have z2:W.frozen? ⟨w.heap.size,2,none⟩=false:=by rw [hW];simp [go_sem]
 have c3:W.cell? ⟨w.heap.size,3,none⟩=some (.slice none 0 0):=by rw [hW];simp
 have z3:W.frozen? ⟨w.heap.size,3,none⟩=false:=by rw [hW];simp [go_sem]
 have c4:W.cell? ⟨w.heap.size,4,none⟩=some (.slice none 0 0):=by rw [hW];simp
 have z4:W.frozen? ⟨w.heap.size,4,none⟩=false:=by rw [hW];simp [go_sem]
 have c5:W.cell? ⟨w.heap.size,5,none⟩=some (.slice none 0 0):=by rw [hW];simp
 have z5:W.frozen? ⟨w.heap.size,5,none⟩=false:=by rw [hW];simp [go_sem]
 have bW:BW w W:=by rw [hW];go_grown
 have hWs:W.heap.size=w.heap.size+1:=by rw [hW];simp
 have HW:Hid _:=hW;have HX:Hid (Aw W ao zs):=hx.below bW;have HBW:Hid (BW w W):=bW;have HWS:Hid (W.heap.size=w.heap.size+1):=hWs;clear hx bW hWs hW
 have HDK:Hid (∀ u,Calls prog 102 #[.int .i64 t] u fun e w'=>e=.returned (.bool (Dn t))∧w'=u):=fun u=>A9 t u
 have HOK:Hid (Calls prog 103 #[.slice ao zs.length c] W fun e w'=>e=.returned (.bool (Ct zs))∧BW W w'):=Rk ao c zs W HX.o (by omega)
 cases hd:Dn t
 ·have HB:Hid (Sx t zs=false):=by simp [Hid,Sx,hd]
  rw [hd] at HDK
  go_enter func45,ntmps45
  go_upto_region 1 with fail
  rw [← HW.o];go_wp2_with fail
  refine (HDK.o _).mono ?_;rintro e w1 ⟨rfl,hw1⟩;replace hw1:=hw1.symm;subst hw1;go_wp2
  refine bodyPost_ret (by simp [results,results45,go_sem,c0,c1,c2,c3,c4,c5];try rfl) rfl ?_
  exact wQ HB.o (HBW.o.put6 _ _ _ _ _ _)
 ·rw [hd] at HDK
  cases ho:Ct zs
  ·have HB:Hid (Sx t zs=false):=by simp [Hid,Sx,ho]
   rw [ho] at HOK
   go_enter func45,ntmps45
   go_upto_region 1 with fail
   rw [← HW.o];go_wp2_with fail
   refine (HDK.o _).mono ?_;rintro e w1 ⟨rfl,hw1⟩;replace hw1:=hw1.symm;subst hw1;go_wp2_with fail
   refine HOK.o.mono ?_;rintro e w2 ⟨rfl,b2⟩
   replace c0:=(b2.cell (p:=⟨w.heap.size,0,none⟩) (by have:=HWS.o;show w.heap.size<W.heap.size;omega)).trans c0
   replace z0:=(b2.frozen (p:=⟨w.heap.size,0,none⟩) (by have:=HWS.o;show w.heap.size<W.heap.size;omega)).trans z0
   replace c1:=(b2.cell (p:=⟨w.heap.size,1,none⟩) (by have:=HWS.o;show w.heap.size<W.heap.size;omega)).trans c1
   replace z1:=(b2.frozen (p:=⟨w.heap.size,1,none⟩) (by have:=HWS.o;show w.heap.size<W.heap.size;omega)).trans z1
   replace c2:=(b2.cell (p:=⟨w.heap.size,2,none⟩) (by have:=HWS.o;show w.heap.size<W.heap.size;omega)).trans c2
   replace z2:=(b2.frozen (p:=⟨w.heap.size,2,none⟩) (by have:=HWS.o;show w.heap.size<W.heap.size;omega)).trans z2
   replace c3:=(b2.cell (p:=⟨w.heap.size,3,none⟩) (by have:=HWS.o;show w.heap.size<W.heap.size;omega)).trans c3
   replace z3:=(b2.frozen (p:=⟨w.heap.size,3,none⟩) (by have:=HWS.o;show w.heap.size<W.heap.size;omega)).trans z3
   replace c4:=(b2.cell (p:=⟨w.heap.size,4,none⟩) (by have:=HWS.o;show w.heap.size<W.heap.size;omega)).trans c4
   replace z4:=(b2.frozen (p:=⟨w.heap.size,4,none⟩) (by have:=HWS.o;show w.heap.size<W.heap.size;omega)).trans z4
   replace c5:=(b2.cell (p:=⟨w.heap.size,5,none⟩) (by have:=HWS.o;show w.heap.size<W.heap.size;omega)).trans c5
   replace z5:=(b2.frozen (p:=⟨w.heap.size,5,none⟩) (by have:=HWS.o;show w.heap.size<W.heap.size;omega)).trans z5
   have HB2:Hid (BW w w2):=next HBW.o b2;have HX2:Hid (Aw w2 ao zs):=HX.o.below b2
   have HS2:Hid (w.heap.size+1≤w2.heap.size):=by have h1:=HWS.o;have h2:=b2.size;rw [Hid];omega
   clear b2;go_wp2
   refine bodyPost_ret (by simp [results,results45,go_sem,c0,c1,c2,c3,c4,c5];try rfl) rfl ?_
   exact wQ HB.o (HB2.o.put6 _ _ _ _ _ _)
  ·have HB:Hid (Sx t zs=true):=by simp [Hid,Sx,ho,hd]
   rw [ho] at HOK
   go_enter func45,ntmps45
   go_upto_region 1 with fail
   rw [← HW.o];go_wp2_with fail
   refine (HDK.o _).mono ?_;rintro e w1 ⟨rfl,hw1⟩;replace hw1:=hw1.symm;subst hw1;go_wp2_with fail
   refine HOK.o.mono ?_;rintro e w2 ⟨rfl,b2⟩
   replace c0:=(b2.cell (p:=⟨w.heap.size,0,none⟩) (by have:=HWS.o;show w.heap.size<W.heap.size;omega)).trans c0
   replace z0:=(b2.frozen (p:=⟨w.heap.size,0,none⟩) (by have:=HWS.o;show w.heap.size<W.heap.size;omega)).trans z0
   replace c1:=(b2.cell (p:=⟨w.heap.size,1,none⟩) (by have:=HWS.o;show w.heap.size<W.heap.size;omega)).trans c1
   replace z1:=(b2.frozen (p:=⟨w.heap.size,1,none⟩) (by have:=HWS.o;show w.heap.size<W.heap.size;omega)).trans z1
   replace c2:=(b2.cell (p:=⟨w.heap.size,2,none⟩) (by have:=HWS.o;show w.heap.size<W.heap.size;omega)).trans c2
   replace z2:=(b2.frozen (p:=⟨w.heap.size,2,none⟩) (by have:=HWS.o;show w.heap.size<W.heap.size;omega)).trans z2
   replace c3:=(b2.cell (p:=⟨w.heap.size,3,none⟩) (by have:=HWS.o;show w.heap.size<W.heap.size;omega)).trans c3
   replace z3:=(b2.frozen (p:=⟨w.heap.size,3,none⟩) (by have:=HWS.o;show w.heap.size<W.heap.size;omega)).trans z3
   replace c4:=(b2.cell (p:=⟨w.heap.size,4,none⟩) (by have:=HWS.o;show w.heap.size<W.heap.size;omega)).trans c4
   replace z4:=(b2.frozen (p:=⟨w.heap.size,4,none⟩) (by have:=HWS.o;show w.heap.size<W.heap.size;omega)).trans z4
   replace c5:=(b2.cell (p:=⟨w.heap.size,5,none⟩) (by have:=HWS.o;show w.heap.size<W.heap.size;omega)).trans c5
   replace z5:=(b2.frozen (p:=⟨w.heap.size,5,none⟩) (by have:=HWS.o;show w.heap.size<W.heap.size;omega)).trans z5
   have HB2:Hid (BW w w2):=next HBW.o b2;have HX2:Hid (Aw w2 ao zs):=HX.o.below b2
   have HS2:Hid (w.heap.size+1≤w2.heap.size):=by have h1:=HWS.o;have h2:=b2.size;rw [Hid];omega
   clear b2
   have HOE:Hid ((w2.alloc (.cells #[] 3)).ownsRow (w.heap.size+1) 3 1 (.slice (some ⟨w2.heap.size,0,none⟩) 0 0) 0 []):=World.ownsRow_lit w2 #[] 0 HS2.o (by unfold maxLen;omega) rfl
   go_wp2_with (at_builtin;refine Gf _ rfl (.tmp 16) (.tmp 17) rfl (w.heap.size+1) _ 0 [] rfl HOE.o ao c zs rfl (HX2.o.below (bR.alloc nL _)) (by omega) (by have:=HS2.o;simp;omega) ?_;intro v3 w3 o3 g3;obtain ⟨a2,k2,hv3⟩:=Fz o3;rw [Nat.zero_add] at hv3;subst hv3;rw [Nat.zero_add,List.nil_append] at o3;have bb:BW w2 w3:=(bR.alloc nL _).grown g3 (by simp) (fun j hj=>by have hj2:some w2.heap.size=some j:=hj;injection hj2 with hj2;omega);replace c0:=(bb.cell (p:=⟨w.heap.size,0,none⟩) (by have:=HS2.o;show w.heap.size<w2.heap.size;omega)).trans c0;replace z0:=(bb.frozen (p:=⟨w.heap.size,0,none⟩) (by have:=HS2.o;show w.heap.size<w2.heap.size;omega)).trans z0;replace c1:=(bb.cell (p:=⟨w.heap.size,1,none⟩) (by have:=HS2.o;show w.heap.size<w2.heap.size;omega)).trans c1;replace z1:=(bb.frozen (p:=⟨w.heap.size,1,none⟩) (by have:=HS2.o;show w.heap.size<w2.heap.size;omega)).trans z1;replace c2:=(bb.cell (p:=⟨w.heap.size,2,none⟩) (by have:=HS2.o;show w.heap.size<w2.heap.size;omega)).trans c2;replace z2:=(bb.frozen (p:=⟨w.heap.size,2,none⟩) (by have:=HS2.o;show w.heap.size<w2.heap.size;omega)).trans z2;replace c3:=(bb.cell (p:=⟨w.heap.size,3,none⟩) (by have:=HS2.o;show w.heap.size<w2.heap.size;omega)).trans c3;replace z3:=(bb.frozen (p:=⟨w.heap.size,3,none⟩) (by have:=HS2.o;show w.heap.size<w2.heap.size;omega)).trans z3;replace c4:=(bb.cell (p:=⟨w.heap.size,4,none⟩) (by have:=HS2.o;show w.heap.size<w2.heap.size;omega)).trans c4;replace z4:=(bb.frozen (p:=⟨w.heap.size,4,none⟩) (by have:=HS2.o;show w.heap.size<w2.heap.size;omega)).trans z4;replace c5:=(bb.cell (p:=⟨w.heap.size,5,none⟩) (by have:=HS2.o;show w.heap.size<w2.heap.size;omega)).trans c5;replace z5:=(bb.frozen (p:=⟨w.heap.size,5,none⟩) (by have:=HS2.o;show w.heap.size<w2.heap.size;omega)).trans z5)
   have HB3:Hid (BW w w3):=next HB2.o bb;have HO3:Hid (w3.ownsRow (w.heap.size+1) 3 1 (.slice a2 zs.length k2) zs.length (zs.map (Value.int .i64))):=o3;clear bb o3 g3 HOE;go_wp2
   refine bodyPost_ret (by simp [results,results45,go_sem,c0,c1,c2,c3,c4,c5];try rfl) rfl ?_
   exact yP HB.o HO3.o nL HB3.o
theorem G3 {w:World} {g k g' k':Nat} {v u:Value} (h:g=g'→k≠k') (hc:w.cell? ⟨g',k',none⟩=some u):(w.setCell ⟨g,k,none⟩ v).cell? ⟨g',k',none⟩=some u:=by
 rw [World.cell?_setCell_other w ⟨g,k,none⟩ v (b:=⟨g',k',none⟩) (fun e=>by injection e with e1 e2;exact h e1 e2)];exact hc
theorem tU {w:World} {g k:Nat} {v u:Value} (hc:w.cell? ⟨g,k,none⟩=some u):(w.setCell ⟨g,k,none⟩ v).cell? ⟨g,k,none⟩=some v:=World.cell?_setCell_same w ⟨g,k,none⟩ v hc
theorem O9 {w:World} {a b:Addr} {v:Value} (h:w.frozen? b=false):(w.setCell a v).frozen? b=false:=by simp [h]
def cT (B:Nat) (w:World) (g:Nat) (ao:Option Addr) (n:Nat):Prop :=
 n=0∨∃ b off,ao=some ⟨b,off,none⟩∧b≠g∧b<B∧∀ j,j<n→∃ v:Int,0≤v∧v≤255∧w.cell? ⟨b,off+j,none⟩=some (.int .u8 v)
def A2 (B:Nat) (w:World) (g:Nat):Prop :=
 ∃ (ao:Option Addr) (n cap:Nat) (i h:Int),0≤i∧i≤n∧n≤1048576∧(g<B∧B≤w.heap.size)∧w.cell? ⟨g,0,none⟩=some (.slice ao n cap)∧w.cell? ⟨g,1,none⟩=some (.int .i64 i) ∧
  w.cell? ⟨g,2,none⟩=some (.int .i64 h)∧w.frozen? ⟨g,1,none⟩=false∧w.frozen? ⟨g,2,none⟩=false∧cT B w g ao n
theorem wO (n:Nat) (h:n≤1073741823):IntKind.i64.wrap (n:Int)=n:=by
 simp [IntKind.wrap,IntKind.bits,IntKind.signed];omega
theorem yQ (a:Int) (m:Nat) (hm:m≤1073741823):0≤bits .and .i64 a (m:Int)∧bits .and .i64 a (m:Int)≤m:=by
 have h:(BitVec.ofInt 64 a &&& BitVec.ofInt 64 (m:Int)).toNat≤m:=by
  rw [BitVec.toNat_and];refine Nat.le_trans Nat.and_le_right ?_;rw [BitVec.toNat_ofInt]
  omega
 have e:bits .and .i64 a (m:Int)=IntKind.i64.wrap (((BitVec.ofInt 64 a &&& BitVec.ofInt 64 (m:Int)).toNat:Nat):Int):=rfl
 rw [e,wO _ (by omega)]
 omega
theorem vA (a:Int):0≤bits .and .i64 a 255∧bits .and .i64 a 255≤255:=yQ a 255 (by omega)
theorem uB (w:World) (g k:Nat) (v:Value):w.grownBy (w.setCell ⟨g,k,none⟩ v) (some g) :=
 ⟨rfl,rfl,rfl,by simp,fun j _ hj=>Below.heap_setCell _ _ _ _ (fun e=>hj (by rw [e]))⟩
theorem Z9 {w w':World} {row:Option Nat} (h:w.grownBy w' row) (n:Nat):w.grownBy (w'.drewN n) row:=⟨h.os,h.tape,h.output,h.size,h.block⟩
theorem uQ {B:Nat} {w:World} {g k n:Nat} {v:Value} {ao:Option Addr} (h:cT B w g ao n):cT B (w.setCell ⟨g,k,none⟩ v) g ao n:=by
 rcases h with h | ⟨b,off,h1,h2,h3,h4⟩
 ·exact .inl h
 ·refine .inr ⟨b,off,h1,h2,h3,fun j hj=>?_⟩
  obtain ⟨x,x0,x1,hx⟩:=h4 j hj
  exact ⟨x,x0,x1,G3 (fun e=>absurd e.symm h2) hx⟩
theorem vL {B:Nat} {w:World} {g:Nat} (hc:A2 B w g) (H:Int):A2 B (w.setCell ⟨g,2,none⟩ (.int .i64 H)) g:=by
 obtain ⟨ao,n,cap,i,h,h1,h2,h3,hg,c0,c1,c2,f1,f2,hb⟩:=hc
 exact ⟨ao,n,cap,i,H,h1,h2,h3,by simpa using hg,G3 (by omega) c0,G3 (by omega) c1,tU c2,O9 f1,O9 f2,uQ hb⟩
theorem yI {B:Nat} {w:World} {g n cap:Nat} {ao:Option Addr} (hc:A2 B w g) (h0:w.cell? ⟨g,0,none⟩=some (.slice ao n cap)) (j:Int) (j0:0≤j) (j1:j≤n):A2 B (w.setCell ⟨g,1,none⟩ (.int .i64 j)) g:=by
 obtain ⟨ao',n',cap',i,h,h1,h2,h3,hg,c0,c1,c2,f1,f2,hb⟩:=hc;rw [h0] at c0
 obtain ⟨rfl,rfl,rfl⟩:ao=ao'∧n=n'∧cap=cap':=by simpa using c0
 exact ⟨ao,n,cap,j,h,j0,j1,h3,by simpa using hg,G3 (by omega) h0,tU c1,G3 (by omega) c2,O9 f1,O9 f2,uQ hb⟩
theorem B9 {B:Nat} {w w':World} {g:Nat} (hc:A2 B w g) (hb:Below B w w'):A2 B w' g:=by
 obtain ⟨ao,n,cap,i,h,h1,h2,h3,hg,c0,c1,c2,f1,f2,hy⟩:=hc;have hl:=hg.1;refine ⟨ao,n,cap,i,h,h1,h2,h3,⟨hg.1,Nat.le_trans hg.2 hb.size⟩,(hb.cell hl).trans c0,(hb.cell hl).trans c1,(hb.cell hl).trans c2,(hb.frozen hl).trans f1,(hb.frozen hl).trans f2,?_⟩
 rcases hy with hy | ⟨b,off,y1,y2,y3,y4⟩
 ·exact .inl hy
 ·refine .inr ⟨b,off,y1,y2,y3,fun j hj=>?_⟩
  obtain ⟨x,x0,x1,hx⟩:=y4 j hj;exact ⟨x,x0,x1,(hb.cell (p:=⟨b,off+j,none⟩) y3).trans hx⟩
theorem K6 {B:Nat} {w:World} {g:Nat} (hc:A2 B w g):g<B∧B≤w.heap.size:=by
 obtain ⟨_,_,_,_,_,_,_,_,hg,_⟩:=hc;exact hg
theorem A4 {B:Nat} {w w':World} {g:Nat} (hc:A2 B w g) (hb:BW w w'):A2 B w' g:=B9 hc (hb.mono (K6 hc).2)
theorem V8 {B:Nat} (g:Nat) (w:World) (hc:A2 B w g) :
  Calls prog 129 #[.pointer (some ⟨g,0,none⟩)] w fun e w'=>∃ x:Int,e=.returned (.int .i64 x)∧0≤x∧x≤255∧A2 B w' g∧w.grownBy w' (some g):=by
 have HC:Hid (A2 B w g):=hc;obtain ⟨ao,n,cap,i,h,h1,h2,h3,hg,c0,c1,c2,f1,f2,hy⟩:=hc
 by_cases hlt:i<n
 ·rcases hy with hy | ⟨b,off,rfl,y2,y3,y4⟩
  ·omega
  ·obtain ⟨v,v0,v1,cb⟩:=y4 i.toNat (by omega)
   clear y4
   go_enter func129,ntmps129
   go_wp2
   generalize wrap64 (wrap64 (h*6364136223846793005)+1442695040888963407)=H
   obtain ⟨W,hW⟩:∃ W,w.setCell ⟨g,2,none⟩ (.int .i64 H)=W:=⟨_,rfl⟩
   have d0:W.cell? ⟨g,0,none⟩=some (.slice (some ⟨b,off,none⟩) n cap):=hW ▸ G3 (by omega) c0
   have d1:W.cell? ⟨g,1,none⟩=some (.int .i64 i):=hW ▸ G3 (by omega) c1
   have d2:W.cell? ⟨g,2,none⟩=some (.int .i64 H):=hW ▸ tU c2
   have db:W.cell? ⟨b,off+i.toNat,none⟩=some (.int .u8 v):=hW ▸ G3 (by omega) cb
   have e1:W.frozen? ⟨g,1,none⟩=false:=hW ▸ O9 f1;have HR:Hid (A2 B W g∧w.grownBy W (some g)):=hW ▸ ⟨vL HC.o H,uB w g 2 _⟩;rw [hW];clear hW c0 c1 c2 f1 f2 cb
   go_quiet (fail)
   go_wp2
   go_quiet (fail)
   go_wp2
   go_quiet (fail)
   go_wp2;go_ret
   exact ⟨_,rfl,(vA _).1,(vA _).2,yI HR.o.1 d0 _ (by omega) (by omega),Z9 (HR.o.2.trans (uB _ _ _ _)) _⟩
 ·go_enter func129,ntmps129
  go_wp2
  generalize wrap64 (wrap64 (h*6364136223846793005)+1442695040888963407)=H
  obtain ⟨W,hW⟩:∃ W,w.setCell ⟨g,2,none⟩ (.int .i64 H)=W:=⟨_,rfl⟩
  have d0:W.cell? ⟨g,0,none⟩=some (.slice ao n cap):=hW ▸ G3 (by omega) c0
  have d1:W.cell? ⟨g,1,none⟩=some (.int .i64 i):=hW ▸ G3 (by omega) c1
  have d2:W.cell? ⟨g,2,none⟩=some (.int .i64 H):=hW ▸ tU c2;have HR:Hid (A2 B W g∧w.grownBy W (some g)):=hW ▸ ⟨vL HC.o H,uB w g 2 _⟩;rw [hW];clear hW c0 c1 c2 f1 f2 hy
  go_quiet (fail)
  go_wp2
  go_quiet (fail)
  go_wp2;go_ret;exact ⟨_,rfl,(vA _).1,(vA _).2,HR.o.1,Z9 (Z9 HR.o.2 _) _⟩
theorem G4 {B:Nat} (g:Nat) (n:Int) (w:World) (hc:A2 B w g) (hn:n≤1099511627776) :
  Calls prog 79 #[.pointer (some ⟨g,0,none⟩),.int .i64 n] w fun e w'=>∃ x:Int,e=.returned (.int .i64 x)∧0≤x∧(1≤n→x<n)∧A2 B w' g∧w.grownBy w' (some g):=by
 by_cases h1:n≤0
 ·go_enter func79,ntmps79
  go_wp2;go_ret
  exact ⟨0,rfl,by omega,by omega,hc,World.grownBy.refl _ _⟩
 ·have hne:(n == 0)=false:=by simp;omega
  by_cases h2:n≤256
  ·go_enter func79,ntmps79
   go_wp2_with fail
   refine (V8 _ _ hc).mono ?_;rintro e w1 ⟨x,rfl,x0,x1,c1,g1⟩;go_wp2;go_ret
   exact ⟨_,rfl,Int.emod_nonneg _ (by omega),fun _=>Int.emod_lt_of_pos _ (by omega),c1,g1⟩
  ·go_enter func79,ntmps79
   go_wp2_with fail
   refine (V8 _ _ hc).mono ?_;rintro e w1 ⟨x,rfl,x0,x1,c1,g1⟩;go_wp2_with fail
   refine (V8 _ _ c1).mono ?_;rintro e w2 ⟨y,rfl,y0,y1,c2,g2⟩;go_wp2_with fail
   refine (V8 _ _ c2).mono ?_;rintro e w3 ⟨z,rfl,z0,z1,c3,g3⟩;go_wp2_with fail
   refine (V8 _ _ c3).mono ?_;rintro e w4 ⟨u,rfl,u0,u1,c4,g4⟩;go_wp2;go_ret
   exact ⟨_,rfl,Int.emod_nonneg _ (by omega),fun _=>Int.emod_lt_of_pos _ (by omega),c4,((g1.trans g2).trans g3).trans g4⟩
theorem Y7 {B:Nat} (g:Nat) (n:Int) (w:World) (hc:A2 B w g) (hn:n≤1099511627776) :
  Calls prog 97 #[.pointer (some ⟨g,0,none⟩),.int .i64 n] w fun e w'=>∃ x:Bool,e=.returned (.bool x)∧A2 B w' g∧w.grownBy w' (some g):=by
 go_enter func97,ntmps97
 go_wp2_with fail
 refine (G4 _ _ _ hc hn).mono ?_;rintro e w1 ⟨x,rfl,x0,x1,c1,g1⟩;go_wp2;go_ret;exact ⟨_,rfl,c1,g1⟩
theorem uX {w:World} {a:Option Addr} {len cap g:Nat} {zs:List Int} (h:pZ .u8 w a len cap zs) (hg:w.heap.size≤g):cT g w g a len:=by
 rcases h with ⟨rfl,rfl,rfl,rfl⟩ | ⟨x,rfl,hl,hm,hz,hcell,hwz⟩
 ·exact .inl rfl
 ·by_cases h0:len=0
  ·exact .inl h0
  ·obtain ⟨b,off,spot⟩:=x
   have hc:=hcell 0 (by omega)
   have hspot:spot=none:=by simpa [Addr.add] using World.cell?_spot hc
   subst hspot;have hlt:=World.block_lt_of_cell? w _ hc
   refine .inr ⟨b,off,rfl,by simp [Addr.add] at hlt;omega,by simp [Addr.add] at hlt;omega,fun j hj=>?_⟩
   have hj':=hcell j (by omega)
   have hwf:=hwz (zs.getD j 0) (by
    have:j<zs.length:=by omega
    simp [List.getD_eq_getElem?_getD,this])
   have hbd:0≤zs.getD j 0∧zs.getD j 0≤255:=by simpa [Lit.wf,IntKind.min,IntKind.max,IntKind.signed,IntKind.bits] using hwf
   refine ⟨zs.getD j 0,hbd.1,hbd.2,?_⟩
   by_cases e:j=0
   ·subst e;simpa [Addr.add] using hj'
   ·simpa [Addr.add,e] using hj'
theorem nE {w:World} {ao:Option Addr} {n cap:Nat} (h:Int) (t:TypeId) (hb:cT w.heap.size w w.heap.size ao n) (hn:n≤1048576) :
  A2 (w.heap.size+1) (w.alloc (.cells #[.slice ao n cap,.int .i64 0,.int .i64 h] t)) w.heap.size:=by
 refine ⟨ao,n,cap,0,h,by omega,by omega,hn,⟨by omega,by simp⟩,by simp,by simp,by simp,by simp,by simp,?_⟩
 rcases hb with hb | ⟨b,off,y1,y2,y3,y4⟩
 ·exact .inl hb
 ·refine .inr ⟨b,off,y1,y2,by omega,fun j hj=>?_⟩
  obtain ⟨x,x0,x1,hx⟩:=y4 j hj
  exact ⟨x,x0,x1,by rw [World.cell?_alloc_lt _ _ _ (by exact y3)];exact hx⟩
theorem zK (a:Option Addr) (len cap:Nat) (zs:List Int) (w:World) (hr:pZ .u8 w a len cap zs) (hn:len≤1048576) :
  Calls prog 77 #[.slice a len cap] w fun e w'=>e=.returned (.pointer (some ⟨w.heap.size,0,none⟩))∧A2 (w.heap.size+1) w' w.heap.size∧BW w w':=by
 have hb:=uX (g:=w.heap.size) hr nL;clear hr;have HB:Hid (cT w.heap.size w w.heap.size a len):=hb
 rcases hb with rfl | ⟨b,off,rfl,hbg,hbl,hbytes⟩
 ·go_enter func77,ntmps77
  go_wp2;refine wp_loop_rounds 1 ?_;rw [rounds_succ];go_wp2;go_ret;exact ⟨rfl,nE _ _ HB.o hn,bR.alloc nL _⟩
 ·go_enter func77,ntmps77
  go_wp2
  go_loop [3,4] (fun c i=>∃ (k:Nat) (H:Int),k≤len∧i=.int .i64 k∧c=.int .i64 H) (fun _ i=>len - (intOf i).toNat)
  case atStart=>exact ⟨0,_,Nat.zero_le _,rfl,rfl⟩
  case round =>
   obtain ⟨k,H,hk,rfl,rfl⟩:=hrel
   by_cases hlt:k<len
   ·have hki:(k:Int)<(len:Int):=by omega
    by_cases h4:(k:Int)<4000
    ·obtain ⟨v,v0,v1,cb⟩:=hbytes k hlt
     clear hbytes;go_wp2
     go_round
     case rel=>exact ⟨k+1,_,by omega,by go_num,rfl⟩
     case measure=>simp [intOf];omega
    ·clear hbytes
     go_wp2;go_ret;exact ⟨rfl,nE _ _ HB.o hn,bR.alloc nL _⟩
   ·clear hbytes
    go_wp2;go_ret;exact ⟨rfl,nE _ _ HB.o hn,bR.alloc nL _⟩
theorem tX (w:World) (zs:List Int) (arr:Array Value) (h:arr=(zs.map (Value.int .i64)).toArray) :
  ∀ i,i<zs.length→(w.alloc (.cells arr 3)).cell? ⟨w.heap.size,i,none⟩=some (.int .i64 (zs.getD i 0)):=by
 intro i hi;subst h
 simp [List.getD_eq_getElem?_getD,hi]
theorem R5 {B:Nat} {w:World} {g:Nat} (hc:A2 B w g):w.heap.size≠g:=by
 have:=K6 hc;omega
theorem A3 {B:Nat} {w:World} {g:Nat} (hc:A2 B w g) (o:Obj):A2 B (w.alloc o) g:=A4 hc (bR.alloc nL _)
theorem R2 {B:Nat} (g b cap:Nat) (zs:List Int) (w:World) (hc:A2 B w g) (hbg:b≠g) (hz:∀ i,i<zs.length→w.cell? ⟨b,i,none⟩=some (.int .i64 (zs.getD i 0))) (h1:1≤zs.length) (h2:zs.length≤1000) :
  Calls prog 131 #[.pointer (some ⟨g,0,none⟩),.slice (some ⟨b,0,none⟩) zs.length cap] w fun e w'=>∃ x:Int,e=.returned (.int .i64 x)∧x ∈ zs∧A2 B w' g∧w.grownBy w' (some g):=by
 go_enter func131,ntmps131
 go_wp2_with fail
 refine (G4 _ _ _ hc (by omega)).mono ?_
 rintro e w1 ⟨x,rfl,x0,x1,c1,g1⟩
 have hx:=x1 (by omega)
 obtain ⟨k,rfl⟩:=Int.eq_ofNat_of_zero_le x0
 have hk:k<zs.length:=by omega
 have cb:w1.cell? ⟨b,k,none⟩=some (.int .i64 (zs.getD k 0)):=g1.cell (a:=⟨b,k,none⟩) (hz k hk) (by simpa using hbg)
 have hm:zs.getD k 0 ∈ zs:=by simp [List.getD_eq_getElem?_getD,hk]
 generalize zs.getD k 0=z at cb hm
 clear hz x1;go_wp2;go_ret;exact ⟨z,rfl,hm,c1,g1⟩
theorem wZ {k:IntKind} {w w':World} {a:Option Addr} {len cap:Nat} {zs:List Int} (h:pZ k w a len cap zs) (hb:BW w w'):pZ k w' a len cap zs:=by
 rcases h with h | ⟨x,h1,h2,h3,h4,h5,h6⟩
 ·exact .inl h
 ·exact .inr ⟨x,h1,h2,h3,h4,fun i hi=>(hb.cell (World.block_lt_of_cell? w _ (h5 i hi))).trans (h5 i hi),h6⟩
theorem wP (a:Option Addr) (len cap:Nat) (w:World) :
  Calls prog 28 #[.slice a len cap] w fun e w'=>e=.returned (.bool (decide ((1048576:Int)<(len:Int))))∧w'=w:=by
 go_enter func28,ntmps28
 go_wp2;go_ret;exact ⟨rfl,rfl⟩
theorem vV {w w1 w2:World} {g:Nat} {row:Option Nat} (h:w.grownBy w1 (some g)) (h2:w1.grownBy w2 row) (hr:∀ j,row=some j→w.heap.size≤j):w.grownBy w2 (some g) :=
 ⟨h2.os.trans h.os,h2.tape.trans h.tape,h2.output.trans h.output,Nat.le_trans h.size h2.size,fun k hk hne=>(h2.block k (Nat.lt_of_lt_of_le hk h.size) (fun e=>by have:=hr k e.symm;omega)).trans (h.block k hk hne)⟩
theorem xR {B:Nat} (g:Nat) (w:World) (hc:A2 B w g) :
  Calls prog 98 #[.pointer (some ⟨g,0,none⟩)] w fun e w'=>∃ (ao:Option Addr) (c:Nat) (xs:List Int),e=.returned (.slice ao xs.length c)∧xs.length≤6∧w'.ownsRow w.heap.size 3 1 (.slice ao xs.length c) xs.length (xs.map (Value.int .i64))∧A2 B w' g∧w.grownBy w' (some g)∧w.heap.size≤w'.heap.size:=by
 obtain ⟨i0,hi,hz0,hz1,hz2⟩:=info_parts pQ;have cb:=K6 hc
 have own0:(w.alloc (.cells #[] 3)).ownsRow w.heap.size 3 1 (.slice (some ⟨w.heap.size,0,none⟩) 0 0) 0 []:=World.ownsRow_lit w #[] 0 nL (by unfold maxLen;omega) rfl
 go_enter func98,ntmps98
 go_wp2_with fail
 refine (G4 _ _ _ (A3 hc _) (by omega)).mono ?_
 rintro e w2 ⟨n,rfl,n0,n1,c2,g2⟩
 have hn8:=n1 (by omega)
 obtain ⟨m,rfl⟩:=Int.eq_ofNat_of_zero_le n0
 have own2:=own0.kept g2 (Aaa own0 (by omega))
 have b2:w.grownBy w2 (some g):=(World.grownBy_alloc w _ _).trans g2
 have s2:w.heap.size≤w2.heap.size:=by have:=g2.size;simp at this;omega
 clear own0 n1 g2 hc;go_wp2
 go_loopw [3,4,6] (fun v p i wr=>∃ (k:Nat) (y:Int) (xs:List Int),k≤m∧i=.int .i64 k∧p=.int .i64 y∧(0≤y∧y≤9000+60*k)∧xs.length=k∧wr.ownsRow w.heap.size 3 1 v k (xs.map (Value.int .i64))∧A2 B wr g∧w.grownBy wr (some g)∧w.heap.size≤wr.heap.size) (fun _ _ i _=>m - (intOf i).toNat)
 case atStart=>exact ⟨0,9000,[],Nat.zero_le _,rfl,rfl,by omega,rfl,own2,c2,b2,s2⟩
 case round =>
  obtain ⟨k,y,xs,hk,rfl,rfl,hy,hxl,ho,hc,hbr,hsz⟩:=hrel;clear own2 c2 b2 s2
  by_cases hlt:k<m
  ·have hki:(k:Int)<(m:Int):=by omega
   have HXL:Hid _:=hxl;clear hxl
   go_wp2_with (first | (go_at_call 79;refine (G4 _ _ _ hc (by omega)).mono ?_;rintro e w3 ⟨z,rfl,zz0,zz1,c3,g3⟩;have hzz:=zz1 (by omega);have o3:=ho.kept g3 (Aaa ho (by omega));have b3:w.grownBy w3 (some g):=hbr.trans g3;have s3:=g3.size) | (at_builtin;refine wpList_append_own _ rfl (.tmp 20) (.tmp 22) 22 rfl w.heap.size 3 i0 (.int .i64 0) 1 8 underlying22 hi hz0 hz1 hz2 rfl (by decide) _ _ _ rfl (o3.alloc _) ⟨w3.heap.size,0,none⟩ 1 1 [.int .i64 (y+1+z)] rfl rfl (cell_one_new _ _ _) (ints_oneCell .i64 [y+1+z]) (by unfold maxLen;omega) (by omega) (by simp;omega) ?_;intro v' w4 ho1 hg1 hn1))
   have hb1:w.grownBy w4 (some g):=vV (b3.trans (World.grownBy_alloc w3 _ _)) hg1 (fun j hj=>by have:=(o3.lt j hj).1;omega)
   have hc1:A2 B w4 g:=B9 c3 (((Below.refl _ w3).alloc (by omega) _).grown hg1 (by simp;omega) (fun j hj=>by have:=(o3.lt j hj).1;omega))
   have hs1:w.heap.size≤w4.heap.size:=by have:=hg1.size;simp at this;omega
   clear hg1 hn1 ho;go_wp2
   go_roundw
   case rel=>exact ⟨k+1,y+1+z,xs++[y+1+z],by omega,by go_num,rfl,by omega,by have:=HXL.o;simp;omega,by rw [List.map_append];exact ho1,hc1,hb1,hs1⟩
   case measure=>simp [intOf];omega
  ·have hkm:k=m:=by omega
   subst hkm;have HO:Hid _:=ho
   have hki:¬ (k:Int)<(k:Int):=by omega
   clear ho;go_wp2;go_ret;obtain ⟨ao,c,hv⟩:=Fz HO.o;subst hv;subst hxl
   exact ⟨ao,c,xs,rfl,by omega,HO.o,hc,hbr,hsz⟩
end Go.Proofs.YtomiclakhjncbaaGreatDoor
namespace Go.Proofs.YtomiclakhjncbaaGreatDoor.Kb
open Go.RowKit Go.Proofs.Tryz
def K1 (l:List UInt8):Nat→Be×Nat
 | 0=>([],0)
 | i+1=>if l.getD i 0=10 then ((K1 l i).1++[(l.drop (K1 l i).2).take (i - (K1 l i).2)],i+1) else K1 l i
theorem Abf (l:List UInt8):∀ i,(K1 l i).2≤i∧(K1 l i).1.length≤i
 | 0=>⟨nL,nL⟩
 | i+1=>by
  have:=Abf l i
  unfold K1
  split
  ·refine ⟨nL,?_⟩
   simp;omega
  ·omega
theorem Abe {l:List UInt8} {i:Nat} (h:l.getD i 0=10):K1 l (i+1)=((K1 l i).1++[(l.drop (K1 l i).2).take (i - (K1 l i).2)],i+1):=by rw [K1,if_pos h]
theorem Abc {l:List UInt8} {i:Nat} (h:l.getD i 0≠10):K1 l (i+1)=K1 l i:=by rw [K1,if_neg h]
theorem Abd (l:List UInt8):∀ i,i≤l.length→∀ r ∈ (K1 l i).1,r.length<l.length
 | 0,_=>fun r h=>nomatch h
 | i+1,hi=>fun r h=>by
  unfold K1 at h
  split at h
  ·rcases List.mem_append.1 h with h | h
   ·exact Abd l i (by omega) r h
   ·rw [List.mem_singleton.1 h];simp;omega
  ·exact Abd l i (by omega) r h
def K2 (l:List UInt8):Be:=(K1 l l.length).1
def Ac0 (l:List UInt8):List UInt8:=l.drop (K1 l l.length).2
theorem Abj (l:List UInt8):(K2 l).length≤l.length:=(Abf l l.length).2
theorem Aba (l:List UInt8):∀ r ∈ K2 l,r.length<l.length:=Abd l l.length nL
theorem Ab8 (l:List UInt8) (w:World) (hl:l.length≤1048576) :
  Calls prog 65 #[.string ⟨l.toArray⟩] w fun e w'=>∃ a k,e=.returned (.slice a (K2 l).length k)∧w'.ownsRow w.heap.size 9 1 (.slice a (K2 l).length k) (K2 l).length (Am (K2 l))∧BW w w':=by
 obtain ⟨i0,hi,hz0,hz1,hz2⟩:=info_parts S1
 have HO0:Hid ((w.alloc (.cells #[] 9)).ownsRow w.heap.size 9 1 (.slice (some ⟨w.heap.size,0,none⟩) 0 0) 0 (Am [])):=by
  have h:=World.ownsRow_lit (base:=w.heap.size) (e:=9) (size:=1) w #[] 0 nL (by unfold maxLen;omega) rfl
  rw [Hid];simpa [Am] using h
 have HBA:Hid (Below w.heap.size w (w.alloc (.cells #[] 9))):=bR.alloc nL _;have HWE:Hid (K2 l=(K1 l l.length).1):=rfl;obtain ⟨WW,hWW⟩:∃ x,K2 l=x:=⟨_,rfl⟩;rw [hWW] at HWE ⊢;clear hWW
 go_enter func65,ntmps65
 go_wp2
 go_loopw [3,4,5] (fun s f i wr=>∃ (v:Value) (k:Nat),v=s∧k≤l.length∧i=.int .i64 (k:Int)∧f=.int .i64 ((K1 l k).2:Int)∧wr.ownsRow w.heap.size 9 1 v (K1 l k).1.length (Am (K1 l k).1)∧BW w wr) (fun _ _ i _=>l.length - (intOf i).toNat)
 case atStart=>exact ⟨_,0,rfl,Nat.zero_le _,rfl,rfl,HO0.o,HBA.o⟩
 case round =>
  obtain ⟨v,k,hvs,hk,rfl,rfl,hown,hbr⟩:=hrel;subst hvs;have HBR:Hid (BW w wr):=hbr;have HSZ:Hid (w.heap.size≤wr.heap.size):=hbr.size
  have HLT:Hid (∀ j,v.ownBlock=some j→w.heap.size≤j):=fun j hj=>(hown.lt j hj).1
  have hsc:=Abf l k
  by_cases hlt:k<l.length
  ·have hki:(k:Int)<(l.length:Int):=by omega
   have HY:Hid _:=@Abe l k;have HN:Hid _:=@Abc l k
   obtain ⟨c,hc⟩:∃ c,(⟨l.toArray⟩:ByteArray)[k]'(by rw [Fo];exact hlt)=c:=⟨_,rfl⟩
   rw [(Je l k hlt).trans hc] at HY HN;obtain ⟨R,hR⟩:∃ x,(K1 l k).1=x:=⟨_,rfl⟩;obtain ⟨f,hf⟩:∃ x,(K1 l k).2=x:=⟨_,rfl⟩;rw [hR,hf] at HY;rw [hR] at hown hsc;rw [hf] at hsc ⊢;have HO:Hid (wr.ownsRow w.heap.size 9 1 v R.length (Am R)):=hown;have HRF:Hid ((K1 l k).1=R∧(K1 l k).2=f):=⟨hR,hf⟩;clear hR hf hown hbr HO0 HBA
   by_cases h10:c=10
   ·subst h10
    have hx:(⟨l.toArray⟩:ByteArray).extract f k=⟨((l.drop f).take (k - f)).toArray⟩:=Qo l f k;have HNX:Hid (K1 l (k+1)=(R++[(l.drop f).take (k - f)],k+1)):=HY.o rfl;obtain ⟨r,hr⟩:∃ x,(l.drop f).take (k - f)=x:=⟨_,rfl⟩;rw [hr] at hx HNX
    have hfk:(f:Int)≤(k:Int):=by omega
    clear HY HN hr
    go_wp2_with (at_builtin;refine wpList_append_own _ rfl (.tmp 17) (.tmp 22) 23 rfl w.heap.size 9 i0 (.string ⟨#[]⟩) 1 16 underlying23 hi hz0 hz1 hz2 rfl (by decide) _ _ _ rfl (HO.o.alloc _) ⟨wr.heap.size,0,none⟩ 1 1 [.string ⟨r.toArray⟩] rfl rfl (World.news_of_block (heap_alloc_new wr _)) (Rf _) (by unfold maxLen;omega) (by omega) (by simp;have:=HSZ.o;omega) ?_;intro v5 w5 o5 g5 _)
    have q5:BW w w5:=(HBR.o.alloc (by have:=HSZ.o;omega) _).grown g5 (by have:=HSZ.o;simp;omega) HLT.o
    have HR5:Hid (w5.ownsRow w.heap.size 9 1 v5 (K1 l (k+1)).1.length (Am (K1 l (k+1)).1)):=by
     rw [Hid,HNX.o];simp only [List.length_append,F6];exact o5
    have HF5:Hid ((K1 l (k+1)).2=k+1):=by rw [Hid,HNX.o]
    clear o5 g5 hx;go_wp2
    go_roundw
    case rel=>exact ⟨_,k+1,rfl,by omega,by go_num,by rw [HF5.o];go_num,HR5.o,q5⟩
    case measure=>simp [intOf];omega
   ·have HNX:Hid (K1 l (k+1)=K1 l k):=HN.o h10
    have hcb:((c.toNat:Int) == 10)=false:=by
     simp only [beq_eq_false_iff_ne,ne_eq]
     intro e;apply h10;apply UInt8.toNat_inj.1
     show c.toNat=10
     omega
    have HR5:Hid (wr.ownsRow w.heap.size 9 1 v (K1 l (k+1)).1.length (Am (K1 l (k+1)).1)):=by
     rw [Hid,HNX.o,HRF.o.1];exact HO.o
    have HF5:Hid ((K1 l (k+1)).2=f):=by rw [Hid,HNX.o,HRF.o.2]
    clear HY HN;go_wp2
    go_roundw
    case rel=>exact ⟨_,k+1,rfl,by omega,by go_num,by rw [HF5.o],HR5.o,HBR.o⟩
    case measure=>simp [intOf];omega
  ·have hke:k=l.length:=by omega
   subst hke
   have hki:¬ (l.length:Int)<(l.length:Int):=by omega
   obtain ⟨R,hR⟩:∃ x,(K1 l l.length).1=x:=⟨_,rfl⟩;rw [hR] at HWE;rw [hR] at hown hsc
   have HR5:Hid (wr.ownsRow w.heap.size 9 1 v WW.length (Am WW)):=by rw [Hid,HWE.o];exact hown
   obtain ⟨a,cp,hv,-,-⟩:=Ov HR5.o;subst hv;clear hR hown hbr HO0 HBA;go_wp2;go_ret;exact ⟨a,cp,rfl,HR5.o,HBR.o⟩
def Aa8 (l:List UInt8):Be:=(K1 l l.length).1++[l.drop (K1 l l.length).2]
theorem Acl {l:List UInt8} (h:∀ c ∈ l,c≠10):∀ i,i≤l.length→K1 l i=([],0):=by
 intro i
 induction i with
 | zero=>intro _;rfl
 | succ i ih =>
  intro hi
  have hg:l.getD i 0=l[i]:=by
   rw [List.getD_eq_getElem?_getD,List.getElem?_eq_getElem (by omega)];rfl
  rw [Abc (by rw [hg];exact h _ (List.getElem_mem _))]
  exact ih (by omega)
theorem Abi {l:List UInt8} (h:∀ c ∈ l,c≠10):Aa8 l=[l]:=by
 rw [Aa8,Acl h _ nL];rfl
theorem Ab1 {x r:List UInt8} (hx:∀ c ∈ x,c≠10):∀ i,i≤x.length→K1 (x++10::r) i=([],0):=by
 intro i
 induction i with
 | zero=>intro _;rfl
 | succ i ih =>
  intro hi
  have hg:(x++10::r).getD i 0=x[i]:=by
   rw [List.getD_eq_getElem?_getD,List.getElem?_append_left (by omega),List.getElem?_eq_getElem (by omega)]
   rfl
  rw [Abc (by rw [hg];exact hx _ (List.getElem_mem _))]
  exact ih (by omega)
theorem Abv (x r:List UInt8) (s:Nat):(x++10::r).drop (x.length+1+s)=r.drop s:=by
 rw [List.drop_append,List.drop_of_length_le (by omega),List.nil_append,show x.length+1+s - x.length=s+1 from by omega]
 rfl
theorem Abu {x r:List UInt8} (hx:∀ c ∈ x,c≠10):∀ j,j≤r.length→K1 (x++10::r) (x.length+1+j)=(x::(K1 r j).1,x.length+1+(K1 r j).2):=by
 intro j
 induction j with
 | zero =>
  intro _
  have hg:(x++10::r).getD x.length 0=10:=by simp [List.getD_eq_getElem?_getD]
  show K1 (x++10::r) (x.length+1)=_
  rw [Abe hg,Ab1 hx _ nL]
  simp [K1]
 | succ j ih =>
  intro hj
  have h:=ih (by omega)
  have hg:(x++10::r).getD (x.length+1+j) 0=r.getD j 0:=by
   rw [List.getD_eq_getElem?_getD,List.getElem?_append_right (by omega),show x.length+1+j - x.length=j+1 from by omega]
   simp [List.getD_eq_getElem?_getD]
  have hle:=(Abf r j).1
  by_cases h10:r.getD j 0=10
  ·rw [show x.length+1+(j+1)=(x.length+1+j)+1 from by omega,Abe (by rw [hg];exact h10),h,Abe h10]
   simp only [List.cons_append]
   rw [Abv,show x.length+1+j - (x.length+1+(K1 r j).2)=j - (K1 r j).2 from by omega]
   rfl
  ·rw [show x.length+1+(j+1)=(x.length+1+j)+1 from by omega,Abc (by rw [hg];exact h10),h,Abc h10]
theorem Abq {x r:List UInt8} (hx:∀ c ∈ x,c≠10):Aa8 (x++10::r)=x::Aa8 r:=by
 have h:=Abu hx (r:=r) r.length nL
 have hl:(x++10::r).length=x.length+1+r.length:=by simp;omega
 rw [Aa8,hl,h,Aa8]
 simp only [List.cons_append]
 rw [Abv]
theorem Abg:∀ (n:Nat) (l:List UInt8),l.length≤n→Lib.splitK [10] 0 (l.count 10) l=Aa8 l
 | 0,l,h=>by
  have:l=[]:=List.eq_nil_of_length_eq_zero (by omega)
  subst this
  rw [Abi (fun c hc=>by cases hc)]
  rfl
 | n+1,l,h=>by
  by_cases hm:(10:UInt8) ∈ l
  ·obtain ⟨x,r,rfl,hx⟩:=List.eq_append_cons_of_mem hm
   have hx':∀ c ∈ x,c≠10:=fun c hc e=>hx (e ▸ hc)
   have h0:x.count 10=0:=List.count_eq_zero.2 hx
   have hc:(x++10::r).count 10=r.count 10+1:=by
    rw [List.count_append,h0,List.count_cons_self];omega
   have hi:Lib.index (x++10::r) [10]=(x.length:Int):=by rw [Lib.index_one,Og hx']
   rw [hc,Lib.splitK,hi,if_neg (by simp),Abq hx']
   have e1:(x++10::r).take ((x.length:Int).toNat+0)=x:=by simp
   have e2:(x++10::r).drop ((x.length:Int).toNat+[(10:UInt8)].length)=r:=by simp
   rw [e1,e2,Abg n r (by simp at h;omega)]
  ·have hx:∀ c ∈ l,c≠10:=fun c hc e=>hm (e ▸ hc)
   rw [List.count_eq_zero.2 hm,Abi hx]
   rfl
theorem Ace (l:List UInt8):((Lib.splitB ⟨#[10]⟩ 0 (Lib.countB ⟨l.toArray⟩ ⟨#[10]⟩) ⟨l.toArray⟩).map Value.string)=Am (Aa8 l)∧Lib.countB ⟨l.toArray⟩ ⟨#[10]⟩+1=(Aa8 l).length:=by
 have hc:Lib.countB ⟨l.toArray⟩ ⟨#[10]⟩=l.count 10:=by
  show Lib.count l.toArray.toList [10]=l.count 10
  rw [Lib.count_one]
 have hd:=Lib.splitB_data ⟨#[10]⟩ 0 (l.count 10) ⟨l.toArray⟩
 have hd2:(Lib.splitB ⟨#[10]⟩ 0 (l.count 10) ⟨l.toArray⟩).map (·.data.toList)=Aa8 l:=by
  rw [hd];exact Abg l.length l nL
 have hl:=Lib.splitB_all ⟨#[10]⟩ (by decide) 0 (l.count 10) ⟨l.toArray⟩ hc
 rw [hc]
 constructor
 ·rw [← hd2,Am,List.map_map]
  apply List.map_congr_left;intro s _
  simp [Py]
 ·rw [← hd2,List.length_map,hl]
theorem Acs (l:List UInt8) (m:Int) (w:World) (hl:l.length≤1048576) (hm:w.cell? ⟨10,0,none⟩=some (.int .i64 m)) :
  Calls prog 66 #[.string ⟨l.toArray⟩,.string ⟨#[10]⟩] w fun e w'=>∃ a,e=.returned (.slice a (Aa8 l).length (Aa8 l).length)∧Bh w' a (Aa8 l)∧BW w w':=by
 obtain ⟨h1,h2⟩:=Ace l
 have hs:(⟨l.toArray⟩:ByteArray).size<4294967281:=by
  show l.toArray.size<_
  rw [List.size_toArray];omega
 refine (strings_Split ⟨l.toArray⟩ ⟨#[10]⟩ m w hs hm (by decide)).mono ?_
 rintro e w' ⟨rfl,rfl⟩;rw [h1,h2]
 refine ⟨some ⟨w.heap.size,0,none⟩,rfl,.inr ⟨w.heap.size,0,rfl,by simp,fun i hi=>?_⟩,bR.alloc nL _⟩
 have:=Hd (Aa8 l) i hi
 simpa [go_sem] using this
end Go.Proofs.YtomiclakhjncbaaGreatDoor.Kb
namespace Go.Proofs.YtomiclakhjncbaaGreatDoor
open Go.RowKit Go.Proofs.Tryz
theorem Acp (a:Option Addr) (len cap:Nat) (zs:List Int) (w:World) (hr:pZ .u8 w a len cap zs) (hn:len≤1048576) :
  Calls prog 41 #[.slice a len cap,.int .i64 3] w fun e w'=>∃ k:Nat,k≤255∧e=.returned (.int .i64 k)∧w'=w:=by
 by_cases h3:3<len
 ·have hb:=uX (g:=w.heap.size) hr nL
  rcases hb with h0 | ⟨b,off,rfl,_,_,hbytes⟩
  ·omega
  ·obtain ⟨v,v0,v1,cb⟩:=hbytes 3 h3
   obtain ⟨k,rfl⟩:=Int.eq_ofNat_of_zero_le v0
   have h3i:(3:Int)<(len:Int):=by omega
   clear hbytes hr
   go_enter func41,ntmps41
   go_wp2;go_ret
   exact ⟨k,by omega,rfl,rfl⟩
 ·have h3i:¬ (3:Int)<(len:Int):=by omega
  clear hr
  go_enter func41,ntmps41
  go_wp2;go_ret
  exact ⟨(21+len) % 256,by omega,Af (by omega),rfl⟩
end Go.Proofs.YtomiclakhjncbaaGreatDoor
namespace Go.Proofs.YtomiclakhjncbaaGreatDoor
open Go.ChangeShapes Go.WideShapes Go.ChangeAt Go.RowKit Go.Proofs.Tryz
theorem rI:(Rows.laid_loop_example_g00126_impl_stepDays:DataW Unit)=Lib.tabData .i64 Mt:=by kernel_rfl
theorem rU : prog.globalNamed "loop.example/g00126/impl.stepDays" = some 16 := by kernel_rfl
theorem qY:(prog.globals[16]?).map (·.type)=some 352:=by kernel_rfl
theorem gF {rest : List (String × DataW Unit)} {w : World} (h : laidMet prog (("loop.example/g00126/impl.stepDays", Rows.laid_loop_example_g00126_impl_stepDays) :: rest) w) : Di w := by
 rw [rI] at h
 exact Lib.tabIs_of_head rU qY underlying352 underlying3 (by kernel_rfl) (by kernel_rfl) h
theorem iJ {w w':World} {n:String} {cs:Array Value} (h:w.var? prog n=some cs) (hb:BW w w'):w'.var? prog n=some cs:=by
 unfold World.var? at *
 cases hg:prog.globalNamed n with
 | none=>simp [hg] at h
 | some g =>
  simp only [hg,Option.bind_some] at h ⊢
  have hlt:g<w.heap.size:=by
   rcases Nat.lt_or_ge g w.heap.size with h' | h'
   ·exact h'
   ·rw [Array.getElem?_eq_none h'] at h;simp at h
  rw [hb.block g hlt];exact h
end Go.Proofs.YtomiclakhjncbaaGreatDoor
