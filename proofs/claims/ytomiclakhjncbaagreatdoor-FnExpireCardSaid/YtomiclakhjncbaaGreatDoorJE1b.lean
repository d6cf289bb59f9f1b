import Derived.Test.YtomiclakhjncbaaGreatDoorJE1a
import Derived.Conc.MuLone
import Derived.WideKeyEntry
import Derived.Test.YtomiclakhjncbaaGreatDoorCards
import Derived.Test.YtomiclakhjncbaaGreatDoorTie
import Derived.LaidMore
import Derived.Deep.DeepHandedRow
import Derived.Lay
import Derived.Stop.LaidErr
set_option maxRecDepth 100000
set_option maxHeartbeats 12800000
namespace Go.Proofs.YtomiclakhjncbaaGreatDoor
open Go.RowKit Go.Proofs.Tryz
def Sx (t:Int) (zs:List Int):Bool:=Dn t && Ct zs
def bsT (t:Int) (zs:List Int):Int:=if Sx t zs=true then t else 0
def bsL (t:Int) (zs:List Int):List Int:=if Sx t zs=true then zs else []
def bk0 (t:Int) (a:Option Addr) (n k:Nat):Value:=.agg #[.int .i64 t,.slice a n k,.slice none 0 0,.slice none 0 0,.slice none 0 0,.slice none 0 0]
def BsR (w:World) (t:Int) (zs:List Int) (e:Ending) (w':World):Prop :=
 ∃ a k,e=.returned (.tuple #[bk0 (bsT t zs) a (bsL t zs).length k,.bool (Sx t zs)])∧w'.ownsRow w.heap.size 3 1 (.slice a (bsL t zs).length k) (bsL t zs).length ((bsL t zs).map (Value.int .i64))∧BW w w'
def put6 (u:World) (h:Nat) (a b c d e f:Value):World:=((((((u.setCell ⟨h,0,none⟩ a).setCell ⟨h,1,none⟩ b).setCell ⟨h,2,none⟩ c).setCell ⟨h,3,none⟩ d).setCell ⟨h,4,none⟩ e).setCell ⟨h,5,none⟩ f)
theorem _root_.Go.RowKit.Below.put6 {w u:World} (h:BW w u) (a b c d e f:Value):Below w.heap.size w (put6 u w.heap.size a b c d e f) :=
 (((((h.setCell nL _).setCell nL _).setCell nL _).setCell nL _).setCell nL _).setCell nL _
theorem wQ {w u:World} {t:Int} {zs:List Int} (h:Sx t zs=false) (b:BW w u):BsR w t zs (.returned (.tuple #[bk0 0 none 0 0,.bool false])) u:=by
 have e1:bsT t zs=0:=by simp [bsT,h]
 have e2:bsL t zs=[]:=by simp [bsL,h]
 refine ⟨none,0,?_,?_,b⟩
 ·rw [e1,e2,h];rfl
 ·rw [e2];exact World.ownsRow_nil _ _ _ _
theorem yF {w:World} {base base' n:Nat} {v:Value} {xs:List Value} (h:w.ownsRow base 3 1 v n xs) (hb:base'≤base):w.ownsRow base' 3 1 v n xs:=by
 obtain ⟨h1,h2⟩:=h;refine ⟨h1,?_⟩
 rcases h2 with h2 | ⟨g,cap,uV,e1,e2,e3⟩
 ·exact .inl h2
 ·exact .inr ⟨g,cap,uV,e1,Nat.le_trans hb e2,e3⟩
theorem wB (u:World) (h:Nat) (a b c d e f:Value):u.grownBy (put6 u h a b c d e f) (some h):=by
 have g:∀ (x:World) (k:Nat) (v:Value),x.grownBy (x.setCell ⟨h,k,none⟩ v) (some h):=fun x k v=>⟨rfl,rfl,rfl,by simp,fun j _ hj=>Below.heap_setCell _ _ _ _ (fun e=>hj (by rw [e]))⟩
 exact (((((g _ _ _).trans (g _ _ _)).trans (g _ _ _)).trans (g _ _ _)).trans (g _ _ _)).trans (g _ _ _)
theorem yP {w u:World} {t:Int} {zs:List Int} {a:Option Addr} {k base:Nat} (h:Sx t zs=true) (o:u.ownsRow base 3 1 (.slice a zs.length k) zs.length (zs.map (Value.int .i64))) (hb:w.heap.size+1≤base) (b:BW w u) :
  BsR w t zs (.returned (.tuple #[bk0 t a zs.length k,.bool true])) (put6 u w.heap.size (.int .i64 t) (.slice a zs.length k) (.slice none 0 0) (.slice none 0 0) (.slice none 0 0) (.slice none 0 0)):=by
 have e1:bsT t zs=t:=by simp [bsT,h]
 have e2:bsL t zs=zs:=by simp [bsL,h]
 refine ⟨a,k,?_,?_,b.put6 _ _ _ _ _ _⟩
 ·rw [e1,e2,h]
 ·rw [e2]
  exact yF (o.kept (wB _ _ _ _ _ _ _ _) (.inr fun hh=>by have:=(o.lt _ hh).1;omega)) (by omega)
theorem zZ (t:Int) (ao:Option Addr) (c:Nat) (zs:List Int) (w:World) (hx:Aw w ao zs) (hn:zs.length≤1048576) :
  Calls prog 44 #[.int .i64 t,.slice ao zs.length c] w (BsR w t zs):=by
 obtain ⟨W,hW⟩:∃ W,W=w.alloc (.cells #[.int .i64 0,.slice none 0 0,.slice none 0 0,.slice none 0 0,.slice none 0 0,.slice none 0 0] 31):=⟨_,rfl⟩
 have c0:W.cell? ⟨w.heap.size,0,none⟩=some (.int .i64 0):=by rw [hW];simp
 have z0:W.frozen? ⟨w.heap.size,0,none⟩=false:=by rw [hW];simp [go_sem]
 have c1:W.cell? ⟨w.heap.size,1,none⟩=some (.slice none 0 0):=by rw [hW];simp
 have z1:W.frozen? ⟨w.heap.size,1,none⟩=false:=by rw [hW];simp [go_sem]
 have c2:W.cell? ⟨w.heap.size,2,none⟩=some (.slice none 0 0):=by rw [hW];simp
 have z2:W.frozen? ⟨w.heap.size,2,none⟩=false:=by rw [hW];simp [go_sem]
 have c3:W.cell? ⟨w.heap.size,3,none⟩=some (.slice none 0 0):=by rw [hW];simp
 have z3:W.frozen? ⟨w.heap.size,3,none⟩=false:=by rw [hW];simp [go_sem]
 have c4:W.cell? ⟨w.heap.size,4,none⟩=some (.slice none 0 0):=by rw [hW];simp
 have z4:W.frozen? ⟨w.heap.size,4,none⟩=false:=by rw [hW];simp [go_sem]
 have c5:W.cell? ⟨w.heap.size,5,none⟩=some (.slice none 0 0):=by rw [hW];simp
 have z5:W.frozen? ⟨w.heap.size,5,none⟩=false:=by rw [hW];simp [go_sem]
 have bW:BW w W:=by rw [hW];go_grown
 have hWs:W.heap.size=w.heap.size+1:=by rw [hW];simp
 have HW:Hid _:=hW;have HX:Hid (Aw W ao zs):=hx.below bW;have HBW:Hid (BW w W):=bW;have HWS:Hid (W.heap.size=w.heap.size+1):=hWs;clear hx bW hWs hW
 have HDK:Hid (∀ u,Calls prog 99 #[.int .i64 t] u fun e w'=>e=.returned (.bool (Dn t))∧w'=u):=fun u=>Bm t u
 have HOK:Hid (Calls prog 100 #[.slice ao zs.length c] W fun e w'=>e=.returned (.bool (Ct zs))∧BW W w'):=(Pp ao c zs W HX.o (by omega)).mono fun _ _ ⟨h,h2⟩=>⟨h,h2 ▸ bR⟩
 cases hd:Dn t
 ·have HB:Hid (Sx t zs=false):=by simp [Hid,Sx,hd]
  rw [hd] at HDK
  go_enter func44,ntmps44
  go_upto_region 1 with fail
  rw [← HW.o];go_wp2_with fail
  refine (HDK.o _).mono ?_;rintro e w1 ⟨rfl,hw1⟩;replace hw1:=hw1.symm;subst hw1;go_wp2
  refine bodyPost_ret (by simp [results,results44,go_sem,c0,c1,c2,c3,c4,c5];try rfl) rfl ?_
  exact wQ HB.o (HBW.o.put6 _ _ _ _ _ _)
 ·rw [hd] at HDK
  cases ho:Ct zs
  ·have HB:Hid (Sx t zs=false):=by simp [Hid,Sx,ho]
   rw [ho] at HOK
   go_enter func44,ntmps44
   go_upto_region 1 with fail
   rw [← HW.o];go_wp2_with fail
   refine (HDK.o _).mono ?_;rintro e w1 ⟨rfl,hw1⟩;replace hw1:=hw1.symm;subst hw1;go_wp2_with fail
   refine HOK.o.mono ?_;rintro e w2 ⟨rfl,b2⟩
   replace c0:=(b2.cell (p:=⟨w.heap.size,0,none⟩) (by have:=HWS.o;show w.heap.size<W.heap.size;omega)).trans c0
   replace z0:=(b2.frozen (p:=⟨w.heap.size,0,none⟩) (by have:=HWS.o;show w.heap.size<W.heap.size;omega)).trans z0
   replace c1:=(b2.cell (p:=⟨w.heap.size,1,none⟩) (by have:=HWS.o;show w.heap.size<W.heap.size;omega)).trans c1
   replace z1:=(b2.frozen (p:=⟨w.heap.size,1,none⟩) (by have:=HWS.o;show w.heap.size<W.heap.size;omega)).trans z1
   replace c2:=(b2.cell (p:=⟨w.heap.size,2,none⟩) (by have:=HWS.o;show w.heap.size<W.heap.size;omega)).trans c2
   replace z2:=(b2.frozen (p:=⟨w.heap.size,2,none⟩) (by have:=HWS.o;show w.heap.size<W.heap.size;omega)).trans z2
   replace c3:=(b2.cell (p:=⟨w.heap.size,3,none⟩) (by have:=HWS.o;show w.heap.size<W.heap.size;omega)).trans c3
   replace z3:=(b2.frozen (p:=⟨w.heap.size,3,none⟩) (by have:=HWS.o;show w.heap.size<W.heap.size;omega)).trans z3
   replace c4:=(b2.cell (p:=⟨w.heap.size,4,none⟩) (by have:=HWS.o;show w.heap.size<W.heap.size;omega)).trans c4
   replace z4:=(b2.frozen (p:=⟨w.heap.size,4,none⟩) (by have:=HWS.o;show w.heap.size<W.heap.size;omega)).trans z4
   replace c5:=(b2.cell (p:=⟨w.heap.size,5,none⟩) (by have:=HWS.o;show w.heap.size<W.heap.size;omega)).trans c5
   replace z5:=(b2.frozen (p:=⟨w.heap.size,5,none⟩) (by have:=HWS.o;show w.heap.size<W.heap.size;omega)).trans z5
   have HB2:Hid (BW w w2):=next HBW.o b2;have HX2:Hid (Aw w2 ao zs):=HX.o.below b2
   have HS2:Hid (w.heap.size+1≤w2.heap.size):=by have h1:=HWS.o;have h2:=b2.size;rw [Hid];omega
   clear b2;go_wp2
   refine bodyPost_ret (by simp [results,results44,go_sem,c0,c1,c2,c3,c4,c5];try rfl) rfl ?_
   exact wQ HB.o (HB2.o.put6 _ _ _ _ _ _)
  ·have HB:Hid (Sx t zs=true):=by simp [Hid,Sx,ho,hd]
   rw [ho] at HOK
   go_enter func44,ntmps44
   go_upto_region 1 with fail
   rw [← HW.o];go_wp2_with fail
   refine (HDK.o _).mono ?_;rintro e w1 ⟨rfl,hw1⟩;replace hw1:=hw1.symm;subst hw1;go_wp2_with fail
   refine HOK.o.mono ?_;rintro e w2 ⟨rfl,b2⟩
   replace c0:=(b2.cell (p:=⟨w.heap.size,0,none⟩) (by have:=HWS.o;show w.heap.size<W.heap.size;omega)).trans c0
   replace z0:=(b2.frozen (p:=⟨w.heap.size,0,none⟩) (by have:=HWS.o;show w.heap.size<W.heap.size;omega)).trans z0
   replace c1:=(b2.cell (p:=⟨w.heap.size,1,none⟩) (by have:=HWS.o;show w.heap.size<W.heap.size;omega)).trans c1
   replace z1:=(b2.frozen (p:=⟨w.heap.size,1,none⟩) (by have:=HWS.o;show w.heap.size<W.heap.size;omega)).trans z1
   replace c2:=(b2.cell (p:=⟨w.heap.size,2,none⟩) (by have:=HWS.o;show w.heap.size<W.heap.size;omega)).trans c2
   replace z2:=(b2.frozen (p:=⟨w.heap.size,2,none⟩) (by have:=HWS.o;show w.heap.size<W.heap.size;omega)).trans z2
   replace c3:=(b2.cell (p:=⟨w.heap.size,3,none⟩) (by have:=HWS.o;show w.heap.size<W.heap.size;omega)).trans c3
   replace z3:=(b2.frozen (p:=⟨w.heap.size,3,none⟩) (by have:=HWS.o;show w.heap.size<W.heap.size;omega)).trans z3
   replace c4:=(b2.cell (p:=⟨w.heap.size,4,none⟩) (by have:=HWS.o;show w.heap.size<W.heap.size;omega)).trans c4
   replace z4:=(b2.frozen (p:=⟨w.heap.size,4,none⟩) (by have:=HWS.o;show w.heap.size<W.heap.size;omega)).trans z4
   replace c5:=(b2.cell (p:=⟨w.heap.size,5,none⟩) (by have:=HWS.o;show w.heap.size<W.heap.size;omega)).trans c5
   replace z5:=(b2.frozen (p:=⟨w.heap.size,5,none⟩) (by have:=HWS.o;show w.heap.size<W.heap.size;omega)).trans z5
   have HB2:Hid (BW w w2):=next HBW.o b2;have HX2:Hid (Aw w2 ao zs):=HX.o.below b2
   have HS2:Hid (w.heap.size+1≤w2.heap.size):=by have h1:=HWS.o;have h2:=b2.size;rw [Hid];omega
   clear b2;go_wp2_with fail
   refine (fC w2.heap.size ao c zs _ (by simp) (HX2.o.below (bR.alloc nL _)) (by omega)).mono ?_
   rintro e w3 ⟨a2,k2,rfl,o3,b3⟩
   have bb:BW w2 w3:=(bR.alloc nL _).trans (b3.mono (by simp))
   replace c0:=(bb.cell (p:=⟨w.heap.size,0,none⟩) (by have:=HS2.o;show w.heap.size<w2.heap.size;omega)).trans c0
   replace z0:=(bb.frozen (p:=⟨w.heap.size,0,none⟩) (by have:=HS2.o;show w.heap.size<w2.heap.size;omega)).trans z0
   replace c1:=(bb.cell (p:=⟨w.heap.size,1,none⟩) (by have:=HS2.o;show w.heap.size<w2.heap.size;omega)).trans c1
   replace z1:=(bb.frozen (p:=⟨w.heap.size,1,none⟩) (by have:=HS2.o;show w.heap.size<w2.heap.size;omega)).trans z1
   replace c2:=(bb.cell (p:=⟨w.heap.size,2,none⟩) (by have:=HS2.o;show w.heap.size<w2.heap.size;omega)).trans c2
   replace z2:=(bb.frozen (p:=⟨w.heap.size,2,none⟩) (by have:=HS2.o;show w.heap.size<w2.heap.size;omega)).trans z2
   replace c3:=(bb.cell (p:=⟨w.heap.size,3,none⟩) (by have:=HS2.o;show w.heap.size<w2.heap.size;omega)).trans c3
   replace z3:=(bb.frozen (p:=⟨w.heap.size,3,none⟩) (by have:=HS2.o;show w.heap.size<w2.heap.size;omega)).trans z3
   replace c4:=(bb.cell (p:=⟨w.heap.size,4,none⟩) (by have:=HS2.o;show w.heap.size<w2.heap.size;omega)).trans c4
   replace z4:=(bb.frozen (p:=⟨w.heap.size,4,none⟩) (by have:=HS2.o;show w.heap.size<w2.heap.size;omega)).trans z4
   replace c5:=(bb.cell (p:=⟨w.heap.size,5,none⟩) (by have:=HS2.o;show w.heap.size<w2.heap.size;omega)).trans c5
   replace z5:=(bb.frozen (p:=⟨w.heap.size,5,none⟩) (by have:=HS2.o;show w.heap.size<w2.heap.size;omega)).trans z5
   have HB3:Hid (BW w w3):=next HB2.o bb
   have HO3:Hid (w3.ownsRow (w.heap.size+1) 3 1 (.slice a2 zs.length k2) zs.length (zs.map (Value.int .i64))):=yF o3 (by have:=HS2.o;simp;omega)
   clear bb o3 b3;go_wp2
   refine bodyPost_ret (by simp [results,results44,go_sem,c0,c1,c2,c3,c4,c5];try rfl) rfl ?_
   exact yP HB.o HO3.o nL HB3.o
theorem vR (t:Int) (ao:Option Addr) (c:Nat) (zs:List Int) (w:World) (hx:Aw w ao zs) (hn:zs.length≤1048576) :
  Calls prog 45 #[.int .i64 t,.slice ao zs.length c] w (BsR w t zs):=by
 obtain ⟨W,hW⟩:∃ W,W=w.alloc (.cells #[.int .i64 0,.slice none 0 0,.slice none 0 0,.slice none 0 0,.slice none 0 0,.slice none 0 0] 31):=⟨_,rfl⟩
 have c0:W.cell? ⟨w.heap.size,0,none⟩=some (.int .i64 0):=by rw [hW];simp
 have z0:W.frozen? ⟨w.heap.size,0,none⟩=false:=by rw [hW];simp [go_sem]
 have c1:W.cell? ⟨w.heap.size,1,none⟩=some (.slice none 0 0):=by rw [hW];simp
 have z1:W.frozen? ⟨w.heap.size,1,none⟩=false:=by rw [hW];simp [go_sem]
 have c2:W.cell? ⟨w.heap.size,2,none⟩=some (.slice none 0 0):=by rw [hW];simp
 have z2:W.frozen? ⟨w.heap.size,2,none⟩=false:=by rw [hW];simp [go_sem]
 have c3:W.cell? ⟨w.heap.size,3,none⟩=some (.slice none 0 0):=by rw [hW];simp
 have z3:W.frozen? ⟨w.heap.size,3,none⟩=false:=by rw [hW];simp [go_sem]
 have c4:W.cell? ⟨w.heap.size,4,none⟩=some (.slice none 0 0):=by rw [hW];simp
 have z4:W.frozen? ⟨w.heap.size,4,none⟩=false:=by rw [hW];simp [go_sem]
 have c5:W.cell? ⟨w.heap.size,5,none⟩=some (.slice none 0 0):=by rw [hW];simp
 have z5:W.frozen? ⟨w.heap.size,5,none⟩=false:=by rw [hW];simp [go_sem]
 have bW:BW w W:=by rw [hW];go_grown
 have hWs:W.heap.size=w.heap.size+1:=by rw [hW];simp
 have HW:Hid _:=hW;have HX:Hid (Aw W ao zs):=hx.below bW;have HBW:Hid (BW w W):=bW;have HWS:Hid (W.heap.size=w.heap.size+1):=hWs;clear hx bW hWs hW
 have HDK:Hid (∀ u,Calls prog 102 #[.int .i64 t] u fun e w'=>e=.returned (.bool (Dn t))∧w'=u):=fun u=>A9 t u
 have HOK:Hid (Calls prog 103 #[.slice ao zs.length c] W fun e w'=>e=.returned (.bool (Ct zs))∧BW W w'):=Rk ao c zs W HX.o (by omega)
 cases hd:Dn t
 ·have HB:Hid (Sx t zs=false):=by simp [Hid,Sx,hd]
  rw [hd] at HDK
  go_enter func45,ntmps45
  go_upto_region 1 with fail
  rw [← HW.o];go_wp2_with fail
  refine (HDK.o _).mono ?_;rintro e w1 ⟨rfl,hw1⟩;replace hw1:=hw1.symm;subst hw1;go_wp2
  refine bodyPost_ret (by simp [results,results45,go_sem,c0,c1,c2,c3,c4,c5];try rfl) rfl ?_
  exact wQ HB.o (HBW.o.put6 _ _ _ _ _ _)
 ·rw [hd] at HDK
  cases ho:Ct zs
  ·have HB:Hid (Sx t zs=false):=by simp [Hid,Sx,ho]
   rw [ho] at HOK
   go_enter func45,ntmps45
   go_upto_region 1 with fail
   rw [← HW.o];go_wp2_with fail
   refine (HDK.o _).mono ?_;rintro e w1 ⟨rfl,hw1⟩;replace hw1:=hw1.symm;subst hw1;go_wp2_with fail
   refine HOK.o.mono ?_;rintro e w2 ⟨rfl,b2⟩
   replace c0:=(b2.cell (p:=⟨w.heap.size,0,none⟩) (by have:=HWS.o;show w.heap.size<W.heap.size;omega)).trans c0
   replace z0:=(b2.frozen (p:=⟨w.heap.size,0,none⟩) (by have:=HWS.o;show w.heap.size<W.heap.size;omega)).trans z0
   replace c1:=(b2.cell (p:=⟨w.heap.size,1,none⟩) (by have:=HWS.o;show w.heap.size<W.heap.size;omega)).trans c1
   replace z1:=(b2.frozen (p:=⟨w.heap.size,1,none⟩) (by have:=HWS.o;show w.heap.size<W.heap.size;omega)).trans z1
   replace c2:=(b2.cell (p:=⟨w.heap.size,2,none⟩) (by have:=HWS.o;show w.heap.size<W.heap.size;omega)).trans c2
   replace z2:=(b2.frozen (p:=⟨w.heap.size,2,none⟩) (by have:=HWS.o;show w.heap.size<W.heap.size;omega)).trans z2
   replace c3:=(b2.cell (p:=⟨w.heap.size,3,none⟩) (by have:=HWS.o;show w.heap.size<W.heap.size;omega)).trans c3
   replace z3:=(b2.frozen (p:=⟨w.heap.size,3,none⟩) (by have:=HWS.o;show w.heap.size<W.heap.size;omega)).trans z3
   replace c4:=(b2.cell (p:=⟨w.heap.size,4,none⟩) (by have:=HWS.o;show w.heap.size<W.heap.size;omega)).trans c4
   replace z4:=(b2.frozen (p:=⟨w.heap.size,4,none⟩) (by have:=HWS.o;show w.heap.size<W.heap.size;omega)).trans z4
   replace c5:=(b2.cell (p:=⟨w.heap.size,5,none⟩) (by have:=HWS.o;show w.heap.size<W.heap.size;omega)).trans c5
   replace z5:=(b2.frozen (p:=⟨w.heap.size,5,none⟩) (by have:=HWS.o;show w.heap.size<W.heap.size;omega)).trans z5
   have HB2:Hid (BW w w2):=next HBW.o b2;have HX2:Hid (Aw w2 ao zs):=HX.o.below b2
   have HS2:Hid (w.heap.size+1≤w2.heap.size):=by have h1:=HWS.o;have h2:=b2.size;rw [Hid];omega
   clear b2;go_wp2
   refine bodyPost_ret (by simp [results,results45,go_sem,c0,c1,c2,c3,c4,c5];try rfl) rfl ?_
   exact wQ HB.o (HB2.o.put6 _ _ _ _ _ _)
  ·have HB:Hid (Sx t zs=true):=by simp [Hid,Sx,ho,hd]
   rw [ho] at HOK
   go_enter func45,ntmps45
   go_upto_region 1 with fail
   rw [← HW.o];go_wp2_with fail
   refine (HDK.o _).mono ?_;rintro e w1 ⟨rfl,hw1⟩;replace hw1:=hw1.symm;subst hw1;go_wp2_with fail
   refine HOK.o.mono ?_;rintro e w2 ⟨rfl,b2⟩
   replace c0:=(b2.cell (p:=⟨w.heap.size,0,none⟩) (by have:=HWS.o;show w.heap.size<W.heap.size;omega)).trans c0
   replace z0:=(b2.frozen (p:=⟨w.heap.size,0,none⟩) (by have:=HWS.o;show w.heap.size<W.heap.size;omega)).trans z0
   replace c1:=(b2.cell (p:=⟨w.heap.size,1,none⟩) (by have:=HWS.o;show w.heap.size<W.heap.size;omega)).trans c1
   replace z1:=(b2.frozen (p:=⟨w.heap.size,1,none⟩) (by have:=HWS.o;show w.heap.size<W.heap.size;omega)).trans z1
   replace c2:=(b2.cell (p:=⟨w.heap.size,2,none⟩) (by have:=HWS.o;show w.heap.size<W.heap.size;omega)).trans c2
   replace z2:=(b2.frozen (p:=⟨w.heap.size,2,none⟩) (by have:=HWS.o;show w.heap.size<W.heap.size;omega)).trans z2
   replace c3:=(b2.cell (p:=⟨w.heap.size,3,none⟩) (by have:=HWS.o;show w.heap.size<W.heap.size;omega)).trans c3
   replace z3:=(b2.frozen (p:=⟨w.heap.size,3,none⟩) (by have:=HWS.o;show w.heap.size<W.heap.size;omega)).trans z3
   replace c4:=(b2.cell (p:=⟨w.heap.size,4,none⟩) (by have:=HWS.o;show w.heap.size<W.heap.size;omega)).trans c4
   replace z4:=(b2.frozen (p:=⟨w.heap.size,4,none⟩) (by have:=HWS.o;show w.heap.size<W.heap.size;omega)).trans z4
   replace c5:=(b2.cell (p:=⟨w.heap.size,5,none⟩) (by have:=HWS.o;show w.heap.size<W.heap.size;omega)).trans c5
   replace z5:=(b2.frozen (p:=⟨w.heap.size,5,none⟩) (by have:=HWS.o;show w.heap.size<W.heap.size;omega)).trans z5
   have HB2:Hid (BW w w2):=next HBW.o b2;have HX2:Hid (Aw w2 ao zs):=HX.o.below b2
   have HS2:Hid (w.heap.size+1≤w2.heap.size):=by have h1:=HWS.o;have h2:=b2.size;rw [Hid];omega
   clear b2
   have HOE:Hid ((w2.alloc (.cells #[] 3)).ownsRow (w.heap.size+1) 3 1 (.slice (some ⟨w2.heap.size,0,none⟩) 0 0) 0 []):=World.ownsRow_lit w2 #[] 0 HS2.o (by unfold maxLen;omega) rfl
   go_wp2_with (at_builtin;refine Gf _ rfl (.tmp 16) (.tmp 17) rfl (w.heap.size+1) _ 0 [] rfl HOE.o ao c zs rfl (HX2.o.below (bR.alloc nL _)) (by omega) (by have:=HS2.o;simp;omega) ?_;intro v3 w3 o3 g3;obtain ⟨a2,k2,hv3⟩:=Fz o3;rw [Nat.zero_add] at hv3;subst hv3;rw [Nat.zero_add,List.nil_append] at o3;have bb:BW w2 w3:=(bR.alloc nL _).grown g3 (by simp) (fun j hj=>by have hj2:some w2.heap.size=some j:=hj;injection hj2 with hj2;omega);replace c0:=(bb.cell (p:=⟨w.heap.size,0,none⟩) (by have:=HS2.o;show w.heap.size<w2.heap.size;omega)).trans c0;replace z0:=(bb.frozen (p:=⟨w.heap.size,0,none⟩) (by have:=HS2.o;show w.heap.size<w2.heap.size;omega)).trans z0;replace c1:=(bb.cell (p:=⟨w.heap.size,1,none⟩) (by have:=HS2.o;show w.heap.size<w2.heap.size;omega)).trans c1;replace z1:=(bb.frozen (p:=⟨w.heap.size,1,none⟩) (by have:=HS2.o;show w.heap.size<w2.heap.size;omega)).trans z1;replace c2:=(bb.cell (p:=⟨w.heap.size,2,none⟩) (by have:=HS2.o;show w.heap.size<w2.heap.size;omega)).trans c2;replace z2:=(bb.frozen (p:=⟨w.heap.size,2,none⟩) (by have:=HS2.o;show w.heap.size<w2.heap.size;omega)).trans z2;replace c3:=(bb.cell (p:=⟨w.heap.size,3,none⟩) (by have:=HS2.o;show w.heap.size<w2.heap.size;omega)).trans c3;replace z3:=(bb.frozen (p:=⟨w.heap.size,3,none⟩) (by have:=HS2.o;show w.heap.size<w2.heap.size;omega)).trans z3;replace c4:=(bb.cell (p:=⟨w.heap.size,4,none⟩) (by have:=HS2.o;show w.heap.size<w2.heap.size;omega)).trans c4;replace z4:=(bb.frozen (p:=⟨w.heap.size,4,none⟩) (by have:=HS2.o;show w.heap.size<w2.heap.size;omega)).trans z4;replace c5:=(bb.cell (p:=⟨w.heap.size,5,none⟩) (by have:=HS2.o;show w.heap.size<w2.heap.size;omega)).trans c5;replace z5:=(bb.frozen (p:=⟨w.heap.size,5,none⟩) (by have:=HS2.o;show w.heap.size<w2.heap.size;omega)).trans z5)
   have HB3:Hid (BW w w3):=next HB2.o bb;have HO3:Hid (w3.ownsRow (w.heap.size+1) 3 1 (.slice a2 zs.length k2) zs.length (zs.map (Value.int .i64))):=o3;clear bb o3 g3 HOE;go_wp2
   refine bodyPost_ret (by simp [results,results45,go_sem,c0,c1,c2,c3,c4,c5];try rfl) rfl ?_
   exact yP HB.o HO3.o nL HB3.o
namespace Kb
open Go.RowKit Go.Conc.Locks Go.Proofs.Tryz
abbrev muL:MuLink:={ lock:=113,unlock:=114,ilock:=156,iunlock:=157,lockSlow:=195,unlockSlow:=198,disable:=191,enable:=193,acquire:=194,relMerge:=196,cas32:=192,add32:=197,tMutex:=141,tIMutex:=139,tPMutex:=192,tPIMutex:=236,tPI32:=238,tUP:=203,tNoCopy:=136,tU32:=137 }
theorem muH:MuLib prog muL:=⟨func113,func114,func156,func157,func191,func193,func194,func196,func192,func197,underlying139,runUnderlying139,sizeOf139,isAgg139,zeroValue139,underlying141,runUnderlying141,sizeOf141,isAgg141,zeroValue141,underlying192,runUnderlying192,sizeOf192,isAgg192,zeroValue192,underlying236,runUnderlying236,sizeOf236,isAgg236,zeroValue236,underlying238,runUnderlying238,sizeOf238,isAgg238,zeroValue238,underlying203,runUnderlying203,sizeOf203,isAgg203,zeroValue203,underlying136,runUnderlying136,sizeOf136,isAgg136,zeroValue136,underlying21,runUnderlying21,sizeOf21,isAgg21,zeroValue21,by kernel_rfl⟩
end Kb
namespace Kb
theorem mZ {l:List UInt8} (h:∀ c ∈ l,c≠32):∀ i,i≤l.length→B0 l i=([],0):=by
 intro i
 induction i with
 | zero=>intro _;rfl
 | succ i ih =>
  intro hi
  have hg:l.getD i 0=l[i]:=by
   rw [List.getD_eq_getElem?_getD,List.getElem?_eq_getElem (by omega)];rfl
  rw [J7 (by rw [hg];exact h _ (List.getElem_mem _))]
  exact ih (by omega)
theorem Qw {l:List UInt8} (h:∀ c ∈ l,c≠32):Ab l=[l]:=by
 rw [Ab,mZ h _ nL];rfl
theorem Zx {x r:List UInt8} (hx:∀ c ∈ x,c≠32):∀ i,i≤x.length→B0 (x++32::r) i=([],0):=by
 intro i
 induction i with
 | zero=>intro _;rfl
 | succ i ih =>
  intro hi
  have hg:(x++32::r).getD i 0=x[i]:=by
   rw [List.getD_eq_getElem?_getD,List.getElem?_append_left (by omega),List.getElem?_eq_getElem (by omega)]
   rfl
  rw [J7 (by rw [hg];exact hx _ (List.getElem_mem _))]
  exact ih (by omega)
theorem cX (x r:List UInt8) (s:Nat):(x++32::r).drop (x.length+1+s)=r.drop s:=by
 rw [List.drop_append,List.drop_of_length_le (by omega),List.nil_append,show x.length+1+s - x.length=s+1 from by omega]
 rfl
theorem Yo {x r:List UInt8} (hx:∀ c ∈ x,c≠32):∀ j,j≤r.length→B0 (x++32::r) (x.length+1+j)=(x::(B0 r j).1,x.length+1+(B0 r j).2):=by
 intro j
 induction j with
 | zero =>
  intro _
  have hg:(x++32::r).getD x.length 0=32:=by simp [List.getD_eq_getElem?_getD]
  show B0 (x++32::r) (x.length+1)=_
  rw [Kw hg,Zx hx _ nL]
  simp [B0]
 | succ j ih =>
  intro hj
  have h:=ih (by omega)
  have hg:(x++32::r).getD (x.length+1+j) 0=r.getD j 0:=by
   rw [List.getD_eq_getElem?_getD,List.getElem?_append_right (by omega),show x.length+1+j - x.length=j+1 from by omega]
   simp [List.getD_eq_getElem?_getD]
  have hle:=(Mo r j).1
  by_cases h32:r.getD j 0=32
  ·rw [show x.length+1+(j+1)=(x.length+1+j)+1 from by omega,Kw (by rw [hg];exact h32),h,Kw h32]
   simp only [List.cons_append]
   rw [cX,show x.length+1+j - (x.length+1+(B0 r j).2)=j - (B0 r j).2 from by omega]
   rfl
  ·rw [show x.length+1+(j+1)=(x.length+1+j)+1 from by omega,J7 (by rw [hg];exact h32),h,J7 h32]
theorem Xo {x r:List UInt8} (hx:∀ c ∈ x,c≠32):Ab (x++32::r)=x::Ab r:=by
 have h:=Yo hx (r:=r) r.length nL
 have hl:(x++32::r).length=x.length+1+r.length:=by simp;omega
 rw [Ab,hl,h,Ab]
 simp only [List.cons_append]
 rw [cX]
theorem Yf {c:UInt8} : ∀ {l:List UInt8},(∀ x ∈ l,x≠c)→Lib.indexByte l c = -1
 | [],_=>rfl
 | b::l,h=>by
  have hb:(b == c)=false:=by simpa using h b (by simp)
  rw [Lib.indexByte,hb,Yf (fun x hx=>h x (by simp [hx]))]
  simp
theorem Og {c:UInt8} {r:List UInt8} : ∀ {x:List UInt8},(∀ y ∈ x,y≠c)→Lib.indexByte (x++c::r) c=x.length
 | [],_=>by simp [Lib.indexByte]
 | b::l,h=>by
  have hb:(b == c)=false:=by simpa using h b (by simp)
  have ih:=Og (r:=r) (x:=l) (fun y hy=>h y (by simp [hy]))
  rw [List.cons_append,Lib.indexByte,hb,ih]
  have:¬ ((l.length:Int) = -1):=by omega
  simp [this]
theorem Ok:∀ (n:Nat) (l:List UInt8),l.length≤n→Lib.splitK [32] 0 (l.count 32) l=Ab l
 | 0,l,h=>by
  have:l=[]:=List.eq_nil_of_length_eq_zero (by omega)
  subst this
  rw [Qw (fun c hc=>by cases hc)]
  rfl
 | n+1,l,h=>by
  by_cases hm:(32:UInt8) ∈ l
  ·obtain ⟨x,r,rfl,hx⟩:=List.eq_append_cons_of_mem hm
   have hx':∀ c ∈ x,c≠32:=fun c hc e=>hx (e ▸ hc)
   have h0:x.count 32=0:=List.count_eq_zero.2 hx
   have hc:(x++32::r).count 32=r.count 32+1:=by
    rw [List.count_append,h0,List.count_cons_self];omega
   have hi:Lib.index (x++32::r) [32]=(x.length:Int):=by rw [Lib.index_one,Og hx']
   rw [hc,Lib.splitK,hi,if_neg (by simp),Xo hx']
   have e1:(x++32::r).take ((x.length:Int).toNat+0)=x:=by simp
   have e2:(x++32::r).drop ((x.length:Int).toNat+[(32:UInt8)].length)=r:=by simp
   rw [e1,e2,Ok n r (by simp at h;omega)]
  ·have hx:∀ c ∈ l,c≠32:=fun c hc e=>hm (e ▸ hc)
   rw [List.count_eq_zero.2 hm,Qw hx]
   rfl
theorem jP (l:List UInt8):((Lib.splitB ⟨#[32]⟩ 0 (Lib.countB ⟨l.toArray⟩ ⟨#[32]⟩) ⟨l.toArray⟩).map Value.string)=Am (Ab l)∧Lib.countB ⟨l.toArray⟩ ⟨#[32]⟩+1=(Ab l).length:=by
 have hc:Lib.countB ⟨l.toArray⟩ ⟨#[32]⟩=l.count 32:=by
  show Lib.count l.toArray.toList [32]=l.count 32
  rw [Lib.count_one]
 have hd:=Lib.splitB_data ⟨#[32]⟩ 0 (l.count 32) ⟨l.toArray⟩
 have hd2:(Lib.splitB ⟨#[32]⟩ 0 (l.count 32) ⟨l.toArray⟩).map (·.data.toList)=Ab l:=by
  rw [hd];exact Ok l.length l nL
 have hl:=Lib.splitB_all ⟨#[32]⟩ (by decide) 0 (l.count 32) ⟨l.toArray⟩ hc
 rw [hc]
 constructor
 ·rw [← hd2,Am,List.map_map]
  apply List.map_congr_left;intro s _
  simp [Py]
 ·rw [← hd2,List.length_map,hl]
theorem qS (l:List UInt8) (m:Int) (w:World) (hl:l.length≤1048576) (hm:w.cell? ⟨10,0,none⟩=some (.int .i64 m)) :
  Calls prog 66 #[.string ⟨l.toArray⟩,.string ⟨#[32]⟩] w fun e w'=>∃ a,e=.returned (.slice a (Ab l).length (Ab l).length)∧Bh w' a (Ab l)∧BW w w':=by
 obtain ⟨h1,h2⟩:=jP l
 have hs:(⟨l.toArray⟩:ByteArray).size<4294967281:=by
  show l.toArray.size<_
  rw [List.size_toArray];omega
 refine (strings_Split ⟨l.toArray⟩ ⟨#[32]⟩ m w hs hm (by decide)).mono ?_
 rintro e w' ⟨rfl,rfl⟩;rw [h1,h2]
 refine ⟨some ⟨w.heap.size,0,none⟩,rfl,.inr ⟨w.heap.size,0,rfl,by simp,fun i hi=>?_⟩,bR.alloc nL _⟩
 have:=Hd (Ab l) i hi
 simpa [go_sem] using this
end Kb
def Nj (x:Cd):List Value:=[.int .i64 x.1,.int .i64 x.2]
def Fj (H:List Cd):List Value:=H.flatMap Nj
theorem O0 (x:Cd) (r:List Cd):Fj (x::r)=.int .i64 x.1::.int .i64 x.2::Fj r:=rfl
theorem Sa (a b:List Cd):Fj (a++b)=Fj a++Fj b:=by simp [Fj]
theorem gH (H:List Cd):∀ k,k<H.length→(Fj H)[k*2]?=some (.int .i64 (Bc H k).1)∧(Fj H)[k*2+1]?=some (.int .i64 (Bc H k).2):=by
 induction H with
 | nil=>intro k h;simp at h
 | cons x r ih =>
  intro k h;rw [O0]
  cases k with
  | zero=>exact ⟨rfl,rfl⟩
  | succ k =>
   have:=ih k (by simpa using h)
   rw [show (k+1) * 2=k*2+1+1 by omega,List.getElem?_cons_succ,List.getElem?_cons_succ,List.getElem?_cons_succ,List.getElem?_cons_succ]
   exact this
theorem Yh (H:List Cd) (x:Cd):∀ k,k<H.length→((Fj H).set (k*2) (.int .i64 x.1)).set (k*2+1) (.int .i64 x.2)=Fj (H.set k x):=by
 induction H with
 | nil=>intro k h;simp at h
 | cons g r ih =>
  intro k h;rw [O0]
  cases k with
  | zero=>rfl
  | succ k =>
   have:=ih k (by simpa using h)
   rw [show (k+1) * 2=k*2+1+1 by omega,List.set_cons_succ,List.set_cons_succ,List.set_cons_succ,List.set_cons_succ,this]
   rfl
theorem Yu (H:List Cd):∀ u ∈ Fj H,u.oneCell'=true:=by
 intro u hu;obtain ⟨a,_,h⟩:=List.mem_flatMap.1 hu
 simp only [Nj,List.mem_cons,List.not_mem_nil,or_false] at h
 rcases h with rfl | rfl <;> rfl
theorem iP:(prog.info? 294).map (fun i=>(i.zero,i.size,i.bytes))=some (some (.agg #[.int .i64 0,.int .i64 0]),2,16):=by kernel_rfl
structure HP (q:Option (Nat×Obj)) (w:World) (H:List Cd) (ao:Option Addr) (cap:Nat) (u:World):Prop where
 bel:BW w u
 box:u.cell? ⟨w.heap.size,0,none⟩=some (.slice ao H.length cap)
 fz:u.frozen? ⟨w.heap.size,0,none⟩=false
 own:u.ownsRow (w.heap.size+1) 294 2 (.slice ao H.length cap) H.length (Fj H)
 kp:∀ b o,q=some (b,o)→u.heap[b]?=some o∧w.heap.size<b∧∀ x,(Value.slice ao H.length cap).ownBlock=some x→x≠b
theorem HP.lt {q:Option (Nat×Obj)} {w u:World} {H:List Cd} {ao:Option Addr} {cap:Nat} (h:HP q w H ao cap u):w.heap.size<u.heap.size:=World.block_lt_of_cell? u _ h.box
theorem pT {w w':World} {base n size:Nat} {t:TypeId} {v:Value} {xs:List Value} (h:w.ownsRow base t size v n xs) (hb:BW w w'):w'.ownsRow base t size v n xs:=by
 obtain ⟨h1,h2⟩:=h;refine ⟨h1,?_⟩
 rcases h2 with h | ⟨g,cap,uV,hv,hg,hh,a1,a2,a3,a4⟩
 ·exact .inl h
 ·have hlt:g<w.heap.size:=(Array.getElem?_eq_some_iff.1 hh).1
  exact .inr ⟨g,cap,uV,hv,hg,(hb.block g hlt).trans hh,a1,a2,a3,a4⟩
theorem HP.below {q:Option (Nat×Obj)} {w u u':World} {H:List Cd} {ao:Option Addr} {cap:Nat} (h:HP q w H ao cap u) (b:BW u u'):HP q w H ao cap u' :=
 ⟨h.bel.trans (b.mono h.bel.size),(b.cell (p:=⟨w.heap.size,0,none⟩) h.lt).trans h.box,(b.frozen (p:=⟨w.heap.size,0,none⟩) h.lt).trans h.fz,pT h.own b,fun x o e=>by
  obtain ⟨h1,h2,h3⟩:=h.kp x o e;exact ⟨(b.block x (Array.getElem?_eq_some_iff.1 h1).1).trans h1,h2,h3⟩⟩
theorem HP.row {q:Option (Nat×Obj)} {w u:World} {H:List Cd} {ao:Option Addr} {cap:Nat} (h:HP q w H ao cap u) (h0:0<H.length):∃ g,ao=some ⟨g,0,none⟩∧w.heap.size<g∧g<u.heap.size:=by
 rcases h.own.2 with ⟨hv,hn⟩ | ⟨g,c,uV,hv,hg,_⟩
 ·omega
 ·obtain ⟨rfl,rfl⟩:ao=some ⟨g,0,none⟩∧cap=c:=by simpa using hv
  exact ⟨g,rfl,by omega,(h.own.lt g rfl).2⟩
theorem HP.at {q:Option (Nat×Obj)} {w u:World} {H:List Cd} {g:Nat} {cap:Nat} (h:HP q w H (some ⟨g,0,none⟩) cap u) {k:Nat} (hk:k<H.length):u.cell? ⟨g,k*2,none⟩=some (.int .i64 (Bc H k).1)∧u.cell? ⟨g,k*2+1,none⟩=some (.int .i64 (Bc H k).2):=by
 have hl:=h.own.1
 rw [h.own.cellAt (k*2) (by omega),h.own.cellAt (k*2+1) (by omega)]
 exact gH H k hk
theorem HP.apart {q:Option (Nat×Obj)} {w u:World} {H:List Cd} {ao:Option Addr} {cap:Nat} (h:HP q w H ao cap u):some w.heap.size≠(Value.slice ao H.length cap).ownBlock:=fun e=>by have:=(h.own.lt _ e.symm).1;omega
theorem Qt {w:World} {g k g' k':Nat} {v u:Value} (h:g≠g') (hc:w.cell? ⟨g',k',none⟩=some u):(w.setCell ⟨g,k,none⟩ v).cell? ⟨g',k',none⟩=some u:=by
 rw [World.cell?_setCell_other w ⟨g,k,none⟩ v (b:=⟨g',k',none⟩) (fun e=>by injection e with e1 e2;exact h e1)];exact hc
theorem HP.setAt {q:Option (Nat×Obj)} {w u:World} {H:List Cd} {g:Nat} {cap:Nat} (h:HP q w H (some ⟨g,0,none⟩) cap u) {k:Nat} (hk:k<H.length) (x:Cd):HP q w (H.set k x) (some ⟨g,0,none⟩) cap ((u.setCell ⟨g,k*2,none⟩ (.int .i64 x.1)).setCell ⟨g,k*2+1,none⟩ (.int .i64 x.2)):=by
 obtain ⟨g',e,hg,_⟩:=h.row (by omega)
 obtain rfl:g=g':=by simpa using e
 have R0:=h.own.stored (k*2) (.int .i64 x.1);have R1:=R0.1.stored (k*2+1) (.int .i64 x.2);have R:=R1.1;rw [Yh H x k hk] at R
 refine ⟨(h.bel.setCell (Nat.le_of_lt hg) _).setCell (Nat.le_of_lt hg) _,?_,?_,by rw [List.length_set];exact R,fun b o e=>?_⟩
 ·rw [List.length_set]
  exact Qt (by omega) (Qt (by omega) h.box)
 ·simp [h.fz]
 ·obtain ⟨h1,h2,h3⟩:=h.kp b o e
  have hgb:g≠b:=h3 g rfl
  refine ⟨?_,h2,by rw [List.length_set];exact h3⟩
  rw [Below.heap_setCell _ _ _ _ (fun e=>hgb e.symm),Below.heap_setCell _ _ _ _ (fun e=>hgb e.symm)]
  exact h1
theorem mQ (a : Value) (w : World) : (method 501 322 a "Push").run prog w = .ok (403, a) w := by kernel_rfl
theorem nV (a : Value) (w : World) : (method 501 322 a "Pop").run prog w = .ok (402, a) w := by kernel_rfl
theorem rN (a : Addr) (nm : String) (w : World) : (Builtin.ssaWrapNilChk_ #[322] 322 #[.pointer (some a), strVal "", strVal nm]).run prog w = .ok (.pointer (some a)) w := rfl
theorem Uq (nm:String) {a:Addr} {v:Value} {w:World} (h:w.cell? a=some v):(receiverAt 322 (.val (.pointer (some a))) false (some nm)).run prog w=.ok v w:=by
 simp [receiverAt,run_underlying underlying322,Place.get,rN,asAddr,loadVar,isAgg291,h]
theorem Lw {t:TypeId} {nm:String} {f:FuncId} (im:(prog.info? t).map (fun i=>(i.methods.find? (·.name == nm)).map fun m=>(m.path,m.func))=some (some (#[],some (f,false)))) (n:Nat) (x:Value) (w:World) {v:Value}
  (hr:∀ s,(receiverAt t (.val x) false (some s)).run prog w=.ok v w):(method (n+1) t x nm).run prog w=.ok (f,v) w:=by
 cases hq:prog.info? t with
 | none=>rw [hq] at im;cases im
 | some i =>
  rw [hq] at im
  cases hm:i.methods.find? (·.name == nm) with
  | none=>simp [hm] at im
  | some m =>
   simp [hm] at im
   obtain ⟨h1,h2⟩:=im;rw [method]
   simp [typeInfo,hq,hm,follow,h1,h2]
   rw [hr]
   rfl
theorem bC {a : Addr} {v : Value} {w : World} (h : w.cell? a = some v) : (method 501 322 (.pointer (some a)) "Len").run prog w = .ok (282, v) w :=
 Lw (by kernel_rfl) _ _ w (fun _=>Uq _ h)
theorem Fk {a : Addr} {v : Value} {w : World} (h : w.cell? a = some v) : (method 501 322 (.pointer (some a)) "Less").run prog w = .ok (400, v) w :=
 Lw (by kernel_rfl) _ _ w (fun _=>Uq _ h)
theorem Iv {a : Addr} {v : Value} {w : World} (h : w.cell? a = some v) : (method 501 322 (.pointer (some a)) "Swap").run prog w = .ok (401, v) w :=
 Lw (by kernel_rfl) _ _ w (fun _=>Uq _ h)
end Go.Proofs.YtomiclakhjncbaaGreatDoor
namespace Go.Proofs.YtomiclakhjncbaaGreatDoor
open Go.RowKit Go.Maps Go.Proofs.Tryz
def Dp (a c:Int):Lit:=.string (keyBytes [.int .i64 a,.int .i64 c])
section
variable {P:Program} {k:TypeId} {f0 f1:Field}
theorem gJ {n : Nat} (hu : P.underlying k = some (.struct #[f0, f1])) (hkt : P.keyType k = true) (ck : P.cellsOf k = 2) (o0 : f0.offset = 0) (o1 : f1.offset = 1) (n0 : (f0.name != "_") = true) (n1 : (f1.name != "_") = true)
  (c0:P.cellsOf f0.type=1) (c1:P.cellsOf f1.type=1) (u0:P.underlying f0.type=some (.int .i64)) (u1:P.underlying f1.type=some (.int .i64)) (hn:P.types.size=n+1) {a c:Int} (ha:Bf a) (hc:Bf c):keyOf P k (.agg #[.int .i64 a,.int .i64 c])=some (Dp a c):=by
 have ha':(Lit.int .i64 a).wf=true:=ha;have hc':(Lit.int .i64 c).wf=true:=hc
 simp only [bne_iff_ne,ne_eq] at n0 n1
 simp [keyOf,hu,hkt,Value.formed,ck,hn,Program.keyLits,Value.cells,o0,o1,c0,c1,u0,u1,n0,n1,ha',hc',Dp]
theorem Pg {d:Nat} {t:TypeId} (u0:P.underlying t=some (.int .i64)) {u:Value} {l:List Lit} (h:P.keyLits (d+1) t [u]=some l):∃ x,u=.int .i64 x∧l=[.int .i64 x]∧Bf x:=by
 cases u <;> simp [Program.keyLits,u0] at h
 obtain ⟨⟨rfl,hw⟩,rfl⟩:=h;exact ⟨_,rfl,rfl,hw⟩
theorem Zs {n:Nat} (hu:P.underlying k=some (.struct #[f0,f1])) (hkt:P.keyType k=true) (ck:P.cellsOf k=2) (o0:f0.offset=0) (o1:f1.offset=1)
  (c0:P.cellsOf f0.type=1) (c1:P.cellsOf f1.type=1) (u0:P.underlying f0.type=some (.int .i64)) (u1:P.underlying f1.type=some (.int .i64)) (hn:P.types.size=n+1) {key:Value} {kl:Lit} (h:keyOf P k key=some kl) :
  ∃ a c,key=.agg #[.int .i64 a,.int .i64 c]∧kl=Dp a c∧Bf a∧Bf c:=by
 cases key <;> simp [keyOf,hu,hkt,Value.formed,ck] at h
 rename_i cs
 obtain ⟨l⟩:=cs;obtain ⟨hl,ls,hk,rfl⟩:=h
 match l,hl with
 | [u,v],_ =>
  rw [hn] at hk;unfold Program.keyLits at hk
  simp only [hu] at hk
  split at hk
  ·simp only [List.mapM_cons,List.mapM_nil,o0,o1,c0,c1,List.drop_zero] at hk
   have e1:(List.take 1 (Value.agg { toList:=[u,v] }).cells.toList)=[u]:=rfl;have e2:(List.take 1 (List.drop 1 (Value.agg { toList:=[u,v] }).cells.toList))=[v]:=rfl;rw [e1,e2] at hk
   cases h0:P.keyLits (n+1) f0.type [u] with
   | none=>rw [h0] at hk;cases hk
   | some l0 =>
    cases h1:P.keyLits (n+1) f1.type [v] with
    | none=>rw [h0,h1] at hk;cases hk
    | some l1 =>
     rw [h0,h1] at hk
     have hk':([l0,l1]:List (List Lit)).flatten=ls:=by simpa using hk
     obtain ⟨x,rfl,rfl,hx⟩:=Pg u0 h0;obtain ⟨y,rfl,rfl,hy⟩:=Pg u1 h1
     exact ⟨x,y,rfl,by rw [← hk'];rfl,hx,hy⟩
  ·cases hk
end
theorem Em:(128:TypeId)<prog.types.size:=of_decide_eq_true (by kernel_rfl)
theorem jF:prog.cellsOf 128=2:=by kernel_rfl
theorem pP:prog.keyType 128=true:=by kernel_rfl
theorem sB:(match prog.underlying 128 with | some (.array _ _) | some (.struct _)=>true | _=>false)=true:=by kernel_rfl
theorem jS:WideMaps.KeyLaw prog 128:=deep_law_laid Uc (m:=3) (by omega) Em (by kernel_rfl) sB
theorem Tx:Keyed prog 128:=Keyed.of_law jS
theorem Uf:prog.cellsOf 3=1:=by kernel_rfl
theorem jM:∃ n,prog.types.size=n+1:=⟨prog.types.size - 1,(Nat.succ_pred_eq_of_pos (Nat.lt_of_le_of_lt (Nat.zero_le _) Em)).symm⟩
theorem L9 {a c:Int} (ha:Bf a) (hc:Bf c):keyOf prog 128 (.agg #[.int .i64 a,.int .i64 c])=some (Dp a c) :=
 let ⟨_,hn⟩:=jM
 gJ underlying128 pP jF rfl rfl (by decide) (by decide) Uf Uf underlying3 underlying3 hn ha hc
theorem Sg {key:Value} {kl:Lit} (h:keyOf prog 128 key=some kl):∃ a c,key=.agg #[.int .i64 a,.int .i64 c]∧kl=Dp a c∧Bf a∧Bf c :=
 let ⟨_,hn⟩:=jM
 Zs underlying128 pP jF rfl rfl Uf Uf underlying3 underlying3 hn h
theorem Rh {a c a' c':Int} (ha:Bf a) (hc:Bf c) (ha':Bf a') (hc':Bf c') (h:Dp a c=Dp a' c'):a=a'∧c=c':=by
 have:=Tx.inj (L9 ha hc) (h ▸ L9 ha' hc')
 simpa using this
def F5 (w:World) (b n:Nat) (f:Int→Int→Option Int):Prop :=
 ∃ D:DataW Unit,w.ownsMap prog 128 (plainElem (H:=Unit) prog 3) b n D ∧
  (∀ a c,Bf a→Bf c→Maps.has D (Dp a c)=(f a c).isSome∧D.atKey (Dp a c) (.lit (.int .i64 0))=.lit (.int .i64 ((f a c).getD 0)))∧∀ a c,f a c≠none→Bf a∧Bf c
theorem Nh (a c:Int):WideAt.IsKeyLit (Dp a c):=trivial
theorem fO {D:DataW Unit} {f:Int→Int→Option Int} (hm:IsMap D) (h:∀ a c,Bf a→Bf c→Maps.has D (Dp a c)=(f a c).isSome∧D.atKey (Dp a c) (.lit (.int .i64 0))=.lit (.int .i64 ((f a c).getD 0))) {a c v:Int} (ha:Bf a) (hc:Bf c) :
  ∀ a' c',Bf a'→Bf c'→Maps.has (D.put (Dp a c) (.lit (.int .i64 v))) (Dp a' c')=(if a'=a∧c'=c then some v else f a' c').isSome∧(D.put (Dp a c) (.lit (.int .i64 v))).atKey (Dp a' c') (.lit (.int .i64 0))=.lit (.int .i64 ((if a'=a∧c'=c then some v else f a' c').getD 0)):=by
 intro a' c' ha' hc'
 by_cases he:a'=a∧c'=c
 ·obtain ⟨rfl,rfl⟩:=he
  rw [if_pos ⟨rfl,rfl⟩,Maps.has_put_same hm (Nh _ _),Maps.atKey_put_same hm (Nh _ _)];exact ⟨rfl,rfl⟩
 ·have hne:Dp a' c'≠Dp a c:=fun e=>he (Rh ha' hc' ha hc e)
  rw [if_neg he,Maps.has_put_other hne,Maps.atKey_put_other hne];exact h a' c' ha' hc'
theorem eN {D:DataW Unit} {f:Int→Int→Option Int} (h:∀ a c,Bf a→Bf c→Maps.has D (Dp a c)=(f a c).isSome∧D.atKey (Dp a c) (.lit (.int .i64 0))=.lit (.int .i64 ((f a c).getD 0))) {a c:Int} (ha:Bf a) (hc:Bf c) :
  ∀ a' c',Bf a'→Bf c'→Maps.has (D.del (Dp a c)) (Dp a' c')=(if a'=a∧c'=c then none else f a' c').isSome∧(D.del (Dp a c)).atKey (Dp a' c') (.lit (.int .i64 0))=.lit (.int .i64 ((if a'=a∧c'=c then none else f a' c').getD 0)):=by
 intro a' c' ha' hc'
 by_cases he:a'=a∧c'=c
 ·obtain ⟨rfl,rfl⟩:=he
  rw [if_pos ⟨rfl,rfl⟩,Maps.has_del_same,Maps.atKey_del_same];exact ⟨rfl,rfl⟩
 ·have hne:Dp a' c'≠Dp a c:=fun e=>he (Rh ha' hc' ha hc e)
  rw [if_neg he,Maps.has_del_other hne,Maps.atKey_del_other hne];exact h a' c' ha' hc'
theorem F5.kept {w w':World} {b n:Nat} {f:Int→Int→Option Int} {row:Option Nat} (h:F5 w b n f) (hg:w.grownBy w' row) (hne:some b≠row):F5 w' b n f:=by
 obtain ⟨D,h1,h2,h3⟩:=h;exact ⟨D,h1.kept hg hne,h2,h3⟩
theorem F5.lt {w:World} {b n:Nat} {f:Int→Int→Option Int} (h:F5 w b n f):b<w.heap.size:=by
 obtain ⟨D,h1,_⟩:=h;exact h1.lt
theorem F5.below {w w':World} {b n:Nat} {f:Int→Int→Option Int} (h:F5 w b n f) (hb:BW w w'):F5 w' b n f:=by
 have hl:=h.lt;obtain ⟨D,⟨es,clock,h1,r⟩,h2,h3⟩:=h;exact ⟨D,⟨es,clock,(hb.block b hl).trans h1,r⟩,h2,h3⟩
end Go.Proofs.YtomiclakhjncbaaGreatDoor
namespace Go.Proofs.YtomiclakhjncbaaGreatDoor
open Go.RowKit Go.Maps Go.MapKept Go.ChangeMaps Go.Proofs.Tryz
open Go.WideElems (Fit)
open Go.WideMaps (KeyLaw)
section
variable {H:Type} {P:Program} {w:World} {t k e:TypeId} {R:Value→Option (DataW H×List MemPlace)} {b:Nat} {es:Array MapEntry} {clock:Nat}
theorem Ob {α:Type} : ∀ (l:List α) (j:Nat) (x:α),l[j]?=some x→l.set j x=l
 | [],_,_,h=>by simp at h
 | y::r,0,x,h=>by simp at h;subst h;rfl
 | y::r,j+1,x,h=>by simp at h;simp [Ob r j x h]
theorem iU (K:KeyLaw P k) (ht:P.underlying t=some (.map k e)) {z:Value} (hz:∀ u:World,(zeroValue e).run P u=.ok z u) (hb:w.heap[b]?=some (.map es clock)) (F:Fit P k R es clock) {key:Value} {kl:Lit} (hkey:keyOf P k key=some kl) :
  ∃ (v0:Value) (st:Nat) (es1:Array MapEntry) (clock1:Nat),(Instr.mapEntry t (.map (some b)) key).run P w=.ok (.tuple #[v0,goInt st]) (setBlock w b (.map es1 clock1)) ∧
   (Instr.mapUpdate t (.map (some b)) key v0).run P w=.ok () (setBlock w b (.map es1 clock1))∧(Instr.lookup t (.map (some b)) key false).run P w=.ok v0 w:=by
 rcases K.find w hkey es.toList F.keys with ⟨h1,h2⟩ | ⟨j,e0,h1,h2,h3⟩
 ·refine ⟨z,clock,es.push ⟨key,z,clock⟩,clock+1,?_,?_,?_⟩
  ·simp [Instr.mapEntry,run_underlying ht,MapKept.run_getObj_map hb,K.check w false hkey,h1,hz,MapKept.run_setObj_map _ hb,Result.andThen,setBlock]
  ·simp [Instr.mapUpdate,run_underlying ht,MapKept.run_getObj_map hb,K.check w false hkey,h1,MapKept.run_setObj_map _ hb,Result.andThen,setBlock]
  ·simp [Instr.lookup,run_underlying ht,MapKept.run_getObj_map hb,K.check w _ hkey,h1,hz,Result.andThen]
 ·have hj:es[j]?=some e0:=by simpa using h2
  have m1:es.modify j (fun e=>{ e with key:=key })=es:=by
   apply Array.ext'
   rw [Array.toList_modify,modify_eq_set _ _ _ _ h2,show ({ e0 with key:=key } : MapEntry)=e0 by rw [← h3]]
   exact Ob _ _ _ h2
  have m2:es.modify j (fun e=>{ e with key:=key,val:=e0.val })=es:=by
   apply Array.ext'
   rw [Array.toList_modify,modify_eq_set _ _ _ _ h2,show ({ e0 with key:=key,val:=e0.val } : MapEntry)=e0 by rw [← h3]]
   exact Ob _ _ _ h2
  refine ⟨e0.val,e0.born,es,clock,?_,?_,?_⟩
  ·simp [Instr.mapEntry,run_underlying ht,MapKept.run_getObj_map hb,K.check w false hkey,h1,hj,h3,K.stays w hkey,m1,MapKept.run_setObj_map _ hb,Result.andThen,setBlock]
  ·simp [Instr.mapUpdate,run_underlying ht,MapKept.run_getObj_map hb,K.check w false hkey,h1,hj,h3,K.stays w hkey,m2,MapKept.run_setObj_map _ hb,Result.andThen,setBlock]
  ·simp [Instr.lookup,run_underlying ht,MapKept.run_getObj_map hb,K.check w _ hkey,h1,Result.andThen]
end
theorem gM {W:World} {b n:Nat} {f:Int→Int→Option Int} (h:F5 W b n f) {a c v m:Int} (ha:Bf a) (hc:Bf c) (hv:(f a c).getD 0=v) (hw:Bf (v+m)) (hn:n<maxLen) :
  ∃ (st:Nat) (W1 W2:World),(Instr.mapEntry 338 (.map (some b)) (.agg #[.int .i64 a,.int .i64 c])).run prog W=.ok (.tuple #[.int .i64 v,.int .i64 st]) W1 ∧
   (Instr.lookup 338 (.map (some b)) (.agg #[.int .i64 a,.int .i64 c]) false).run prog W=.ok (.int .i64 v) W ∧
   (Instr.lookup 338 (.map (some b)) (.agg #[.int .i64 a,.int .i64 c]) false).run prog W1=.ok (.int .i64 v) W1 ∧
   (Instr.entryStore 338 (.map (some b)) (.int .i64 st) (.int .i64 (v+m))).run prog W1=.ok () W2 ∧
   (Instr.lookup 338 (.map (some b)) (.agg #[.int .i64 a,.int .i64 c]) false).run prog W2=.ok (.int .i64 (v+m)) W2 ∧
   W.grownBy W1 (some b)∧W.grownBy W2 (some b)∧F5 W2 b (n+1) (fun a' c'=>if a'=a∧c'=c then some (v+m) else f a' c'):=by
 obtain ⟨D,hown,hview,hwf⟩:=h;have hkey:=L9 ha hc;obtain ⟨es,clock,hb,F,hs,hD⟩:=hown;have hown:W.ownsMap prog 128 (plainElem (H:=Unit) prog 3) b n D:=⟨es,clock,hb,F,hs,hD⟩;obtain ⟨v0,st,es1,clock1,hE,hU,hL⟩:=iU jS underlying338 Ox hb F hkey;obtain ⟨c0,hL',hat,hwc⟩:=hown.lookup_int Tx underlying338 underlying3 (Ox _) hkey
 have hc0:c0=v:=by
  have e:=hat.symm.trans (hview a c ha hc).2;rw [hv] at e
  injection e with e1;injection e1
 have hv0:v0=.int .i64 v:=by
  rw [hL] at hL';rw [← hc0];injection hL'
 subst hv0;rw [hc0] at hwc;obtain ⟨w1,hU',hown1,hg1⟩:=hown.update Tx underlying338 hn hkey (plainElem_int underlying3 hwc)
 have hw1:w1=setBlock W b (.map es1 clock1):=by
  rw [hU] at hU'
  injection hU' with _ e;exact e.symm
 subst hw1;obtain ⟨c1,hL1,hat1,_⟩:=hown1.lookup_int Tx underlying338 underlying3 (Ox _) hkey
 have hc1:c1=v:=by
  rw [Maps.atKey_put_same hown.isMap (Nh _ _)] at hat1
  injection hat1 with e1;injection e1 with _ e2;exact e2.symm
 subst hc1;obtain ⟨v0',st',es1',clock1',hE',_,hS⟩:=WideElems.entry_then_store jS underlying338 Ox hb F hkey;have hE2:=hE.symm.trans hE'
 have hst:st=st'∧setBlock W b (.map es1 clock1)=setBlock W b (.map es1' clock1'):=by
  simp only [Result.ok.injEq,Value.tuple.injEq,goInt] at hE2
  refine ⟨?_,hE2.2⟩
  have:=hE2.1
  simp at this
  exact Int.natCast_inj.1 this.2
 obtain ⟨rfl,hbe⟩:=hst
 have hb1:(setBlock W b (.map es1 clock1)).heap[b]?=some (.map es1' clock1'):=by rw [hbe];exact heap_setBlock_same hb _
 obtain ⟨es2,clock2,hS1,hU2⟩:=hS (setBlock W b (.map es1 clock1)) (.int .i64 (c1+m)) hb1;obtain ⟨w2,hU2',hown2,hg2⟩:=hown.update Tx underlying338 hn hkey (plainElem_int underlying3 hw)
 have hw2:w2=setBlock W b (.map es2 clock2):=by
  rw [hU2] at hU2'
  injection hU2' with _ e;exact e.symm
 subst hw2
 have hbb:setBlock (setBlock W b (.map es1 clock1)) b (.map es2 clock2)=setBlock W b (.map es2 clock2):=by simp [setBlock]
 rw [hbb] at hS1;obtain ⟨c2,hL2,hat2,_⟩:=hown2.lookup_int Tx underlying338 underlying3 (Ox _) hkey
 have hc2:c2=c1+m:=by
  rw [Maps.atKey_put_same hown.isMap (Nh _ _)] at hat2
  injection hat2 with e1;injection e1 with _ e2;exact e2.symm
 subst hc2
 refine ⟨st,_,_,hE,hL,hL1,hS1,hL2,hg1,hg2,_,hown2,fO hown.isMap hview ha hc,fun a' c' hf=>?_⟩
 by_cases he:a'=a∧c'=c
 ·obtain ⟨rfl,rfl⟩:=he;exact ⟨ha,hc⟩
 ·simp only [if_neg he] at hf;exact hwf a' c' hf
end Go.Proofs.YtomiclakhjncbaaGreatDoor
namespace Go.Proofs.YtomiclakhjncbaaGreatDoor
open Go.RowKit Go.Maps Go.Proofs.Tryz
theorem iZ {f:Int→Int→Option Int} {a c m v:Int} (hv:(f a c).getD 0=v) (h0:v+m=0):iD f a c m=fun a' c'=>if a'=a∧c'=c then none else if a'=a∧c'=c then some (v+m) else f a' c':=by
 funext a' c'
 unfold iD
 by_cases he:a'=a∧c'=c
 ·rw [if_pos he,if_pos he,hv,if_pos h0]
 ·rw [if_neg he,if_neg he,if_neg he]
theorem iG {f:Int→Int→Option Int} {a c m v:Int} (hv:(f a c).getD 0=v) (h0:v+m≠0):iD f a c m=fun a' c'=>if a'=a∧c'=c then some (v+m) else f a' c':=by
 funext a' c'
 unfold iD
 by_cases he:a'=a∧c'=c
 ·rw [if_pos he,if_pos he,hv,if_neg h0]
 ·rw [if_neg he,if_neg he]
theorem U6 (b n:Nat) (f:Int→Int→Option Int) (a c m v:Int) (w:World) (h:F5 w b n f) (ha:Bf a) (hc:Bf c) (hv:(f a c).getD 0=v) (hbd:-9000000000000000000≤v+m∧v+m≤9000000000000000000) (hn:n<maxLen) :
  Calls prog 315 #[.map (some b),.agg #[.int .i64 a,.int .i64 c],.int .i64 m] w fun e w'=>e=.returned (.tuple #[])∧F5 w' b (n+1) (iD f a c m)∧w.grownBy w' (some b):=by
 obtain ⟨W0,hW0⟩:∃ W0,W0=w.alloc (.cells #[.int .i64 a,.int .i64 c] 128):=⟨_,rfl⟩;have hbl:b<w.heap.size:=h.lt
 have k0:W0.cell? ⟨w.heap.size,0,none⟩=some (.int .i64 a):=by rw [hW0];simp
 have k1:W0.cell? ⟨w.heap.size,1,none⟩=some (.int .i64 c):=by rw [hW0];simp
 have hs0:w.heap.size<W0.heap.size:=by rw [hW0];simp
 have G0:w.grownBy W0 (some b):=by rw [hW0];exact World.grownBy_alloc w _ _
 have M0:F5 W0 b n f:=by rw [hW0];exact h.kept (World.grownBy_alloc w _ none) (by simp)
 have M1:F5 W0.drew b n f:=M0
 obtain ⟨st,W1,W2,hE,hL,hL1,hS,hL2,hg1,hg2,M2⟩:=gM (m:=m) M1 ha hc hv (WalkArith.wf_i64 (by omega)) hn
 have hwr:IntKind.i64.wrap (v+m)=v+m:=by simp [IntKind.wrap,IntKind.bits,IntKind.signed];omega
 have x0:=(hg1.cell_far ⟨w.heap.size,0,none⟩ hs0 (by simp;omega)).trans k0
 have x1:=(hg1.cell_far ⟨w.heap.size,1,none⟩ hs0 (by simp;omega)).trans k1
 have y0:=(hg2.cell_far ⟨w.heap.size,0,none⟩ hs0 (by simp;omega)).trans k0
 have y1:=(hg2.cell_far ⟨w.heap.size,1,none⟩ hs0 (by simp;omega)).trans k1
 have G2:W0.grownBy W2 (some b):=⟨hg2.os,hg2.tape,hg2.output,hg2.size,hg2.block⟩;have HG:Hid (w.grownBy W2 (some b)):=G0.trans G2
 have HM:Hid (F5 W2 b (n+1) (fun a' c'=>if a'=a∧c'=c then some (v+m) else f a' c')):=M2
 have HKY:Hid _:=L9 ha hc;have HA:Hid (Bf a):=ha;have HC:Hid (Bf c):=hc;clear h M0 M1 M2 hg1 hg2 G0 G2 ha hc
 by_cases h0:v+m=0
 ·have h0':(v+m == 0)=true:=by simpa using h0
  have HU:Hid _:=iZ hv h0;clear h0 hv
  go_enter func315,ntmps315
  go_upto_region 1 with fail
  rw [← hW0];clear hW0
  go_region
  all_goals
   obtain ⟨D,hown,hview,hwf⟩:=HM.o;have HO:Hid (W2.ownsMap prog 128 (plainElem (H:=Unit) prog 3) b (n+1) D):=hown;have HV:Hid _:=eN hview HA.o HC.o;have HWF:Hid _:=hwf;clear hown hview hwf
   go_wp2_with (at_delete;refine wpList_delete_own _ rfl _ _ 338 128 rfl 3 Tx underlying338 _ b (n+1) D rfl HO.o _ _ rfl HKY.o ?_;intro w3 hown3 hturn3)
   have hg3:=hturn3.grown;go_end0;refine ⟨rfl,⟨_,hown3,?_,?_⟩,HG.o.trans hg3⟩
   ·rw [HU.o];exact HV.o
   ·rw [HU.o]
    intro a' c' hf
    by_cases he:a'=a∧c'=c
    ·simp only [if_pos he] at hf;exact absurd rfl hf
    ·simp only [if_neg he] at hf
     exact HWF.o a' c' (by simp only [if_neg he];exact hf)
 ·have h0':(v+m == 0)=false:=by simpa using h0
  have HU:Hid _:=iG hv h0;clear h0 hv
  go_enter func315,ntmps315
  go_upto_region 1 with fail
  rw [← hW0];clear hW0
  go_region
  all_goals
   go_wp2;go_end0;refine ⟨rfl,?_,HG.o⟩
   rw [HU.o];exact HM.o
theorem eZ (w:World):F5 (w.alloc (.map #[] 0)) w.heap.size 0 (Cf []) :=
 ⟨.map [],World.ownsMap_made w prog 128 (plainElem (H:=Unit) prog 3),fun _ _ _ _=>⟨rfl,rfl⟩,fun _ _ h=>absurd rfl h⟩
theorem tP {ls:List Ln} (h:∀ x ∈ ls,-1000000000000≤x.2.2∧x.2.2≤1000000000000) (a c:Int):-1000000000000≤(Cf ls a c).getD 0∧(Cf ls a c).getD 0≤1000000000000:=by
 cases hl:Cf ls a c with
 | none=>simp
 | some v=>have:=h _ (Mr hl);simpa using this
theorem Ut (ao:Option Addr) (cap:Nat) (ls:List Ln) (w:World) (hz:Ai w ao ls) (hn:ls.length≤400) (hs:Va ls) (hnz:NZ ls) (hbd:∀ x ∈ ls,-1000000000000≤x.2.2∧x.2.2≤1000000000000) (hwf:∀ x ∈ ls,Hw x) :
  Calls prog 314 #[.agg #[.slice ao ls.length cap]] w fun e w'=>∃ g,e=.returned (.map (some g))∧w.heap.size≤g∧F5 w' g ls.length (Cf ls)∧BW w w':=by
 have hmm:=@run_makeMap prog;obtain ⟨W,hW⟩:∃ W,W=(w.alloc (.cells #[.slice ao ls.length cap] 29)).alloc (.map #[] 0):=⟨_,rfl⟩
 have bW:BW w W:=by rw [hW];go_grown
 have hWs:W.heap.size=w.heap.size+2:=by rw [hW];simp
 have k0:W.cell? ⟨w.heap.size,0,none⟩=some (.slice ao ls.length cap):=by rw [hW];simp [go_sem]
 have M0:F5 W (w.heap.size+1) 0 (Cf []):=by
  have:=eZ (w.alloc (.cells #[.slice ao ls.length cap] 29))
  rw [hW];simpa using this
 have HZ:Hid (Ai w ao ls):=hz;have HS:Hid (Va ls):=hs;have HNZ:Hid (NZ ls):=hnz;have HBD:Hid (∀ x ∈ ls,-1000000000000≤x.2.2∧x.2.2≤1000000000000):=hbd;have HWF:Hid (∀ x ∈ ls,Hw x):=hwf;have HWB:Hid (BW w W):=bW;have HM0:Hid _:=M0;clear hz hs hnz hbd hwf bW M0
 go_enter func314,ntmps314
 go_wp2;rw [← hW];clear hW
 go_loopw [10] (fun i wr=>∃ k:Nat,k≤ls.length∧i=.int .i64 k∧F5 wr (w.heap.size+1) k (Cf (ls.take k))∧BW w wr) (fun i _=>ls.length - (intOf i).toNat)
 case atStart=>exact ⟨0,Nat.zero_le _,rfl,HM0.o,HWB.o⟩
 case round =>
  obtain ⟨k,hk,rfl,hM,hbr⟩:=hrel;have HM:Hid (F5 wr (w.heap.size+1) k (Cf (ls.take k))):=hM;have hsz:w.heap.size≤wr.heap.size:=hbr.size;have hMl:w.heap.size+1<wr.heap.size:=hM.lt;clear hM HM0
  by_cases hlt:k<ls.length
  ·have hki:(k:Int)<(ls.length:Int):=by omega
   obtain ⟨b,off,rfl,hb2,c1,c2,c3⟩:=(HZ.o.below hbr).at hlt;have hLT:=fN HS.o HNZ.o hlt;have hbk:=HBD.o _ (Ex hlt);have hwk:=HWF.o _ (Ex hlt);obtain ⟨⟨x,y,z⟩,hx⟩:∃ x,Cg ls k=x:=⟨_,rfl⟩;rw [hx] at c1 c2 c3 hLT hbk hwk
   simp only at c1 c2 c3 hLT hbk
   have hlb:=tP (ls:=ls.take k) (fun q hq=>HBD.o q (List.mem_of_mem_take hq)) x y
   have HLT:Hid _:=hLT;have HWK:Hid (Bf x∧Bf y∧Bf z):=hwk;obtain ⟨V,hV⟩:∃ V,V=wr.alloc (.cells #[.int .i64 x,.int .i64 y,.int .i64 z] 113):=⟨_,rfl⟩
   have bV:BW w V:=by rw [hV];exact hbr.alloc hsz _
   have hVs:V.heap.size=wr.heap.size+1:=by rw [hV];simp
   have MV:F5 V (w.heap.size+1) k (Cf (ls.take k)):=by rw [hV];exact HM.o.kept (World.grownBy_alloc wr _ none) (by simp)
   have v0:V.cell? ⟨wr.heap.size,0,none⟩=some (.int .i64 x):=by rw [hV];simp
   have v1:V.cell? ⟨wr.heap.size,1,none⟩=some (.int .i64 y):=by rw [hV];simp
   have v2:V.cell? ⟨wr.heap.size,2,none⟩=some (.int .i64 z):=by rw [hV];simp
   obtain ⟨t,ht⟩:∃ t,(Cf (ls.take k) x y).getD 0=t:=⟨_,rfl⟩;rw [ht] at hlb;have HT:Hid _:=ht;have HBV:Hid (BW w V):=bV;have HMV:Hid (F5 V (w.heap.size+1) k (Cf (ls.take k))):=MV;have HVW:Hid (w.heap.size≤V.heap.size):=bV.size
   have HKP:Hid (∀ u,BW V u→u.cell? ⟨wr.heap.size,0,none⟩=some (.int .i64 x)∧u.cell? ⟨wr.heap.size,1,none⟩=some (.int .i64 y)∧u.cell? ⟨wr.heap.size,2,none⟩=some (.int .i64 z)):=fun u hu =>
    ⟨(hu.cell (p:=⟨wr.heap.size,0,none⟩) (by show wr.heap.size<V.heap.size;omega)).trans v0,(hu.cell (p:=⟨wr.heap.size,1,none⟩) (by show wr.heap.size<V.heap.size;omega)).trans v1,(hu.cell (p:=⟨wr.heap.size,2,none⟩) (by show wr.heap.size<V.heap.size;omega)).trans v2⟩
   have HADD:Hid (∀ u,BW V u→Calls prog 315 #[.map (some (w.heap.size+1)),.agg #[.int .i64 x,.int .i64 y],.int .i64 z] u fun e u'=>e=.returned (.tuple #[])∧F5 u' (w.heap.size+1) (k+1) (Cf (ls.take (k+1)))∧u.grownBy u' (some (w.heap.size+1))):=fun u hu=>by
    rw [HLT.o]
    exact U6 (w.heap.size+1) k _ x y z t u (HMV.o.below hu) HWK.o.1 HWK.o.2.1 HT.o ⟨by omega,by omega⟩ (by unfold maxLen;omega)
   clear hLT hx ht hwk hbk MV bV hbr hlb;go_upto_region 5 with fail
   rw [← hV];clear hV c1 c2 c3
   go_region_held3 (fun u=>u.cell? ⟨wr.heap.size,0,none⟩=some (.int .i64 x)∧u.cell? ⟨wr.heap.size,1,none⟩=some (.int .i64 y)∧u.cell? ⟨wr.heap.size,2,none⟩=some (.int .i64 z)) (first | exact ⟨v0,v1,v2⟩ | exact HKP.o _ q1 | exact HKP2.o) ((first
    | (go_at_call 107;refine (kH _ _ _ _).mono ?_;rintro e u1 ⟨rfl,b1⟩;have q1:BW V u1:=bR.drew.trans b1)
    | (go_at_call 315;refine (HADD.o _ q1).mono ?_;rintro e u2 ⟨rfl,m2,g2⟩;have HKP2:Hid (u2.cell? ⟨wr.heap.size,0,none⟩=some (.int .i64 x)∧u2.cell? ⟨wr.heap.size,1,none⟩=some (.int .i64 y)∧u2.cell? ⟨wr.heap.size,2,none⟩=some (.int .i64 z)):=⟨(g2.cell_far ⟨wr.heap.size,0,none⟩ (by have:=q1.size;show wr.heap.size<u1.heap.size;omega) (by simp;omega)).trans (HKP.o _ q1).1,(g2.cell_far ⟨wr.heap.size,1,none⟩ (by have:=q1.size;show wr.heap.size<u1.heap.size;omega) (by simp;omega)).trans (HKP.o _ q1).2.1,(g2.cell_far ⟨wr.heap.size,2,none⟩ (by have:=q1.size;show wr.heap.size<u1.heap.size;omega) (by simp;omega)).trans (HKP.o _ q1).2.2⟩)))
   all_goals
    have HM2:Hid _:=m2
    have q2:BW w u2:=(HBV.o.trans (q1.mono HVW.o)).grown g2 (HBV.o.trans (q1.mono HVW.o)).size (fun j hj=>by cases hj;omega)
    clear m2 g2 q1 b1 HKP HADD HKP2;go_wp2
    go_roundw
    case rel=>exact ⟨k+1,by omega,by go_num,HM2.o,q2⟩
    case measure=>simp [intOf];omega
  ·have hke:k=ls.length:=by omega
   subst hke
   have hki:¬ (ls.length:Int)<(ls.length:Int):=by omega
   rw [List.take_length] at HM;go_wp2;go_ret
   exact ⟨w.heap.size+1,rfl,by omega,HM.o,hbr⟩
end Go.Proofs.YtomiclakhjncbaaGreatDoor
namespace Go.Proofs.YtomiclakhjncbaaGreatDoor
open Go.RowKit Go.Proofs.Tryz
end Go.Proofs.YtomiclakhjncbaaGreatDoor
namespace Go.Proofs.YtomiclakhjncbaaGreatDoor
open Go.ChangeShapes Go.WideShapes Go.ChangeAt Go.RowKit Go.Proofs.Tryz
theorem rI:(Rows.laid_loop_example_g00126_impl_stepDays:DataW Unit)=Lib.tabData .i64 Mt:=by kernel_rfl
theorem rU : prog.globalNamed "loop.example/g00126/impl.stepDays" = some 16 := by kernel_rfl
theorem qY:(prog.globals[16]?).map (·.type)=some 352:=by kernel_rfl
theorem gF {rest : List (String × DataW Unit)} {w : World} (h : laidMet prog (("loop.example/g00126/impl.stepDays", Rows.laid_loop_example_g00126_impl_stepDays) :: rest) w) : Di w := by
 rw [rI] at h
 exact Lib.tabIs_of_head rU qY underlying352 underlying3 (by kernel_rfl) (by kernel_rfl) h
theorem iJ {w w':World} {n:String} {cs:Array Value} (h:w.var? prog n=some cs) (hb:BW w w'):w'.var? prog n=some cs:=by
 unfold World.var? at *
 cases hg:prog.globalNamed n with
 | none=>simp [hg] at h
 | some g =>
  simp only [hg,Option.bind_some] at h ⊢
  have hlt:g<w.heap.size:=by
   rcases Nat.lt_or_ge g w.heap.size with h' | h'
   ·exact h'
   ·rw [Array.getElem?_eq_none h'] at h;simp at h
  rw [hb.block g hlt];exact h
end Go.Proofs.YtomiclakhjncbaaGreatDoor
