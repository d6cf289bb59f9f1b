import Derived.Test.YtomiclakhjncbaaGreatDoorProg
import Derived.WalkLawsBesides
import Init
import Derived.Deep.RegionHeld3
import Derived.Deep.AppendLies
import Derived.Handy
import Derived.Lib.ItoaLen
import Derived.WalkSpells
import Derived.Shelf.Utf8.RuneCount
import Derived.Shelf.Strconv.Itoa3
import Derived.Shelf.Strconv.Clone
import Derived.Shelf.Strings.Shaped
import Derived.Shelf.Strings.SplitShaped
import Derived.Shelf.Strings.Explode
import Derived.Shelf.Unicode.DecodeAny
import Derived.Shelf.Slices.SearchI
import Derived.Shelf.SlSortCmp.NoneTotal
set_option maxRecDepth 100000
set_option maxHeartbeats 12800000
namespace Go.Proofs.YtomiclakhjncbaaGreatDoor
open Go.RowKit
abbrev BW(w u:World):Prop:=Below w.heap.size w u
theorem bR {n:Nat}{w:World}:Below n w w:=.refl n w
theorem nL {n:Nat}:n≤n:=Nat.le_refl n
theorem _root_.Go.RowKit.Hid.o {p:Prop}(h:Hid p):p:=h
end Go.Proofs.YtomiclakhjncbaaGreatDoor
namespace Go.Proofs.YtomiclakhjncbaaGreatDoor
open Go.RowKit Go.Proofs.Tryz
theorem next {w w1 w2:World} (h:BW w w1) (k:BW w1 w2):BW w w2:=h.trans (k.mono h.size)
theorem Ji {k:IntKind} {a b:Int} {x y:Bool} (h:a=b) (g:x=y):Ending.returned (.tuple #[.int k a,.bool x])=.returned (.tuple #[.int k b,.bool y]):=by rw [h,g]
theorem Af {k:IntKind} {a b:Int} (h:a=b):Ending.returned (.int k a)=.returned (.int k b):=by rw [h]
theorem Aa {a b:Bool} (h:a=b):Ending.returned (.bool a)=.returned (.bool b):=by rw [h]
theorem Us {a b:ByteArray} (h:a=b):Ending.returned (.string a)=.returned (.string b):=by rw [h]
def fL (x:Int):Bool:=decide (-1000000000000≤x∧x≤1000000000000)
theorem rH {x:Int} (h:fL x=true):-1000000000000≤x∧x≤1000000000000:=by simpa [fL] using h
def Gk (x a b:Int):Bool:=decide (a≤x∧x≤b)
theorem Dl (x a b:Int) (w:World) :
  Calls prog 134 #[.int .i64 x,.int .i64 a,.int .i64 b] w fun e w'=>e=.returned (.bool (Gk x a b))∧w'=w:=by
 by_cases h1:a≤x
 ·by_cases h2:x≤b
  ·go_enter func134,ntmps134
   go_wp2;go_ret
   exact ⟨by simp [Gk,h1,h2],rfl⟩
  ·go_enter func134,ntmps134
   go_wp2;go_ret
   exact ⟨by simp [Gk,h1,h2],rfl⟩
 ·go_enter func134,ntmps134
  go_wp2;go_ret
  exact ⟨by simp [Gk];omega,rfl⟩
theorem I6 (x:Int) (w:World) :
  Calls prog 299 #[.int .i64 x] w fun e w'=>e=.returned (.bool (fL x))∧w'=w:=by
 go_enter func299,ntmps299
 go_wp2_with (go_at_call 134;refine (Dl _ _ _ _).mono ?_;rintro e w' ⟨rfl,rfl⟩)
 go_ret;exact ⟨rfl,rfl⟩
theorem qP (x:Int) (w:World) :
  Calls prog 186 #[.int .i64 x] w fun e w'=>e=.returned (.bool (fL x))∧w'=w:=by
 by_cases h1:-1000000000000≤x
 ·by_cases h2:x≤1000000000000
  ·go_enter func186,ntmps186
   go_wp2;go_ret
   exact ⟨by simp [fL,h1,h2],rfl⟩
  ·go_enter func186,ntmps186
   go_wp2;go_ret
   exact ⟨by simp [fL,h1,h2],rfl⟩
 ·go_enter func186,ntmps186
  go_wp2;go_ret
  exact ⟨by simp [fL];omega,rfl⟩
theorem Uj (x:Int) (w:World) :
  Calls prog 149 #[.int .i64 x] w fun e w'=>e=.returned (.bool (fL x))∧w'=w:=by
 go_enter func149,ntmps149
 go_wp2_with (go_at_call 186;refine (qP _ _).mono ?_;rintro e w' ⟨rfl,rfl⟩)
 go_ret;exact ⟨rfl,rfl⟩
end Go.Proofs.YtomiclakhjncbaaGreatDoor
namespace Go.Proofs.YtomiclakhjncbaaGreatDoor
open Go.Proofs.Tryz
def Dn (d:Int):Bool:=decide (0≤d∧d≤80000)
theorem Ei {d:Int} (h:Dn d=true):0≤d∧d≤80000:=by simpa [Dn] using h
theorem Nq {d:Int} (h1:0≤d) (h2:d≤80000):Dn d=true:=by simp [Dn,h1,h2]
theorem pI {d:Int} (h:d<0∨80000<d):Dn d=false:=by simp [Dn];omega
end Go.Proofs.YtomiclakhjncbaaGreatDoor
namespace Go.Proofs.YtomiclakhjncbaaGreatDoor
open Go.RowKit Go.Proofs.Tryz
theorem Lb (l r:List UInt8):(⟨l.toArray⟩++⟨r.toArray⟩:ByteArray)=⟨(l++r).toArray⟩:=by
 apply ByteArray.ext
 simp
theorem nS (b:ByteArray):b=⟨b.data.toList.toArray⟩:=by cases b;simp
theorem Qo (l:List UInt8) (a b:Nat):(⟨l.toArray⟩:ByteArray).extract a b=⟨((l.drop a).take (b - a)).toArray⟩:=by
 have h:=Lib.extract_data ⟨l.toArray⟩ a b;rw [nS (ByteArray.extract ⟨l.toArray⟩ a b),h]
theorem Fo (l:List UInt8):(⟨l.toArray⟩:ByteArray).size=l.length:=by simp [ByteArray.size]
theorem Je (l:List UInt8) (k:Nat) (h:k<l.length):l.getD k 0=(⟨l.toArray⟩:ByteArray)[k]'(by rw [Fo];exact h):=by
 rw [List.getD_eq_getElem?_getD,List.getElem?_eq_getElem h]
 rfl
theorem Su (c:UInt8):wrap64 ((c.toNat:Nat):Int)=(c.toNat:Int):=by
 have:=c.toNat_lt
 unfold wrap64;omega
def A6 (a b:Nat) (l:List UInt8):Bool:=l.all fun c=>decide (a≤c.toNat) && decide (c.toNat≤b)
theorem Ic (a b:Nat) (l:List UInt8) (k:Nat) (h:k<l.length):A6 a b (l.drop k)=((decide (a≤(l.getD k 0).toNat) && decide ((l.getD k 0).toNat≤b)) && A6 a b (l.drop (k+1))):=by
 have e:l.getD k 0=l[k]:=by simp [List.getD_eq_getElem?_getD,h]
 rw [List.drop_eq_getElem_cons h,e]
 simp only [A6,List.all_cons]
theorem I9 (a b:Nat) (l:List UInt8):A6 a b (l.drop l.length)=true:=by rw [List.drop_of_length_le nL];rfl
theorem Ym {a b:Nat} {l:List UInt8} (h:A6 a b l=true):∀ c ∈ l,a≤c.toNat∧c.toNat≤b:=by
 intro c hc
 have:=List.all_eq_true.1 h c hc
 simpa using this
theorem wU {a b:Nat} {l:List UInt8} (h:∀ c ∈ l,a≤c.toNat∧c.toNat≤b):A6 a b l=true :=
 List.all_eq_true.2 fun c hc=>by simpa using h c hc
theorem Nx {a b:Nat} {l:List UInt8} (h:A6 a b l=true) {k:Nat} (hk:k<l.length):a≤(l.getD k 0).toNat∧(l.getD k 0).toNat≤b :=
 Ym h _ (by simp [List.getD_eq_getElem?_getD,hk])
def val (a:Nat) (l:List UInt8):Nat:=l.foldl (fun a c=>a*10+(c.toNat - 48)) a
theorem Yr (a:Nat) (l r:List UInt8):val a (l++r)=val (val a l) r:=by simp [val]
theorem T4 (l:List UInt8) (k:Nat) (h:k<l.length):l.take (k+1)=l.take k++[l.getD k 0]:=by
 rw [List.take_add_one,List.getElem?_eq_getElem h,List.getD_eq_getElem?_getD,List.getElem?_eq_getElem h];rfl
theorem Rj (l:List UInt8) (k:Nat) (h:k<l.length):val 0 (l.take (k+1))=val 0 (l.take k) * 10+((l.getD k 0).toNat - 48):=by
 rw [T4 l k h,Yr];rfl
theorem Nv (l:List UInt8) (h:A6 48 57 l=true):∀ k,k≤l.length→val 0 (l.take k)<10 ^ k:=by
 intro k
 induction k with
 | zero=>intro _;simp [val]
 | succ k ih =>
  intro hk
  have:=ih (by omega)
  have hb:=Nx h (k:=k) (by omega)
  rw [Rj l k (by omega),Nat.pow_succ]
  omega
def Dr (l:List UInt8):Int:=if l.length≤18∧A6 48 57 l=true then (val 0 l:Int) else -1
theorem Ss {l:List UInt8} (h:18<l.length):Dr l = -1:=if_neg (by omega)
theorem Sp {l:List UInt8} (h:A6 48 57 l=false):Dr l = -1:=if_neg (by rw [h];simp)
theorem Sn {l:List UInt8} (h1:l.length≤18) (h2:A6 48 57 l=true):Dr l=(val 0 l:Int):=if_pos ⟨h1,h2⟩
theorem Qj (l:List UInt8):-1≤Dr l∧Dr l<1000000000000000000:=by
 unfold Dr
 split
 ·rename_i h
  have:=Nv l h.2 l.length nL
  rw [List.take_of_length_le nL] at this
  have:10 ^ l.length≤10 ^ 18:=Nat.pow_le_pow_right (by omega) h.1
  omega
 ·omega
structure W7 (W:World) where
 x:World
 h:BW W x
theorem K0 (W:World):Nonempty (W7 W):=⟨⟨W,bR⟩⟩
theorem As {W:World} {a:Addr} {v:Value} (h:W.cell? a=some v) (z:W7 W):z.x.cell? a=some v:=(z.h.cell (p:=a) (World.block_lt_of_cell? W _ h)).trans h
theorem B6 {P:Program} {id:Nat} {Q:Exit→Act→World→Prop} {a:Act} {w:World} {l:List Oper} (hm:P.follows .mixedOrders=true) (hB:Region.lexB .any l.toArray=true)
  (h:wpQuiet P l.toArray (fun w'=>∃ z:W7 w,w'=z.x) (fun a'=>∀ w',(∃ z:W7 w,w'=z.x)→Q .normal a' w') l a):(Code.region id l.toArray true).wp P Q a w :=
 wp_region_quiet (C:=fun w'=>∃ z:W7 w,w'=z.x) hm hB ⟨⟨_,bR.drew⟩,rfl⟩ (by simpa using h)
theorem F8 {P:Program} {f:FuncId} {args:Array Value} {w:World} {z:W7 w} {v:Value} (h:Calls P f args z.x fun e w'=>e=.returned v∧Below z.x.heap.size z.x w') :
  Calls P f args z.x fun e w''=>e=.returned v∧∃ y:W7 w,w''=y.x :=
 h.mono fun _ w' ⟨he,hb⟩=>⟨he,⟨w',z.h.trans (hb.mono z.h.size)⟩,rfl⟩
end Go.Proofs.YtomiclakhjncbaaGreatDoor
namespace Go.Proofs.YtomiclakhjncbaaGreatDoor
open Go.Proofs.Tryz
abbrev Be:=List (List UInt8)
def Al (rs:Be) (k:Nat):List UInt8:=rs.getD k []
theorem Zk {rs:Be} {k:Nat} (h:k<rs.length):Al rs k=rs[k]:=by simp [Al,List.getD_eq_getElem?_getD,h]
theorem F7 {rs:Be} {k:Nat} (h:k<rs.length):Al rs k ∈ rs:=by rw [Zk h];exact List.getElem_mem h
theorem lI (rs:Be) (k:Nat) (h:k<rs.length):rs.take (k+1)=rs.take k++[Al rs k]:=by
 rw [List.take_succ_eq_append_getElem h,Zk h]
end Go.Proofs.YtomiclakhjncbaaGreatDoor
namespace Go.Proofs.YtomiclakhjncbaaGreatDoor
open Go.RowKit Go.Proofs.Tryz
def cell (c:UInt8):Value:=.int .u8 (c.toNat:Int)
namespace Tg
def Gk (x a b:Int):Bool:=decide (a≤x∧x≤b)
theorem Dl (x a b:Int) (w:World) :
  Calls prog 134 #[.int .i64 x,.int .i64 a,.int .i64 b] w fun e w'=>e=.returned (.bool (Gk x a b))∧w'=w:=by
 by_cases h1:a≤x
 ·by_cases h2:x≤b
  ·go_enter func134,ntmps134
   go_wp2;go_ret
   exact ⟨by simp [Gk,h1,h2],rfl⟩
  ·go_enter func134,ntmps134
   go_wp2;go_ret
   exact ⟨by simp [Gk,h1,h2],rfl⟩
 ·go_enter func134,ntmps134
  go_wp2;go_ret
  exact ⟨by simp [Gk];omega,rfl⟩
theorem Uu (c:UInt8) (a b:Nat):Gk (c.toNat:Int) a b=(decide (a≤c.toNat) && decide (c.toNat≤b)):=by
 unfold Gk
 by_cases h1:a≤c.toNat <;> by_cases h2:c.toNat≤b <;> simp [h1,h2]
theorem Hy (l:List UInt8) (a b:Nat) (w:World) (hl:l.length≤1099511627776) :
  Calls prog 327 #[.string ⟨l.toArray⟩,.int .u8 a,.int .u8 b] w fun e w'=>e=.returned (.bool (A6 a b l))∧w'=w:=by
 go_enter func327,ntmps327
 go_wp2
 go_loop [7,10] (fun _ i=>∃ k:Nat,k≤l.length∧i=.int .i64 k∧A6 a b l=A6 a b (l.drop k)) (fun _ i=>l.length - (intOf i).toNat)
 case atStart=>exact ⟨0,Nat.zero_le _,rfl,rfl⟩
 case round =>
  obtain ⟨k,hk,rfl,ht⟩:=hrel
  by_cases hlt:k<l.length
  ·have hki:(k:Int)<(l.length:Int):=by omega
   have hs:=Ic a b l k hlt
   obtain ⟨c,hc⟩:∃ c,(⟨l.toArray⟩:ByteArray)[k]'(by rw [Fo];exact hlt)=c:=⟨_,rfl⟩
   rw [(Je l k hlt).trans hc] at hs;have HS:Hid _:=ht.trans hs;clear hs ht
   by_cases h1:a≤c.toNat
   ·have h1':(a:Int)≤(c.toNat:Int):=by omega
    by_cases h2:c.toNat≤b
    ·have h2':(c.toNat:Int)≤(b:Int):=by omega
     have HY:Hid (A6 a b l=A6 a b (l.drop (k+1))):=by rw [Hid,HS.o];simp [h1,h2]
     clear HS;go_wp2
     go_round
     case rel=>exact ⟨k+1,by omega,by go_num,HY.o⟩
     case measure=>simp [intOf];omega
    ·have h2':(b:Int)<(c.toNat:Int):=by omega
     have HN:Hid (A6 a b l=false):=by rw [Hid,HS.o];simp [h2]
     clear HS;go_wp2;go_ret;exact ⟨Aa HN.o.symm,rfl⟩
   ·have h1':(c.toNat:Int)<(a:Int):=by omega
    have HN:Hid (A6 a b l=false):=by rw [Hid,HS.o];simp [h1]
    clear HS;go_wp2;go_ret;exact ⟨Aa HN.o.symm,rfl⟩
  ·have hke:k=l.length:=by omega
   subst hke
   have HE:Hid (A6 a b l=true):=by rw [Hid,ht,I9]
   clear ht;go_wp2;go_ret;exact ⟨Aa HE.o.symm,rfl⟩
theorem Eb (l:List UInt8) (w:World) (hl:l.length≤1099511627776) :
  Calls prog 306 #[.string ⟨l.toArray⟩] w fun e w'=>e=.returned (.bool (A6 48 57 l))∧w'=w:=by
 go_enter func306,ntmps306
 go_wp2_with fail
 refine (Hy l 48 57 _ hl).mono ?_;rintro e w1 ⟨rfl,hw⟩;subst hw;go_wp2;go_ret;exact ⟨rfl,rfl⟩
theorem Ga (l:List UInt8) (w:World) (hl:l.length≤1099511627776) :
  Calls prog 215 #[.string ⟨l.toArray⟩] w fun e w'=>e=.returned (.bool (A6 48 57 l))∧w'=w:=by
 go_enter func215,ntmps215
 go_wp2
 go_loop [3] (fun i=>∃ k:Nat,k≤l.length∧i=.int .i64 k∧A6 48 57 l=A6 48 57 (l.drop k)) (fun i=>l.length - (intOf i).toNat)
 case atStart=>exact ⟨0,Nat.zero_le _,rfl,rfl⟩
 case round =>
  obtain ⟨k,hk,rfl,ht⟩:=hrel
  by_cases hlt:k<l.length
  ·have hki:(k:Int)<(l.length:Int):=by omega
   have hs:=Ic 48 57 l k hlt
   obtain ⟨c,hc⟩:∃ c,(⟨l.toArray⟩:ByteArray)[k]'(by rw [Fo];exact hlt)=c:=⟨_,rfl⟩
   rw [(Je l k hlt).trans hc,← Uu c 48 57] at hs;have HS:Hid _:=ht.trans hs;have hwc:=Su c;clear hs ht
   cases hin:Gk (c.toNat:Int) 48 57
   ·have HN:Hid (A6 48 57 l=false):=by rw [Hid,HS.o];simp [hin]
    clear HS;go_wp2_with fail
    refine (Dl _ _ _ _).mono ?_;rintro e w1 ⟨rfl,hw1⟩;subst hw1;rw [hin];go_wp2;go_ret;exact ⟨Aa HN.o.symm,rfl⟩
   ·have HY:Hid (A6 48 57 l=A6 48 57 (l.drop (k+1))):=by rw [Hid,HS.o];simp [hin]
    clear HS;go_wp2_with fail
    refine (Dl _ _ _ _).mono ?_;rintro e w1 ⟨rfl,hw1⟩;subst hw1;rw [hin];go_wp2
    go_round
    case rel=>exact ⟨k+1,by omega,by go_num,HY.o⟩
    case measure=>simp [intOf];omega
  ·have hke:k=l.length:=by omega
   subst hke
   have HE:Hid (A6 48 57 l=true):=by rw [Hid,ht,I9]
   clear ht;go_wp2;go_ret;exact ⟨Aa HE.o.symm,rfl⟩
theorem iNumOf_any (l:List UInt8) (w:World) (hl:l.length≤1099511627776) :
  Calls prog 275 #[.string ⟨l.toArray⟩] w fun e w'=>e=.returned (.int .i64 (Dr l))∧w'=w:=by
 by_cases hbig:18<l.length
 ·have HN:Hid _:=Ss hbig
  have hbi:(18:Int)<(l.length:Int):=by omega
  go_enter func275,ntmps275
  go_wp2;go_ret;exact ⟨Af HN.o.symm,rfl⟩
 ·have hbi:(l.length:Int)≤18:=by omega
  have hl18:l.length≤18:=by omega
  cases hd:A6 48 57 l
  ·have HN:Hid _:=Sp hd
   go_enter func275,ntmps275
   go_wp2_with fail
   refine (Eb _ _ hl).mono ?_;rintro e w1 ⟨rfl,hw⟩;subst hw;rw [hd];go_wp2;go_ret;exact ⟨Af HN.o.symm,rfl⟩
  ·have HY:Hid _:=Sn hl18 hd
   have HB:Hid _:=Nv l hd;have HD:Hid (A6 48 57 l=true):=hd
   go_enter func275,ntmps275
   go_wp2_with fail
   refine (Eb _ _ hl).mono ?_;rintro e w1 ⟨rfl,hw⟩;subst hw;rw [hd];clear hd;go_wp2
   go_loop [3,4,15] (fun v _ i=>∃ k:Nat,k≤l.length∧i=.int .i64 k∧v=.int .i64 (val 0 (l.take k))) (fun _ _ i=>l.length - (intOf i).toNat)
   case atStart=>exact ⟨0,Nat.zero_le _,rfl,rfl⟩
   case round =>
    obtain ⟨k,hk,rfl,rfl⟩:=hrel;have hb:=HB.o k hk
    have hp:10 ^ k≤10 ^ 18:=Nat.pow_le_pow_right (by omega) (by omega)
    by_cases hlt:k<l.length
    ·have hki:(k:Int)<(l.length:Int):=by omega
     have hp1:10 ^ k≤10 ^ 17:=Nat.pow_le_pow_right (by omega) (by omega)
     have hw:=Nx HD.o hlt;have hv:=Rj l k hlt
     obtain ⟨c,hc⟩:∃ c,(⟨l.toArray⟩:ByteArray)[k]'(by rw [Fo];exact hlt)=c:=⟨_,rfl⟩
     rw [(Je l k hlt).trans hc] at hw hv;obtain ⟨x,hx⟩:∃ x,val 0 (l.take k)=x:=⟨_,rfl⟩;rw [hx] at hb hv ⊢
     have hxb:x≤100000000000000000:=by omega
     have hsi:((val 0 (l.take (k+1)):Nat):Int)=(x:Int) * 10+((c.toNat:Int) - 48):=by omega
     have HV:Hid _:=hsi;clear hsi hv hx hb hp hp1;go_wp2
     go_round
     case rel=>exact ⟨k+1,by omega,by go_num,by rw [HV.o]⟩
     case measure=>simp [intOf];omega
    ·have hke:k=l.length:=by omega
     subst hke;rw [List.take_of_length_le nL];clear hb hp;go_wp2;go_ret;exact ⟨Af HY.o.symm,rfl⟩
theorem sNumOf_any (l:List UInt8) (w:World) (hl:l.length≤1099511627776) :
  Calls prog 177 #[.string ⟨l.toArray⟩] w fun e w'=>e=.returned (.int .i64 (Dr l))∧w'=w:=by
 by_cases hbig:18<l.length
 ·have HN:Hid _:=Ss hbig
  have hbi:(18:Int)<(l.length:Int):=by omega
  go_enter func177,ntmps177
  go_wp2;go_ret;exact ⟨Af HN.o.symm,rfl⟩
 ·have hbi:(l.length:Int)≤18:=by omega
  have hl18:l.length≤18:=by omega
  cases hd:A6 48 57 l
  ·have HN:Hid _:=Sp hd
   go_enter func177,ntmps177
   go_wp2_with fail
   refine (Ga _ _ hl).mono ?_;rintro e w1 ⟨rfl,hw⟩;subst hw;rw [hd];go_wp2;go_ret;exact ⟨Af HN.o.symm,rfl⟩
  ·have HY:Hid _:=Sn hl18 hd
   have HB:Hid _:=Nv l hd;have HD:Hid (A6 48 57 l=true):=hd
   go_enter func177,ntmps177
   go_wp2_with fail
   refine (Ga _ _ hl).mono ?_;rintro e w1 ⟨rfl,hw⟩;subst hw;rw [hd];clear hd;go_wp2
   go_loop [3,4] (fun v i=>∃ k:Nat,k≤l.length∧i=.int .i64 k∧v=.int .i64 (val 0 (l.take k))) (fun _ i=>l.length - (intOf i).toNat)
   case atStart=>exact ⟨0,Nat.zero_le _,rfl,rfl⟩
   case round =>
    obtain ⟨k,hk,rfl,rfl⟩:=hrel;have hb:=HB.o k hk
    have hp:10 ^ k≤10 ^ 18:=Nat.pow_le_pow_right (by omega) (by omega)
    by_cases hlt:k<l.length
    ·have hki:(k:Int)<(l.length:Int):=by omega
     have hp1:10 ^ k≤10 ^ 17:=Nat.pow_le_pow_right (by omega) (by omega)
     have hw:=Nx HD.o hlt;have hv:=Rj l k hlt
     obtain ⟨c,hc⟩:∃ c,(⟨l.toArray⟩:ByteArray)[k]'(by rw [Fo];exact hlt)=c:=⟨_,rfl⟩
     rw [(Je l k hlt).trans hc] at hw hv;obtain ⟨x,hx⟩:∃ x,val 0 (l.take k)=x:=⟨_,rfl⟩;rw [hx] at hb hv ⊢
     have hxb:x≤100000000000000000:=by omega
     have hsi:((val 0 (l.take (k+1)):Nat):Int)=10 * (x:Int)+(c.toNat:Int) - 48:=by omega
     have HV:Hid _:=hsi;clear hsi hv hx hb hp hp1;go_wp2
     go_round
     case rel=>exact ⟨k+1,by omega,by go_num,by rw [HV.o]⟩
     case measure=>simp [intOf];omega
    ·have hke:k=l.length:=by omega
     subst hke;rw [List.take_of_length_le nL];clear hb hp;go_wp2;go_ret;exact ⟨Af HY.o.symm,rfl⟩
def low (m:Nat):List UInt8:=if m=0 then [] else Lib.decDigits m
theorem kF (m:Nat) (h:m≠0):low m=low (m / 10)++[UInt8.ofNat (48+m % 10)]:=by
 unfold low;rw [if_neg h,Lib.decDigits]
 by_cases h1:m<10
 ·rw [dif_pos h1,if_pos (by omega),Nat.mod_eq_of_lt h1];rfl
 ·rw [dif_neg h1,if_neg (by omega)]
theorem uY (a:Nat) (ha:a≤9223372036854775807):(Lib.decDigits a).length≤21:=by
 have:=Lib.itoa_length_le (a:Int) (by omega) (by omega)
 simpa [Lib.itoa,show ¬ (a:Int)<0 from by omega] using this
theorem nI (d:Nat) (h:d<10):(⟨#[48,49,50,51,52,53,54,55,56,57]⟩:ByteArray).extract d (d+1)=⟨[UInt8.ofNat (48+d)].toArray⟩:=by
 rcases (show d=0∨d=1∨d=2∨d=3∨d=4∨d=5∨d=6∨d=7∨d=8∨d=9 from by omega) with rfl | rfl | rfl | rfl | rfl | rfl | rfl | rfl | rfl | rfl <;> decide
theorem fT (d:Nat) (l:List UInt8) (h:d<10):(⟨#[48,49,50,51,52,53,54,55,56,57]⟩:ByteArray).extract d (d+1)++⟨l.toArray⟩=⟨(UInt8.ofNat (48+d)::l).toArray⟩:=by
 rw [nI d h,Lb];rfl
theorem dec_up (a:Nat) (w:World) (ha:a≤9223372036854775807) :
  Calls prog 72 #[.int .i64 a] w fun e w'=>e=.returned (.string ⟨(Lib.decDigits a).toArray⟩)∧w'=w:=by
 by_cases h0:a=0
 ·subst h0
  go_enter func72,ntmps72
  go_wp2;go_ret
  exact ⟨Us (by rw [Lib.decDigits_one (by omega)];rfl),rfl⟩
 ·have hne:((a:Int) == 0)=false:=by simp;omega
  have hnn:¬ (a:Int)<0:=by omega
  go_enter func72,ntmps72
  go_wp2
  go_loop [3,4,5] (fun o m _=>∃ (k:Nat) (l:List UInt8),k≤a∧m=.int .i64 k∧o=.string ⟨l.toArray⟩∧Lib.decDigits a=low k++l) (fun _ m _=>(intOf m).toNat)
  case atStart=>exact ⟨a,[],nL,rfl,rfl,by simp [low,h0]⟩
  case round =>
   obtain ⟨k,l,hk,rfl,rfl,hd⟩:=hrel
   by_cases hk0:k=0
   ·subst hk0
    have HD:Hid _:=hd;clear hd;go_wp2;go_ret
    exact ⟨Us (by have:=HD.o;simp [low] at this;rw [this]),rfl⟩
   ·have kne:((k:Int) != 0)=true:=by simp;omega
    have HD:Hid (Lib.decDigits a=low (k / 10)++(UInt8.ofNat (48+k % 10)::l)):=by rw [Hid,hd,kF k hk0];simp
    have hl:l.length≤21:=by have h1:=uY a ha;rw [hd] at h1;simp at h1;omega
    clear hd;go_wp2
    go_round
    case rel=>exact ⟨k / 10,UInt8.ofNat (48+k % 10)::l,by omega,by go_num,by rw [fT _ _ (by omega)],HD.o⟩
    case measure=>simp [intOf];omega
end Tg
theorem Uh {x a b:Int} (h:a≤x) (g:x≤b):Gk x a b=true:=by simp [Gk,h,g]
theorem bN {x a b:Int} (h:x<a∨b<x):Gk x a b=false:=by simp [Gk];omega
theorem A9 (x:Int) (w:World) :
  Calls prog 102 #[.int .i64 x] w fun e w'=>e=.returned (.bool (Dn x))∧w'=w:=by
 go_enter func102,ntmps102
 go_wp2_with (go_at_call 134;refine (Dl _ _ _ _).mono ?_;rintro e w' ⟨rfl,rfl⟩)
 go_ret;exact ⟨rfl,rfl⟩
theorem Bm (x:Int) (w:World) :
  Calls prog 99 #[.int .i64 x] w fun e w'=>e=.returned (.bool (Dn x))∧w'=w:=by
 by_cases h1:0≤x
 ·by_cases h2:x≤80000
  ·go_enter func99,ntmps99
   go_wp2;go_ret
   exact ⟨by simp [Dn,h1,h2],rfl⟩
  ·go_enter func99,ntmps99
   go_wp2;go_ret
   exact ⟨by simp [Dn,h1,h2],rfl⟩
 ·go_enter func99,ntmps99
  go_wp2;go_ret
  exact ⟨by simp [Dn];omega,rfl⟩
def wdV (d:Int):Int:=if Dn d=true then (d+5) % 7 else -1
theorem Pt {d:Int} (h:Dn d=true):wdV d=(d+5) % 7:=if_pos h
theorem kW {d:Int} (h:Dn d=false):wdV d = -1:=if_neg (by rw [h];decide)
theorem M6 (x:Int) (w:World) :
  Calls prog 326 #[.int .i64 x] w fun e w'=>e=.returned (.int .i64 (wdV x))∧w'=w:=by
 cases h:Dn x
 ·have HV:Hid _:=kW h
  go_enter func326,ntmps326
  go_wp2_with (go_at_call 102;refine (A9 _ _).mono ?_;rintro e w' ⟨rfl,rfl⟩)
  go_ret;exact ⟨Af HV.o.symm,rfl⟩
 ·have HV:Hid _:=Pt h
  have hb:=Ei h
  go_enter func326,ntmps326
  go_wp2_with (go_at_call 102;refine (A9 _ _).mono ?_;rintro e w' ⟨rfl,rfl⟩)
  go_ret;exact ⟨Af HV.o.symm,rfl⟩
theorem Ur (x:Int) (w:World) :
  Calls prog 358 #[.int .i64 x] w fun e w'=>e=.returned (.int .i64 (wdV x))∧w'=w:=by
 cases h:Dn x
 ·have HV:Hid _:=kW h
  go_enter func358,ntmps358
  go_wp2_with (go_at_call 99;refine (Bm _ _).mono ?_;rintro e w' ⟨rfl,rfl⟩)
  go_ret;exact ⟨Af HV.o.symm,rfl⟩
 ·have HV:Hid _:=Pt h
  have hb:=Ei h
  go_enter func358,ntmps358
  go_wp2_with (go_at_call 99;refine (Bm _ _).mono ?_;rintro e w' ⟨rfl,rfl⟩)
  go_ret;exact ⟨Af HV.o.symm,rfl⟩
end Go.Proofs.YtomiclakhjncbaaGreatDoor
namespace Go.Proofs.YtomiclakhjncbaaGreatDoor
open Go.Proofs.Tryz
theorem hF (d:Nat) (h:d<10):(UInt8.ofNat (48+d)).toNat=48+d:=by
 rw [UInt8.toNat_ofNat'];omega
theorem xH (n:Nat):(∀ c ∈ Lib.decDigits n,48≤c.toNat∧c.toNat≤57)∧val 0 (Lib.decDigits n)=n:=by
 induction n using Nat.strongRecOn with
 | _ n ih =>
  rw [Lib.decDigits]
  by_cases h:n<10
  ·rw [dif_pos h]
   refine ⟨fun c hc=>?_,?_⟩
   ·obtain rfl:c=UInt8.ofNat (48+n):=by simpa using hc
    rw [hF n h];omega
   ·simp only [val,List.foldl_cons,List.foldl_nil]
    rw [hF n h];omega
  ·rw [dif_neg h]
   obtain ⟨i1,i2⟩:=ih (n / 10) (by omega)
   refine ⟨fun c hc=>?_,?_⟩
   ·rcases List.mem_append.1 hc with hc | hc
    ·exact i1 c hc
    ·obtain rfl:c=UInt8.ofNat (48+n % 10):=by simpa using hc
     rw [hF _ (by omega)];omega
   ·rw [Yr,i2]
    simp only [val,List.foldl_cons,List.foldl_nil]
    rw [hF _ (by omega)];omega
theorem uE (k n:Nat) (hk:1≤k) (h:n<10 ^ k):(Lib.decDigits n).length≤k:=by
 induction k generalizing n with
 | zero=>omega
 | succ k ih =>
  rw [Lib.decDigits]
  by_cases h1:n<10
  ·rw [dif_pos h1];simp
  ·rw [dif_neg h1]
   have hk1:1≤k:=by
    rcases Nat.eq_zero_or_pos k with rfl | hp
    ·simp at h;omega
    ·exact hp
   have:=ih (n / 10) hk1 (by rw [Nat.pow_succ] at h;omega)
   simp;omega
def nW (x n:Int):Bool:=decide (1≤n∧n≤18) && decide (0≤x∧x<((10 ^ n.toNat:Nat):Int))
def uZ (x n:Nat):List UInt8:=List.replicate (n - (Lib.decDigits x).length) 48++Lib.decDigits x
def uF (x n:Int):List UInt8:=if nW x n=true then uZ x.toNat n.toNat else []
theorem uW {x n:Int} (h:nW x n=false):uF x n=[]:=if_neg (by rw [h];decide)
theorem xC {x n:Int} (h:¬ (1≤n∧n≤18)):nW x n=false:=by unfold nW;rw [decide_eq_false h];rfl
theorem xG {x n:Int} (h:¬ (0≤x∧x<((10 ^ n.toNat:Nat):Int))):nW x n=false:=by unfold nW;rw [decide_eq_false h,Bool.and_false]
theorem uH {x n:Nat} (h1:1≤n) (h2:n≤18) (h3:x<10 ^ n):uF x n=uZ x n:=by
 unfold uF;rw [if_pos]
 ·rw [Int.toNat_natCast,Int.toNat_natCast]
 ·unfold nW
  rw [decide_eq_true (by omega),decide_eq_true (by rw [Int.toNat_natCast];omega)];rfl
theorem uG (x n:Int):uF x n=[]∨∃ a m:Nat,x=a∧n=m∧1≤m∧m≤18∧a<10 ^ m∧uF x n=uZ a m:=by
 cases h:nW x n
 ·exact .inl (uW h)
 ·unfold nW at h
  rw [Bool.and_eq_true,decide_eq_true_eq,decide_eq_true_eq] at h;obtain ⟨a,rfl⟩:=Int.eq_ofNat_of_zero_le h.2.1
  obtain ⟨m,rfl⟩:=Int.eq_ofNat_of_zero_le (show 0≤n by omega)
  rw [Int.toNat_natCast] at h
  exact .inr ⟨a,m,rfl,rfl,by omega,by omega,by omega,uH (by omega) (by omega) (by omega)⟩
theorem vI {x n:Nat} (h1:1≤n) (h3:x<10 ^ n):(uZ x n).length=n:=by
 have:=uE n x h1 h3
 simp [uZ];omega
theorem yH (x n:Nat):A6 48 57 (uZ x n)=true:=by
 refine wU fun c hc=>?_
 rcases List.mem_append.1 hc with hc | hc
 ·rw [List.mem_replicate] at hc
  rw [hc.2];decide
 ·exact (xH x).1 c hc
end Go.Proofs.YtomiclakhjncbaaGreatDoor
namespace Go.Proofs.YtomiclakhjncbaaGreatDoor
open Go.RowKit Go.Proofs.Tryz
def low (m:Nat):List UInt8:=if m=0 then [] else Lib.decDigits m
theorem kF (m:Nat) (h:m≠0):low m=low (m / 10)++[UInt8.ofNat (48+m % 10)]:=by
 unfold low;rw [if_neg h,Lib.decDigits]
 by_cases h1:m<10
 ·rw [dif_pos h1,if_pos (by omega),Nat.mod_eq_of_lt h1];rfl
 ·rw [dif_neg h1,if_neg (by omega)]
theorem uY (a:Nat) (ha:a≤9223372036854775807):(Lib.decDigits a).length≤21:=by
 have:=Lib.itoa_length_le (a:Int) (by omega) (by omega)
 simpa [Lib.itoa,show ¬ (a:Int)<0 from by omega] using this
theorem nI (d:Nat) (h:d<10):(⟨#[48,49,50,51,52,53,54,55,56,57]⟩:ByteArray).extract d (d+1)=⟨[UInt8.ofNat (48+d)].toArray⟩:=by
 rcases (show d=0∨d=1∨d=2∨d=3∨d=4∨d=5∨d=6∨d=7∨d=8∨d=9 from by omega) with rfl | rfl | rfl | rfl | rfl | rfl | rfl | rfl | rfl | rfl <;> decide
theorem fT (d:Nat) (l:List UInt8) (h:d<10):(⟨#[48,49,50,51,52,53,54,55,56,57]⟩:ByteArray).extract d (d+1)++⟨l.toArray⟩=⟨(UInt8.ofNat (48+d)::l).toArray⟩:=by
 rw [nI d h,Lb];rfl
theorem dec_up (a:Nat) (w:World) (ha:a≤9223372036854775807) :
  Calls prog 72 #[.int .i64 a] w fun e w'=>e=.returned (.string ⟨(Lib.decDigits a).toArray⟩)∧w'=w:=by
 by_cases h0:a=0
 ·subst h0
  go_enter func72,ntmps72
  go_wp2;go_ret
  exact ⟨Us (by rw [Lib.decDigits_one (by omega)];rfl),rfl⟩
 ·have hne:((a:Int) == 0)=false:=by simp;omega
  have hnn:¬ (a:Int)<0:=by omega
  go_enter func72,ntmps72
  go_wp2
  go_loop [3,4,5] (fun o m _=>∃ (k:Nat) (l:List UInt8),k≤a∧m=.int .i64 k∧o=.string ⟨l.toArray⟩∧Lib.decDigits a=low k++l) (fun _ m _=>(intOf m).toNat)
  case atStart=>exact ⟨a,[],nL,rfl,rfl,by simp [low,h0]⟩
  case round =>
   obtain ⟨k,l,hk,rfl,rfl,hd⟩:=hrel
   by_cases hk0:k=0
   ·subst hk0
    have HD:Hid _:=hd;clear hd;go_wp2;go_ret
    exact ⟨Us (by have:=HD.o;simp [low] at this;rw [this]),rfl⟩
   ·have kne:((k:Int) != 0)=true:=by simp;omega
    have HD:Hid (Lib.decDigits a=low (k / 10)++(UInt8.ofNat (48+k % 10)::l)):=by rw [Hid,hd,kF k hk0];simp
    have hl:l.length≤21:=by have h1:=uY a ha;rw [hd] at h1;simp at h1;omega
    clear hd;go_wp2
    go_round
    case rel=>exact ⟨k / 10,UInt8.ofNat (48+k % 10)::l,by omega,by go_num,by rw [fT _ _ (by omega)],HD.o⟩
    case measure=>simp [intOf];omega
theorem uJ (n:Nat) (w:World) (hn:n≤18) :
  Calls prog 166 #[.int .i64 n] w fun e w'=>e=.returned (.int .i64 (10 ^ n:Nat))∧w'=w:=by
 go_enter func166,ntmps166
 go_wp2
 go_loop [3,4] (fun p i=>∃ k:Nat,k≤n∧i=.int .i64 k∧p=.int .i64 (10 ^ k:Nat)) (fun _ i=>n - (intOf i).toNat)
 case atStart=>exact ⟨0,Nat.zero_le _,rfl,rfl⟩
 case round =>
  obtain ⟨k,hk,rfl,rfl⟩:=hrel
  by_cases hlt:k<n
  ·have hki:(k:Int)<(n:Int):=by omega
   have hp:10 ^ k≤10 ^ 17:=Nat.pow_le_pow_right (by omega) (by omega)
   have hs:10 ^ (k+1)=10 ^ k*10:=Nat.pow_succ 10 k;obtain ⟨x,hx⟩:∃ x:Nat,10 ^ k=x:=⟨_,rfl⟩;rw [hx] at hp hs ⊢
   have HS:Hid (((10 ^ (k+1):Nat):Int)=10 * (x:Int)):=by rw [Hid,hs];omega
   have hxb:x≤100000000000000000:=by omega
   clear hs hx hp;go_wp2
   go_round
   case rel=>exact ⟨k+1,by omega,by go_num,by rw [HS.o]⟩
   case measure=>simp [intOf];omega
  ·have hke:k=n:=by omega
   subst hke;obtain ⟨x,hx⟩:∃ x:Nat,10 ^ k=x:=⟨_,rfl⟩;rw [hx];have HX:Hid _:=hx;clear hx;go_wp2;go_ret
   exact ⟨Af (by rw [← HX.o];simp),rfl⟩
def uI:Value→Nat
 | .string b=>b.size
 | _=>0
theorem uD (l:List UInt8):uI (.string ⟨l.toArray⟩)=l.length:=by simp [uI,ByteArray.size]
theorem vD (x n:Int) (w:World) :
  Calls prog 130 #[.int .i64 x,.int .i64 n] w fun e w'=>e=.returned (.string ⟨(uF x n).toArray⟩)∧BW w w':=by
 cases h1:Gk n 1 18
 ·have h1o:¬ (1≤n∧n≤18):=of_decide_eq_false h1
  have HN:Hid _:=uW (xC (x:=x) h1o)
  go_enter func130,ntmps130
  go_wp2_with fail
  refine (Dl _ _ _ _).mono ?_;rintro e w1 ⟨rfl,hw1⟩;subst hw1;rw [h1];go_wp2;go_ret
  exact ⟨Us (by rw [HN.o]),bR⟩
 ·have h1i:1≤n∧n≤18:=of_decide_eq_true h1
  have HI:Hid _:=h1
  obtain ⟨m,rfl⟩:=Int.eq_ofNat_of_zero_le (show 0≤n by omega)
  have hp:10 ^ m≤10 ^ 18:=Nat.pow_le_pow_right (by omega) (by omega)
  have hp0:0<10 ^ m:=Nat.pow_pos (by omega)
  have hm18:m≤18:=by omega
  have HM1:Hid (1≤m):=by rw [Hid];omega
  clear h1;obtain ⟨y,hy⟩:∃ y:Nat,10 ^ m=y:=⟨_,rfl⟩;rw [hy] at hp hp0
  have hyb:y≤1000000000000000000:=by omega
  have HYM:Hid _:=hy;clear hy hp
  cases h2:Gk x 0 ((y:Int) - 1)
  ·have h2o:¬ (0≤x∧x≤(y:Int) - 1):=of_decide_eq_false h2
   have HN:Hid _:=uW (xG (x:=x) (n:=m) (by rw [Int.toNat_natCast,HYM.o];omega))
   go_enter func130,ntmps130
   go_wp2_with fail
   refine (Dl _ _ _ _).mono ?_;rintro e w1 ⟨rfl,hw1⟩;subst hw1;rw [HI.o];go_wp2_with fail
   refine (uJ m _ hm18).mono ?_;rintro e w1 ⟨rfl,hw1⟩;subst hw1;rw [HYM.o];go_wp2_with fail
   refine (Dl _ _ _ _).mono ?_;rintro e w1 ⟨rfl,hw1⟩;subst hw1;rw [h2];go_wp2;go_ret
   exact ⟨Us (by rw [HN.o]),bR⟩
  ·have h2i:0≤x∧x≤(y:Int) - 1:=of_decide_eq_true h2
   obtain ⟨a,rfl⟩:=Int.eq_ofNat_of_zero_le h2i.1;have H2:Hid _:=h2
   have hay:a<y:=by omega
   have HY:Hid (uF a m=uZ a m):=uH HM1.o hm18 (by rw [HYM.o];exact hay)
   have hsl:=uE m a HM1.o (by rw [HYM.o];exact hay)
   unfold uZ at HY;clear h2
   go_enter func130,ntmps130
   go_wp2_with fail
   refine (Dl _ _ _ _).mono ?_;rintro e w1 ⟨rfl,hw1⟩;subst hw1;rw [HI.o];go_wp2_with fail
   refine (uJ m _ hm18).mono ?_;rintro e w1 ⟨rfl,hw1⟩;subst hw1;rw [HYM.o];go_wp2_with fail
   refine (Dl _ _ _ _).mono ?_;rintro e w1 ⟨rfl,hw1⟩;subst hw1;rw [H2.o];clear H2 HI;go_wp2_with fail
   refine (dec_up a _ (by omega)).mono ?_
   rintro e w1 ⟨rfl,hw1⟩;subst hw1
   generalize Lib.decDigits a=s at hsl HY
   go_wp2
   go_loop [5] (fun v=>∃ k:Nat,k≤m - s.length∧v=.string ⟨(List.replicate k 48++s).toArray⟩) (fun v=>m - uI v)
   case atStart=>exact ⟨0,Nat.zero_le _,rfl⟩
   case round =>
    obtain ⟨k,hk,rfl⟩:=hrel
    have hsz:(List.replicate k (48:UInt8)++s).length=k+s.length:=by simp
    have HS2:Hid ((⟨#[48]⟩:ByteArray)++⟨(List.replicate k 48++s).toArray⟩=⟨(List.replicate (k+1) 48++s).toArray⟩):=Lb [48] (List.replicate k 48++s)
    have HS3:Hid (uI (.string ((⟨#[48]⟩:ByteArray)++⟨(List.replicate k 48++s).toArray⟩))=k+1+s.length):=by rw [Hid,HS2.o,uD];simp
    have HS4:Hid (uI (.string ⟨(List.replicate k 48++s).toArray⟩)=k+s.length):=by rw [Hid,uD,hsz]
    have HK:Hid (k=m - s.length→uF a m=List.replicate k 48++s):=fun e=>by rw [e];exact HY.o
    generalize List.replicate k (48:UInt8)++s=p at hsz HS2 HS3 HS4 HK
    have hpl:p.length≤25:=by omega
    by_cases hlt:p.length<m
    ·have hlt':(p.length:Int)<(m:Int):=by omega
     have hkd:k+1≤m - s.length:=by omega
     have hme:m - (k+1+s.length)<m - (k+s.length):=by omega
     clear hsz;go_wp2
     go_round
     case rel=>exact ⟨k+1,hkd,by rw [HS2.o]⟩
     case measure=>rw [HS3.o,HS4.o];exact hme
    ·have hlt':(m:Int)≤(p.length:Int):=by omega
     have HP:Hid _:=HK.o (by omega)
     clear hsz HK HS2 HS3 HS4 hk;go_wp2;go_ret
     exact ⟨Us (by rw [HP.o]),bR⟩
end Go.Proofs.YtomiclakhjncbaaGreatDoor
namespace Go.Proofs.YtomiclakhjncbaaGreatDoor
open Go.RowKit Tg Go.Proofs.Tryz
theorem vH (n:Int):IntKind.i64.wrap n=if 9223372036854775808≤n % 18446744073709551616 then n % 18446744073709551616 - 18446744073709551616 else n % 18446744073709551616:=by
 simp [IntKind.wrap,IntKind.bits,IntKind.signed]
theorem xT (n:Int):-9223372036854775808≤IntKind.i64.wrap n∧IntKind.i64.wrap n≤9223372036854775807:=by
 rw [vH]
 by_cases h:9223372036854775808≤n % 18446744073709551616
 ·rw [if_pos h];omega
 ·rw [if_neg h];omega
theorem X8 {n:Int} (h1:-9223372036854775808≤n) (h2:n≤9223372036854775807):IntKind.i64.wrap n=n:=by
 rw [vH]
 by_cases h:9223372036854775808≤n % 18446744073709551616
 ·rw [if_pos h];omega
 ·rw [if_neg h];omega
def QT (j:Nat) (k:Int):Prop:=j=0∨(1≤j∧k.natAbs*10 ^ (j - 1)≤9223372036854775808)
theorem Aaw {j:Nat} {k:Int} (h:QT j k) (hk:k≠0):j≤19:=by
 rcases h with rfl | ⟨h1,h2⟩
 ·omega
 ·by_cases hj:j≤19
  ·exact hj
  ·have h3:10 ^ 19≤10 ^ (j - 1):=Nat.pow_le_pow_right (by omega) (by omega)
   have h4:1*10 ^ (j - 1)≤k.natAbs*10 ^ (j - 1):=Nat.mul_le_mul_right _ (by omega)
   omega
theorem yL (k:Int):(k.tdiv 10).natAbs=k.natAbs / 10:=by rw [Int.natAbs_tdiv];rfl
theorem zI {j:Nat} {k:Int} (h:QT j k) (_hk:k≠0):QT (j+1) (IntKind.i64.wrap (k.tdiv 10))∧(IntKind.i64.wrap (k.tdiv 10)).natAbs<k.natAbs:=by
 have ha:=yL k;have hb:=xT (k.tdiv 10)
 by_cases hs:k.natAbs≤9223372036854775808
 ·have e:IntKind.i64.wrap (k.tdiv 10)=k.tdiv 10:=X8 (by omega) (by omega)
  rw [e]
  refine ⟨.inr ⟨by omega,?_⟩,by omega⟩
  rcases h with rfl | ⟨h1,h2⟩
  ·rw [ha];simp;omega
  ·have e2:10 ^ (j+1 - 1)=10 ^ (j - 1) * 10:=by rw [← Nat.pow_succ];congr 1;omega
   have h3:k.natAbs / 10*10≤k.natAbs:=Nat.div_mul_le_self _ _;have h4:=Nat.mul_le_mul_right (10 ^ (j - 1)) h3;rw [ha,e2]
   have e3:k.natAbs / 10 * (10 ^ (j - 1) * 10)=k.natAbs / 10*10*10 ^ (j - 1):=by
    rw [Nat.mul_comm (10 ^ (j - 1)) 10,Nat.mul_assoc]
   omega
 ·rcases h with rfl | ⟨h1,h2⟩
  ·refine ⟨.inr ⟨by omega,?_⟩,by omega⟩
   simp;omega
  ·exfalso
   have h3:1≤10 ^ (j - 1):=Nat.one_le_pow _ _ (by omega)
   have h4:k.natAbs*1≤k.natAbs*10 ^ (j - 1):=Nat.mul_le_mul_left _ h3
   omega
theorem R3 (n:Int) (w:World) :
  Calls prog 72 #[.int .i64 n] w fun e w'=>∃ l:List UInt8,e=.returned (.string ⟨l.toArray⟩)∧l.length≤22∧w'=w:=by
 by_cases h0:n=0
 ·subst h0
  go_enter func72,ntmps72
  go_wp2;go_ret
  exact ⟨[48],rfl,by simp,rfl⟩
 ·have hne:(n == 0)=false:=by simpa using h0
  go_enter func72,ntmps72
  go_wp2
  go_loop [3,4,5] (fun o m _=>∃ (k:Int) (l:List UInt8),m=.int .i64 k∧o=.string ⟨l.toArray⟩∧l.length≤20∧QT l.length k) (fun _ m _=>(intOf m).natAbs)
  case atStart=>exact ⟨n,[],rfl,rfl,by simp,.inl rfl⟩
  case round =>
   obtain ⟨k,l,rfl,rfl,hl,hq⟩:=hrel
   by_cases hk0:k=0
   ·subst hk0
    clear hq
    by_cases hn:n<0
    ·go_wp2
     go_ret
     exact ⟨45::l,by rw [show (⟨#[45]⟩:ByteArray)=⟨[45].toArray⟩ from rfl,Lb];rfl,by simp;omega,rfl⟩
    ·go_wp2
     go_ret
     exact ⟨l,rfl,by omega,rfl⟩
   ·have kne:(k != 0)=true:=by simpa using hk0
    have hb:=Aaw hq hk0;obtain ⟨hq1,hq2⟩:=zI hq hk0;obtain ⟨k2,hk2⟩:∃ x,IntKind.i64.wrap (k.tdiv 10)=x:=⟨_,rfl⟩;rw [hk2] at hq1 hq2;have HQ1:Hid _:=hq1;have HQ2:Hid (k2.natAbs<k.natAbs):=hq2
    have hr:(k.tmod 10).natAbs<10:=by
     rw [Int.natAbs_tmod];exact Nat.mod_lt _ (by decide)
    obtain ⟨r,hre⟩:∃ r,k.tmod 10=r:=⟨_,rfl⟩;rw [hre] at hr;clear hq hq1 hq2
    by_cases hs:r<0
    ·obtain ⟨d,hd⟩:∃ d:Nat,r = -(d:Int):=⟨r.natAbs,by omega⟩
     subst hd
     have hd9:d<10:=by omega
     have hd0:0<d:=by omega
     have hw:IntKind.i64.wrap (-(d:Int)) = -(d:Int):=X8 (by omega) (by omega)
     clear hr;go_wp2
     go_round
     case rel=>exact ⟨k2,UInt8.ofNat (48+d)::l,by rfl,by rw [fT _ _ hd9],by simp;omega,HQ1.o⟩
     case measure=>simp only [intOf];exact HQ2.o
    ·obtain ⟨d,hd⟩:∃ d:Nat,r=(d:Int):=⟨r.natAbs,by omega⟩
     subst hd
     have hd9:d<10:=by omega
     clear hr;go_wp2
     go_round
     case rel=>exact ⟨k2,UInt8.ofNat (48+d)::l,by rfl,by rw [fT _ _ hd9],by simp;omega,HQ1.o⟩
     case measure=>simp only [intOf];exact HQ2.o
end Go.Proofs.YtomiclakhjncbaaGreatDoor
namespace Go.Proofs.YtomiclakhjncbaaGreatDoor
open Go.Proofs.Tryz
def Er:Int→List Int→Bool
 | _,[]=>true
 | l,z::r=>decide (l<z∧0≤z∧z≤80000) && Er z r
def Ct (zs:List Int):Bool:=decide (zs.length≤400) && Er (-1) zs
theorem Wj (zs:List Int) (k:Nat) (l:Int) (h:k<zs.length):Er l (zs.drop k)=(decide (l<zs.getD k 0∧0≤zs.getD k 0∧zs.getD k 0≤80000) && Er (zs.getD k 0) (zs.drop (k+1))):=by
 rw [List.drop_eq_getElem_cons h,Er]
 simp [List.getD_eq_getElem?_getD,h]
theorem oM:∀ (zs:List Int) (l:Int),Er l zs=true→∀ z ∈ zs,l<z:=by
 intro zs
 induction zs with
 | nil=>intro l _ z hz;cases hz
 | cons a r ih =>
  intro l h z hz
  simp [Er] at h
  rcases List.mem_cons.1 hz with rfl | hz
  ·exact h.1.1
  ·have:=ih a h.2 z hz;omega
theorem Ye:∀ (zs:List Int) (l:Int),Er l zs=true→∀ i j,i<j→j<zs.length→zs.getD i 0<zs.getD j 0:=by
 intro zs
 induction zs with
 | nil=>intro l _ i j _ h;simp at h
 | cons a r ih =>
  intro l h i j hij hj
  simp [Er] at h
  cases j with
  | zero=>omega
  | succ j =>
   have hj':j<r.length:=by simpa using hj
   cases i with
   | zero =>
    have:=oM r a h.2 (r.getD j 0) (by simp [List.getD_eq_getElem?_getD,hj'])
    simpa [List.getD_eq_getElem?_getD] using this
   | succ i =>
    have:=ih a h.2 i j (by omega) hj'
    simpa [List.getD_eq_getElem?_getD] using this
theorem pD {zs:List Int} (h:Ct zs=true):Er (-1) zs=true:=by simp [Ct] at h;exact h.2
theorem pF {zs:List Int} (h:Ct zs=true):zs.length≤400:=by simp [Ct] at h;exact h.1
theorem cP {zs:List Int} (h:400<zs.length):Ct zs=false:=by simp [Ct];omega
theorem Mg {zs:List Int} (h:Er (-1) zs=false):Ct zs=false:=by simp [Ct,h]
theorem cG {zs:List Int} (h:zs.length≤400) (g:Er (-1) zs=true):Ct zs=true:=by simp [Ct,h,g]
theorem Yl {zs:List Int} {t:Int} {i:Nat} (ha:Er (-1) zs=true) (h1:∀ k,k<i→zs.getD k 0<t) (h2:∀ k,i≤k→k<zs.length→t≤zs.getD k 0) :
  (t ∈ zs) ↔ (i<zs.length∧zs.getD i 0=t):=by
 constructor
 ·intro hm
  obtain ⟨k,hk,rfl⟩:=List.mem_iff_getElem.1 hm
  have e:zs.getD k 0=zs[k]:=by simp [List.getD_eq_getElem?_getD,hk]
  have hik:i≤k:=by
   rcases Nat.lt_or_ge k i with h | h
   ·have:=h1 k h;omega
   ·exact h
  by_cases h:i=k
  ·subst h;exact ⟨hk,e⟩
  ·have a:=Ye zs _ ha i k (by omega) hk
   have b:=h2 i nL (by omega)
   omega
 ·rintro ⟨hi,rfl⟩
  simp [List.getD_eq_getElem?_getD,hi]
def wk (zs:List Int) (d:Int):Bool:=decide ((d+5) % 7<5) && !decide (d ∈ zs)
def wd (zs:List Int):Nat→List Int
 | 0=>[]
 | f+1=>if wk zs (80000 - f)=true then (80000 - (f:Int))::wd zs f else wd zs f
def Pk (zs:List Int) (f:Nat):Nat→Option Int
 | 0=>some (80000 - (f:Int))
 | n+1=>(wd zs f)[n]?
def Lh (d n:Int) (zs:List Int):Option Int:=if Dn d=true∧0≤n∧n≤400∧Ct zs=true then Pk zs (80000 - d).toNat n.toNat else none
theorem mN {zs:List Int} {f:Nat} (h:wk zs (80000 - f)=true):wd zs (f+1)=(80000 - (f:Int))::wd zs f:=by rw [wd,if_pos h]
theorem kN {zs:List Int} {f:Nat} (h:wk zs (80000 - f)=false):wd zs (f+1)=wd zs f:=by rw [wd,if_neg (by rw [h];decide)]
theorem Wb (zs:List Int) (f:Nat):Pk zs f 0=some (80000 - (f:Int)):=rfl
theorem pC (zs:List Int) (n:Nat):Pk zs 0 (n+1)=none:=by simp [Pk,wd]
theorem oO {zs:List Int} {f n:Nat} (h:wk zs (80000 - f)=true):Pk zs (f+1) (n+1)=Pk zs f n:=by
 rw [Pk,mN h]
 cases n with
 | zero=>simp [Pk]
 | succ n=>simp [Pk]
theorem qO {zs:List Int} {f n:Nat} (h:wk zs (80000 - f)=false):Pk zs (f+1) (n+1)=Pk zs f (n+1):=by
 rw [Pk,kN h];rfl
end Go.Proofs.YtomiclakhjncbaaGreatDoor
namespace Go.Proofs.YtomiclakhjncbaaGreatDoor
open Go.RowKit Go.Proofs.Tryz
def Bv (t d:Int):Bool:=Dn t && Dn d && decide (d<t)
theorem Sr {t d:Int} (h:Dn t=false):Bv t d=false:=by simp [Bv,h]
theorem To {t d:Int} (h:Dn d=false):Bv t d=false:=by simp [Bv,h]
theorem Tk {t d:Int} (h:Dn t=true) (g:Dn d=true):Bv t d=decide (d<t):=by simp [Bv,h,g]
theorem N2 (t d:Int) (w:World) :
  Calls prog 91 #[.int .i64 t,.int .i64 d] w fun e w'=>e=.returned (.bool (Bv t d))∧w'=w:=by
 cases h1:Dn t
 ·have HV:Hid _:=Sr (d:=d) h1
  go_enter func91,ntmps91
  go_wp2_with (go_at_call 99;refine (Bm _ _).mono ?_;rintro e w' ⟨rfl,rfl⟩)
  go_ret;exact ⟨Aa HV.o.symm,rfl⟩
 ·cases h2:Dn d
  ·have HV:Hid _:=To (t:=t) h2
   go_enter func91,ntmps91
   go_wp2_with (go_at_call 99;refine (Bm _ _).mono ?_;rintro e w' ⟨rfl,rfl⟩)
   go_ret;exact ⟨Aa HV.o.symm,rfl⟩
  ·have HV:Hid _:=Tk h1 h2
   go_enter func91,ntmps91
   go_wp2_with (go_at_call 99;refine (Bm _ _).mono ?_;rintro e w' ⟨rfl,rfl⟩)
   go_ret;exact ⟨Aa HV.o.symm,rfl⟩
theorem Kp (t d:Int) (w:World) :
  Calls prog 92 #[.int .i64 t,.int .i64 d] w fun e w'=>e=.returned (.bool (Bv t d))∧w'=w:=by
 cases h1:Dn t
 ·have HV:Hid _:=Sr (d:=d) h1
  go_enter func92,ntmps92
  go_wp2_with (go_at_call 102;refine (A9 _ _).mono ?_;rintro e w' ⟨rfl,rfl⟩)
  go_ret;exact ⟨Aa HV.o.symm,rfl⟩
 ·cases h2:Dn d
  ·have HV:Hid _:=To (t:=t) h2
   go_enter func92,ntmps92
   go_wp2_with (go_at_call 102;refine (A9 _ _).mono ?_;rintro e w' ⟨rfl,rfl⟩)
   go_ret;exact ⟨Aa HV.o.symm,rfl⟩
  ·have HV:Hid _:=Tk h1 h2
   go_enter func92,ntmps92
   go_wp2_with (go_at_call 102;refine (A9 _ _).mono ?_;rintro e w' ⟨rfl,rfl⟩)
   go_ret;exact ⟨Aa HV.o.symm,rfl⟩
theorem Uu (c:UInt8) (a b:Nat):Gk (c.toNat:Int) a b=(decide (a≤c.toNat) && decide (c.toNat≤b)):=by
 unfold Gk
 by_cases h1:a≤c.toNat <;> by_cases h2:c.toNat≤b <;> simp [h1,h2]
theorem Hy (l:List UInt8) (a b:Nat) (w:World) (hl:l.length≤1099511627776) :
  Calls prog 327 #[.string ⟨l.toArray⟩,.int .u8 a,.int .u8 b] w fun e w'=>e=.returned (.bool (A6 a b l))∧w'=w:=by
 go_enter func327,ntmps327
 go_wp2
 go_loop [7,10] (fun _ i=>∃ k:Nat,k≤l.length∧i=.int .i64 k∧A6 a b l=A6 a b (l.drop k)) (fun _ i=>l.length - (intOf i).toNat)
 case atStart=>exact ⟨0,Nat.zero_le _,rfl,rfl⟩
 case round =>
  obtain ⟨k,hk,rfl,ht⟩:=hrel
  by_cases hlt:k<l.length
  ·have hki:(k:Int)<(l.length:Int):=by omega
   have hs:=Ic a b l k hlt
   obtain ⟨c,hc⟩:∃ c,(⟨l.toArray⟩:ByteArray)[k]'(by rw [Fo];exact hlt)=c:=⟨_,rfl⟩
   rw [(Je l k hlt).trans hc] at hs;have HS:Hid _:=ht.trans hs;clear hs ht
   by_cases h1:a≤c.toNat
   ·have h1':(a:Int)≤(c.toNat:Int):=by omega
    by_cases h2:c.toNat≤b
    ·have h2':(c.toNat:Int)≤(b:Int):=by omega
     have HY:Hid (A6 a b l=A6 a b (l.drop (k+1))):=by rw [Hid,HS.o];simp [h1,h2]
     clear HS;go_wp2
     go_round
     case rel=>exact ⟨k+1,by omega,by go_num,HY.o⟩
     case measure=>simp [intOf];omega
    ·have h2':(b:Int)<(c.toNat:Int):=by omega
     have HN:Hid (A6 a b l=false):=by rw [Hid,HS.o];simp [h2]
     clear HS;go_wp2;go_ret;exact ⟨Aa HN.o.symm,rfl⟩
   ·have h1':(c.toNat:Int)<(a:Int):=by omega
    have HN:Hid (A6 a b l=false):=by rw [Hid,HS.o];simp [h1]
    clear HS;go_wp2;go_ret;exact ⟨Aa HN.o.symm,rfl⟩
  ·have hke:k=l.length:=by omega
   subst hke
   have HE:Hid (A6 a b l=true):=by rw [Hid,ht,I9]
   clear ht;go_wp2;go_ret;exact ⟨Aa HE.o.symm,rfl⟩
theorem Lx (l:List UInt8) (w:World) (hl:l.length≤1099511627776) :
  Calls prog 307 #[.string ⟨l.toArray⟩] w fun e w'=>e=.returned (.bool (A6 32 126 l))∧w'=w:=by
 go_enter func307,ntmps307
 go_wp2_with fail
 refine (Hy l 32 126 _ hl).mono ?_;rintro e w1 ⟨rfl,hw⟩;subst hw;go_wp2;go_ret;exact ⟨rfl,rfl⟩
end Go.Proofs.YtomiclakhjncbaaGreatDoor
namespace Go.Proofs
open Go.Shelf
def Tryz.laysM171_ren:Go.Shelf.Ren:=⟨fun | 171=>127 | 243=>163 | 246=>203 | 283=>242 | 284=>243 | 285=>244 | 286=>245 | 129=>271 | 317=>270 | 318=>272 | 319=>273 | 320=>274 | 337=>304 | 338=>305 | n=>n,fun | 3=>3 | 9=>9 | 2=>2 | 4=>4 | 171=>281 | 0=>0 | 53=>282 | 37=>55 | 5=>5 | 173=>285 | 212=>316 | 51=>137 | 20=>20 | 213=>317 | 46=>202 | 232=>343 | 233=>344 | n=>n,fun | 17=>13 | 18=>14 | 19=>15 | n=>n⟩
theorem Tryz.laysM171:Go.Proofs.LaysM.n171 Tryz.prog Tryz.laysM171_ren:={
 mixed:=by kernel_rfl
 f129:=Tryz.func271.trans (congrArg some (by kernel_rfl))
 f171:=Tryz.func127.trans (congrArg some (by kernel_rfl))
 f243:=Tryz.func163.trans (congrArg some (by kernel_rfl))
 f246:=Tryz.func203.trans (congrArg some (by kernel_rfl))
 f283:=Tryz.func242.trans (congrArg some (by kernel_rfl))
 f284:=Tryz.func243.trans (congrArg some (by kernel_rfl))
 f285:=Tryz.func244.trans (congrArg some (by kernel_rfl))
 f286:=Tryz.func245.trans (congrArg some (by kernel_rfl))
 f317:=Tryz.func270.trans (congrArg some (by kernel_rfl))
 f318:=Tryz.func272.trans (congrArg some (by kernel_rfl))
 f319:=Tryz.func273.trans (congrArg some (by kernel_rfl))
 f320:=Tryz.func274.trans (congrArg some (by kernel_rfl))
 f337:=Tryz.func304.trans (congrArg some (by kernel_rfl))
 f338:=Tryz.func305.trans (congrArg some (by kernel_rfl))
 t0:=Tryz.underlying0
 a0:=Tryz.isAgg0
 z0:=Tryz.sizeOf0
 v0:=Tryz.zeroValue0
 t2:=Tryz.underlying2
 a2:=Tryz.isAgg2
 z2:=Tryz.sizeOf2
 v2:=Tryz.zeroValue2
 t3:=Tryz.underlying3
 a3:=Tryz.isAgg3
 z3:=Tryz.sizeOf3
 v3:=Tryz.zeroValue3
 t4:=Tryz.underlying4
 a4:=Tryz.isAgg4
 z4:=Tryz.sizeOf4
 v4:=Tryz.zeroValue4
 t5:=Tryz.underlying5
 a5:=Tryz.isAgg5
 z5:=Tryz.sizeOf5
 v5:=Tryz.zeroValue5
 t9:=Tryz.underlying9
 a9:=Tryz.isAgg9
 z9:=Tryz.sizeOf9
 v9:=Tryz.zeroValue9
 t20:=Tryz.underlying20
 a20:=Tryz.isAgg20
 z20:=Tryz.sizeOf20
 v20:=Tryz.zeroValue20
 t37:=Tryz.underlying55
 a37:=Tryz.isAgg55
 z37:=Tryz.sizeOf55
 v37:=Tryz.zeroValue55
 t46:=Tryz.underlying202
 a46:=Tryz.isAgg202
 z46:=Tryz.sizeOf202
 v46:=Tryz.zeroValue202
 t51:=Tryz.underlying137
 a51:=Tryz.isAgg137
 z51:=Tryz.sizeOf137
 v51:=Tryz.zeroValue137
 t53:=Tryz.underlying282
 a53:=Tryz.isAgg282
 z53:=Tryz.sizeOf282
 v53:=Tryz.zeroValue282
 t171:=Tryz.underlying281
 a171:=Tryz.isAgg281
 z171:=Tryz.sizeOf281
 v171:=Tryz.zeroValue281
 t173:=Tryz.underlying285
 a173:=Tryz.isAgg285
 z173:=Tryz.sizeOf285
 v173:=Tryz.zeroValue285
 t212:=Tryz.underlying316
 a212:=Tryz.isAgg316
 z212:=Tryz.sizeOf316
 v212:=Tryz.zeroValue316
 t213:=Tryz.underlying317
 a213:=Tryz.isAgg317
 z213:=Tryz.sizeOf317
 t232:=Tryz.underlying343
 a232:=Tryz.isAgg343
 z232:=Tryz.sizeOf343
 v232:=Tryz.zeroValue343
 t233:=Tryz.underlying344
 a233:=Tryz.isAgg344
 z233:=Tryz.sizeOf344
 v233:=Tryz.zeroValue344
 g17:=by kernel_rfl
 g18:=by kernel_rfl
 g19:=by kernel_rfl
 i0:=by kernel_rfl
 i2:=by kernel_rfl
 i3:=by kernel_rfl
 i4:=by kernel_rfl
 i5:=by kernel_rfl
 i9:=by kernel_rfl
 i20:=by kernel_rfl
 i37:=by kernel_rfl
 i46:=by kernel_rfl
 i51:=by kernel_rfl
 i53:=by kernel_rfl
 i171:=by kernel_rfl
 i173:=by kernel_rfl
 i212:=by kernel_rfl
 i232:=by kernel_rfl
 i233:=by kernel_rfl
 m17:=by kernel_rfl
 m18:=by kernel_rfl
 m19:=by kernel_rfl }
open Go.RowKit Go.Sort Go.Lib in
theorem Tryz.strconv_Itoa (n : Int) (h0 : -9223372036854775808 ≤ n) (h1 : n ≤ 9223372036854775807) (w : World) (htab : Lib.TabIs Tryz.prog w "internal/strconv.uint64pow10" .u64 Lib.pow10Tab) :
 Calls Tryz.prog 127 #[.int .i64 n] w fun e w'=>e=.returned (.string ⟨(Lib.itoa n).toArray⟩)∧∃ k os,w'=grow (w.drewN k) os:=Any.strconv_Itoa Tryz.laysM171 n h0 h1 w htab
def Tryz.laysM316_ren:Go.Shelf.Ren:=⟨fun | 316=>176 | n=>n,fun | 9=>9 | 3=>3 | 4=>4 | 37=>55 | 0=>0 | 127=>265 | 5=>5 | n=>n,fun | n=>n⟩
theorem Tryz.laysM316:Go.Proofs.LaysM.n316 Tryz.prog Tryz.laysM316_ren:={
 mixed:=by kernel_rfl
 f316:=Tryz.func176.trans (congrArg some (by kernel_rfl))
 t0:=Tryz.underlying0
 a0:=Tryz.isAgg0
 z0:=Tryz.sizeOf0
 v0:=Tryz.zeroValue0
 t3:=Tryz.underlying3
 a3:=Tryz.isAgg3
 z3:=Tryz.sizeOf3
 v3:=Tryz.zeroValue3
 t4:=Tryz.underlying4
 a4:=Tryz.isAgg4
 z4:=Tryz.sizeOf4
 v4:=Tryz.zeroValue4
 t9:=Tryz.underlying9
 a9:=Tryz.isAgg9
 z9:=Tryz.sizeOf9
 v9:=Tryz.zeroValue9
 t37:=Tryz.underlying55
 a37:=Tryz.isAgg55
 z37:=Tryz.sizeOf55
 v37:=Tryz.zeroValue55
 t127:=Tryz.underlying265
 a127:=Tryz.isAgg265
 z127:=Tryz.sizeOf265
 v127:=Tryz.zeroValue265
 t5:=Tryz.underlying5
 a5:=Tryz.isAgg5
 z5:=Tryz.sizeOf5
 v5:=Tryz.zeroValue5
 i0:=by kernel_rfl
 i3:=by kernel_rfl
 i4:=by kernel_rfl
 i5:=by kernel_rfl
 i9:=by kernel_rfl
 i37:=by kernel_rfl
 i127:=by kernel_rfl }
open Go.RowKit in
theorem Tryz.stringslite_Clone (s:ByteArray) (w:World) (hlim:s.size≤281474976710656) :
 Calls Tryz.prog 176 #[.string s] w fun e w'=>e=.returned (.string s)∧Below w.heap.size w w':=Any.stringslite_Clone Tryz.laysM316 s w hlim
def Tryz.lays144_ren:Go.Shelf.Ren:=⟨fun | 144=>308 | 143=>161 | 219=>202 | 217=>238 | 225=>239 | 224=>240 | 267=>241 | 266=>268 | 314=>269 | n=>n,fun | 9=>9 | 4=>4 | 3=>3 | 5=>5 | 46=>202 | 146=>313 | 51=>137 | n=>n,fun | 1=>10 | n=>n⟩
theorem Tryz.lays144:Go.Proofs.Lays.n144 Tryz.prog Tryz.lays144_ren:={
 mixed:=by kernel_rfl
 f143:=Tryz.func161.trans (congrArg some (by kernel_rfl))
 f144:=Tryz.func308.trans (congrArg some (by kernel_rfl))
 f217:=Tryz.func238.trans (congrArg some (by kernel_rfl))
 f219:=Tryz.func202.trans (congrArg some (by kernel_rfl))
 f224:=Tryz.func240.trans (congrArg some (by kernel_rfl))
 f225:=Tryz.func239.trans (congrArg some (by kernel_rfl))
 f266:=Tryz.func268.trans (congrArg some (by kernel_rfl))
 f267:=Tryz.func241.trans (congrArg some (by kernel_rfl))
 f314:=Tryz.func269.trans (congrArg some (by kernel_rfl))
 t3:=Tryz.underlying3
 a3:=Tryz.isAgg3
 z3:=Tryz.sizeOf3
 v3:=Tryz.zeroValue3
 t4:=Tryz.underlying4
 a4:=Tryz.isAgg4
 z4:=Tryz.sizeOf4
 v4:=Tryz.zeroValue4
 t5:=Tryz.underlying5
 a5:=Tryz.isAgg5
 z5:=Tryz.sizeOf5
 v5:=Tryz.zeroValue5
 t9:=Tryz.underlying9
 a9:=Tryz.isAgg9
 z9:=Tryz.sizeOf9
 v9:=Tryz.zeroValue9
 t46:=Tryz.underlying202
 a46:=Tryz.isAgg202
 z46:=Tryz.sizeOf202
 v46:=Tryz.zeroValue202
 t51:=Tryz.underlying137
 a51:=Tryz.isAgg137
 z51:=Tryz.sizeOf137
 v51:=Tryz.zeroValue137
 t146:=Tryz.underlying313
 a146:=Tryz.isAgg313
 z146:=Tryz.sizeOf313
 v146:=Tryz.zeroValue313
 g1:=by kernel_rfl }
open Go.RowKit Go.Lib in
theorem Tryz.strings_Contains_one (s:ByteArray) (c:UInt8) (w:World) :
 Calls Tryz.prog 308 #[.string s,.string ⟨#[c]⟩] w fun e w'=>e=.returned (.bool (decide (0≤Lib.indexByte s.data.toList c)))∧w'=w:=Any.strings_Contains_one Tryz.lays144 s c w
def Tryz.lays146_ren:Go.Shelf.Ren:=⟨fun | 146=>66 | 221=>120 | 268=>159 | 138=>160 | 143=>161 | 195=>199 | 197=>200 | 218=>201 | 219=>202 | 260=>237 | 217=>238 | 225=>239 | 224=>240 | 267=>241 | 266=>268 | 314=>269 | n=>n,fun | 9=>9 | 31=>23 | 3=>3 | 4=>4 | 0=>0 | 105=>242 | 21=>21 | 5=>5 | 46=>202 | 119=>309 | 139=>312 | 138=>311 | 146=>313 | 51=>137 | n=>n,fun | 1=>10 | 3=>11 | 4=>12 | n=>n⟩
theorem Tryz.lays146:Go.Proofs.Lays.n146 Tryz.prog Tryz.lays146_ren:={
 mixed:=by kernel_rfl
 f138:=Tryz.func160.trans (congrArg some (by kernel_rfl))
 f143:=Tryz.func161.trans (congrArg some (by kernel_rfl))
 f146:=Tryz.func66.trans (congrArg some (by kernel_rfl))
 f195:=Tryz.func199.trans (congrArg some (by kernel_rfl))
 f197:=Tryz.func200.trans (congrArg some (by kernel_rfl))
 f217:=Tryz.func238.trans (congrArg some (by kernel_rfl))
 f218:=Tryz.func201.trans (congrArg some (by kernel_rfl))
 f219:=Tryz.func202.trans (congrArg some (by kernel_rfl))
 f221:=Tryz.func120.trans (congrArg some (by kernel_rfl))
 f224:=Tryz.func240.trans (congrArg some (by kernel_rfl))
 f225:=Tryz.func239.trans (congrArg some (by kernel_rfl))
 f260:=Tryz.func237.trans (congrArg some (by kernel_rfl))
 f266:=Tryz.func268.trans (congrArg some (by kernel_rfl))
 f267:=Tryz.func241.trans (congrArg some (by kernel_rfl))
 f268:=Tryz.func159.trans (congrArg some (by kernel_rfl))
 f314:=Tryz.func269.trans (congrArg some (by kernel_rfl))
 t0:=Tryz.underlying0
 a0:=Tryz.isAgg0
 z0:=Tryz.sizeOf0
 v0:=Tryz.zeroValue0
 t3:=Tryz.underlying3
 a3:=Tryz.isAgg3
 z3:=Tryz.sizeOf3
 v3:=Tryz.zeroValue3
 t4:=Tryz.underlying4
 a4:=Tryz.isAgg4
 z4:=Tryz.sizeOf4
 v4:=Tryz.zeroValue4
 t5:=Tryz.underlying5
 a5:=Tryz.isAgg5
 z5:=Tryz.sizeOf5
 v5:=Tryz.zeroValue5
 t9:=Tryz.underlying9
 a9:=Tryz.isAgg9
 z9:=Tryz.sizeOf9
 v9:=Tryz.zeroValue9
 t21:=Tryz.underlying21
 a21:=Tryz.isAgg21
 z21:=Tryz.sizeOf21
 v21:=Tryz.zeroValue21
 t31:=Tryz.underlying23
 a31:=Tryz.isAgg23
 z31:=Tryz.sizeOf23
 v31:=Tryz.zeroValue23
 t46:=Tryz.underlying202
 a46:=Tryz.isAgg202
 z46:=Tryz.sizeOf202
 v46:=Tryz.zeroValue202
 t51:=Tryz.underlying137
 a51:=Tryz.isAgg137
 z51:=Tryz.sizeOf137
 v51:=Tryz.zeroValue137
 t105:=Tryz.underlying242
 a105:=Tryz.isAgg242
 z105:=Tryz.sizeOf242
 v105:=Tryz.zeroValue242
 t119:=Tryz.underlying309
 a119:=Tryz.isAgg309
 z119:=Tryz.sizeOf309
 t138:=Tryz.underlying311
 a138:=Tryz.isAgg311
 z138:=Tryz.sizeOf311
 v138:=Tryz.zeroValue311
 t139:=Tryz.underlying312
 a139:=Tryz.isAgg312
 z139:=Tryz.sizeOf312
 v139:=Tryz.zeroValue312
 t146:=Tryz.underlying313
 a146:=Tryz.isAgg313
 z146:=Tryz.sizeOf313
 v146:=Tryz.zeroValue313
 g1:=by kernel_rfl
 g3:=by kernel_rfl
 g4:=by kernel_rfl }
open Go.RowKit Go.Lib in
theorem Tryz.strings_Split (s sep:ByteArray) (m:Int) (w:World) (hs:s.size<4294967281) (hm:w.cell? ⟨10,0,none⟩=some (.int .i64 m)) (h1:1≤sep.size) :
 Calls Tryz.prog 66 #[.string s,.string sep] w fun e w' =>
  e=.returned (.slice (some ⟨w.heap.size,0,none⟩) (Lib.countB s sep+1) (Lib.countB s sep+1))∧w'=w.alloc (.cells ((Lib.splitB sep 0 (Lib.countB s sep) s).map Value.string).toArray 9):=Any.strings_Split Tryz.lays146 (by kernel_rfl) s sep m w hs hm h1
def Tryz.sortLn_ren:Go.Shelf.Ren:=⟨fun | 6=>329 | 15=>337 | 14=>336 | 28=>347 | 29=>271 | 20=>339 | 21=>340 | 22=>341 | 23=>342 | 24=>343 | 25=>344 | 26=>345 | 27=>346 | 46=>349 | 47=>350 | 48=>351 | 49=>352 | 50=>353 | 57=>357 | n=>n,fun | 22=>27 | 24=>113 | 25=>115 | 3=>3 | 39=>202 | 0=>0 | 53=>137 | 55=>282 | 4=>4 | 46=>355 | 45=>354 | 50=>224 | 5=>5 | 9=>9 | 66=>362 | 70=>366 | 76=>368 | 77=>369 | n=>n,fun | n=>n⟩
theorem Tryz.sortLn:Go.Proofs.SlLaysF0.n6 Tryz.prog Tryz.sortLn_ren:={
 mixed:=by kernel_rfl
 f6:=⟨Tryz.f329.name,by decide,Tryz.func329.trans (congrArg some (by kernel_rfl))⟩
 f14:=⟨Tryz.f336.name,by decide,Tryz.func336.trans (congrArg some (by kernel_rfl))⟩
 f15:=Tryz.func337.trans (congrArg some (by kernel_rfl))
 f20:=⟨Tryz.f339.name,by decide,Tryz.func339.trans (congrArg some (by kernel_rfl))⟩
 f21:=⟨Tryz.f340.name,by decide,Tryz.func340.trans (congrArg some (by kernel_rfl))⟩
 f22:=⟨Tryz.f341.name,by decide,Tryz.func341.trans (congrArg some (by kernel_rfl))⟩
 f23:=⟨Tryz.f342.name,by decide,Tryz.func342.trans (congrArg some (by kernel_rfl))⟩
 f24:=⟨Tryz.f343.name,by decide,Tryz.func343.trans (congrArg some (by kernel_rfl))⟩
 f25:=⟨Tryz.f344.name,by decide,Tryz.func344.trans (congrArg some (by kernel_rfl))⟩
 f26:=⟨Tryz.f345.name,by decide,Tryz.func345.trans (congrArg some (by kernel_rfl))⟩
 f27:=⟨Tryz.f346.name,by decide,Tryz.func346.trans (congrArg some (by kernel_rfl))⟩
 f28:=Tryz.func347.trans (congrArg some (by kernel_rfl))
 f29:=Tryz.func271.trans (congrArg some (by kernel_rfl))
 f46:=⟨Tryz.f349.name,by decide,Tryz.func349.trans (congrArg some (by kernel_rfl))⟩
 f47:=Tryz.func350.trans (congrArg some (by kernel_rfl))
 f48:=Tryz.func351.trans (congrArg some (by kernel_rfl))
 f49:=⟨Tryz.f352.name,by decide,Tryz.func352.trans (congrArg some (by kernel_rfl))⟩
 f50:=⟨Tryz.f353.name,by decide,Tryz.func353.trans (congrArg some (by kernel_rfl))⟩
 f57:=⟨Tryz.f357.name,by decide,Tryz.func357.trans (congrArg some (by kernel_rfl))⟩
 t0:=Tryz.underlying0
 a0:=Tryz.isAgg0
 z0:=Tryz.sizeOf0
 v0:=Tryz.zeroValue0
 t3:=Tryz.underlying3
 a3:=Tryz.isAgg3
 z3:=Tryz.sizeOf3
 v3:=Tryz.zeroValue3
 t4:=Tryz.underlying4
 a4:=Tryz.isAgg4
 z4:=Tryz.sizeOf4
 v4:=Tryz.zeroValue4
 t5:=Tryz.underlying5
 a5:=Tryz.isAgg5
 z5:=Tryz.sizeOf5
 v5:=Tryz.zeroValue5
 t9:=Tryz.underlying9
 a9:=Tryz.isAgg9
 z9:=Tryz.sizeOf9
 v9:=Tryz.zeroValue9
 t22:=Tryz.underlying27
 a22:=Tryz.isAgg27
 z22:=Tryz.sizeOf27
 v22:=Tryz.zeroValue27
 t25:=Tryz.underlying115
 a25:=Tryz.isAgg115
 z25:=Tryz.sizeOf115
 v25:=Tryz.zeroValue115
 t39:=Tryz.underlying202
 a39:=Tryz.isAgg202
 z39:=Tryz.sizeOf202
 v39:=Tryz.zeroValue202
 t45:=Tryz.underlying354
 a45:=Tryz.isAgg354
 z45:=Tryz.sizeOf354
 v45:=Tryz.zeroValue354
 t46:=Tryz.underlying355
 a46:=Tryz.isAgg355
 z46:=Tryz.sizeOf355
 v46:=Tryz.zeroValue355
 t50:=Tryz.underlying224
 a50:=Tryz.isAgg224
 z50:=Tryz.sizeOf224
 v50:=Tryz.zeroValue224
 t53:=Tryz.underlying137
 a53:=Tryz.isAgg137
 z53:=Tryz.sizeOf137
 v53:=Tryz.zeroValue137
 t55:=Tryz.underlying282
 a55:=Tryz.isAgg282
 z55:=Tryz.sizeOf282
 v55:=Tryz.zeroValue282
 t66:=Tryz.underlying362
 a66:=Tryz.isAgg362
 z66:=Tryz.sizeOf362
 v66:=Tryz.zeroValue362
 t70:=Tryz.underlying366
 a70:=Tryz.isAgg366
 z70:=Tryz.sizeOf366
 v70:=Tryz.zeroValue366
 t76:=Tryz.underlying368
 a76:=Tryz.isAgg368
 z76:=Tryz.sizeOf368
 v76:=Tryz.zeroValue368
 t77:=Tryz.underlying369
 a77:=Tryz.isAgg369
 z77:=Tryz.sizeOf369
 v77:=Tryz.zeroValue369 }
end Go.Proofs
namespace Go.Proofs.YtomiclakhjncbaaGreatDoor
open Go.RowKit Go.Proofs.Tryz
theorem Sm (l:List UInt8) (w:World) (hl:l.length≤1099511627776) :
  Calls prog 138 #[.string ⟨l.toArray⟩] w fun e w'=>e=.returned (.string ⟨l.toArray⟩)∧BW w w':=by
 go_enter func138,ntmps138
 go_wp2_with fail
 refine (stringslite_Clone ⟨l.toArray⟩ _ (by rw [Fo];omega)).mono ?_
 rintro e w1 ⟨rfl,b1⟩;go_wp2;go_ret;exact ⟨rfl,b1⟩
end Go.Proofs.YtomiclakhjncbaaGreatDoor
