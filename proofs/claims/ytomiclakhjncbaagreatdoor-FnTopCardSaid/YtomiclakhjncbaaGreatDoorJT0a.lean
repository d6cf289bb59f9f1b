import Derived.Test.YtomiclakhjncbaaGreatDoorProg
import Derived.WalkLawsBesides
import Derived.BigQuiet
import Init
import Derived.Lib.Strings
import Derived.Deep.RegionHeld3
import Derived.Deep.AppendLies
import Derived.Handy
import Derived.Lib.ItoaLen
import Derived.WalkSpells
import Derived.Lib.ConvBytes
set_option maxRecDepth 100000
set_option maxHeartbeats 12800000
namespace Go.Proofs.YtomiclakhjncbaaGreatDoor
open Go.RowKit
abbrev BW(w u:World):Prop:=Below w.heap.size w u
theorem bR {n:Nat}{w:World}:Below n w w:=.refl n w
theorem nL {n:Nat}:n<=n:=Nat.le_refl n
theorem _root_.Go.RowKit.Hid.o {p:Prop}(h:Hid p):p:=h
abbrev qzI (x:Int):Value:=.int .i64 x
abbrev qzA (b o:Nat):Addr:=⟨b,o,none⟩
end Go.Proofs.YtomiclakhjncbaaGreatDoor
namespace Go.Proofs.YtomiclakhjncbaaGreatDoor
open Go.RowKit Go.Proofs.Tryz
theorem next {w c d:World} (h:BW w c) (k:BW c d):BW w d:=h.trans (k.mono h.size)
theorem Ji {k:IntKind} {a b:Int} {x y:Bool} (h:a=b) (g:x=y):Ending.returned (.tuple #[.int k a,.bool x])=.returned (.tuple #[.int k b,.bool y]):=by rw [h,g]
theorem Af {k:IntKind} {a b:Int} (h:a=b):Ending.returned (.int k a)=.returned (.int k b):=by rw [h]
theorem Aa {a b:Bool} (h:a=b):Ending.returned (.bool a)=.returned (.bool b):=by rw [h]
theorem Us {a b:ByteArray} (h:a=b):Ending.returned (.string a)=.returned (.string b):=by rw [h]
def fL (x:Int):Bool:=decide (-1000000000000<=x/\x<=1000000000000)
theorem rH {x:Int} (h:fL x=true):-1000000000000<=x/\x<=1000000000000:=by simpa [fL] using h
def Gk (x a b:Int):Bool:=decide (a<=x/\x<=b)
theorem Dl (x a b:Int) (w:World) :
  Calls prog 134 #[qzI x,qzI a,qzI b] w fun e w'=>e=.returned (.bool (Gk x a b))/\w'=w:=by
 by_cases h1:a<=x
 ·by_cases h2:x<=b
  ·go_enter func134,ntmps134
   go_wp2;go_ret
   exact ⟨by simp [Gk,h1,h2],rfl⟩
  ·go_enter func134,ntmps134
   go_wp2;go_ret
   exact ⟨by simp [Gk,h1,h2],rfl⟩
 ·go_enter func134,ntmps134
  go_wp2;go_ret
  exact ⟨by simp [Gk];omega,rfl⟩
theorem I6 (x:Int) (w:World) :
  Calls prog 299 #[qzI x] w fun e w'=>e=.returned (.bool (fL x))/\w'=w:=by
 go_enter func299,ntmps299
 go_wp2_with (go_at_call 134;refine (Dl _ _ _ _).mono ?_;rintro e w' ⟨rfl,rfl⟩)
 go_ret;exact ⟨rfl,rfl⟩
theorem qP (x:Int) (w:World) :
  Calls prog 186 #[qzI x] w fun e w'=>e=.returned (.bool (fL x))/\w'=w:=by
 by_cases h1:-1000000000000<=x
 ·by_cases h2:x<=1000000000000
  ·go_enter func186,ntmps186
   go_wp2;go_ret
   exact ⟨by simp [fL,h1,h2],rfl⟩
  ·go_enter func186,ntmps186
   go_wp2;go_ret
   exact ⟨by simp [fL,h1,h2],rfl⟩
 ·go_enter func186,ntmps186
  go_wp2;go_ret
  exact ⟨by simp [fL];omega,rfl⟩
theorem Uj (x:Int) (w:World) :
  Calls prog 149 #[qzI x] w fun e w'=>e=.returned (.bool (fL x))/\w'=w:=by
 go_enter func149,ntmps149
 go_wp2_with (go_at_call 186;refine (qP _ _).mono ?_;rintro e w' ⟨rfl,rfl⟩)
 go_ret;exact ⟨rfl,rfl⟩
end Go.Proofs.YtomiclakhjncbaaGreatDoor
namespace Go.Proofs.YtomiclakhjncbaaGreatDoor
open Go.Proofs.Tryz
def ahead (y:Int):Int:=365 * (y - 1)+(y - 1) / 4 - (y - 1) / 100+(y - 1) / 400
def Dn (d:Int):Bool:=decide (0<=d/\d<=80000)
theorem Ei {d:Int} (h:Dn d=true):0<=d/\d<=80000:=by simpa [Dn] using h
theorem Nq {d:Int} (a:0<=d) (b:d<=80000):Dn d=true:=by simp [Dn,a,b]
theorem pI {d:Int} (h:d<0\/80000<d):Dn d=false:=by simp [Dn];omega
end Go.Proofs.YtomiclakhjncbaaGreatDoor
namespace Go.Proofs.YtomiclakhjncbaaGreatDoor
open Go.RowKit Go.Proofs.Tryz
theorem Lb (l r:List UInt8):(⟨l.toArray⟩++⟨r.toArray⟩:ByteArray)=⟨(l++r).toArray⟩:=by
 apply ByteArray.ext
 simp
theorem nS (b:ByteArray):b=⟨b.data.toList.toArray⟩:=by cases b;simp
theorem Qo (l:List UInt8) (a b:Nat):(⟨l.toArray⟩:ByteArray).extract a b=⟨((l.drop a).take (b - a)).toArray⟩:=by
 have h:=Lib.extract_data ⟨l.toArray⟩ a b;rw [nS (ByteArray.extract ⟨l.toArray⟩ a b),h]
theorem Fo (l:List UInt8):(⟨l.toArray⟩:ByteArray).size=l.length:=by simp [ByteArray.size]
theorem Je (l:List UInt8) (k:Nat) (h:k<l.length):l.getD k 0=(⟨l.toArray⟩:ByteArray)[k]'(by rw [Fo];exact h):=by
 rw [List.getD_eq_getElem?_getD,List.getElem?_eq_getElem h]
 rfl
theorem Su (c:UInt8):wrap64 ((c.toNat:Nat):Int)=(c.toNat:Int):=by
 have:=c.toNat_lt
 unfold wrap64;omega
def A6 (a b:Nat) (l:List UInt8):Bool:=l.all fun c=>decide (a<=c.toNat) && decide (c.toNat<=b)
theorem Ic (a b:Nat) (l:List UInt8) (k:Nat) (h:k<l.length):A6 a b (l.drop k)=((decide (a<=(l.getD k 0).toNat) && decide ((l.getD k 0).toNat<=b)) && A6 a b (l.drop (k+1))):=by
 have e:l.getD k 0=l[k]:=by simp [List.getD_eq_getElem?_getD,h]
 rw [List.drop_eq_getElem_cons h,e]
 simp only [A6,List.all_cons]
theorem I9 (a b:Nat) (l:List UInt8):A6 a b (l.drop l.length)=true:=by rw [List.drop_of_length_le nL];rfl
theorem Ym {a b:Nat} {l:List UInt8} (h:A6 a b l=true):∀ c ∈ l,a<=c.toNat/\c.toNat<=b:=by
 intro c d
 have:=List.all_eq_true.1 h c d
 simpa using this
theorem Aax {a b:Nat} {l:List UInt8} (h:∀ c ∈ l,a<=c.toNat/\c.toNat<=b):A6 a b l=true :=
 List.all_eq_true.2 fun c d=>by simpa using h c d
theorem Nx {a b:Nat} {l:List UInt8} (h:A6 a b l=true) {k:Nat} (f:k<l.length):a<=(l.getD k 0).toNat/\(l.getD k 0).toNat<=b :=
 Ym h _ (by simp [List.getD_eq_getElem?_getD,f])
def val (a:Nat) (l:List UInt8):Nat:=l.foldl (fun a c=>a*10+(c.toNat - 48)) a
theorem Yr (a:Nat) (l r:List UInt8):val a (l++r)=val (val a l) r:=by simp [val]
theorem T4 (l:List UInt8) (k:Nat) (h:k<l.length):l.take (k+1)=l.take k++[l.getD k 0]:=by
 rw [List.take_add_one,List.getElem?_eq_getElem h,List.getD_eq_getElem?_getD,List.getElem?_eq_getElem h];rfl
theorem Rj (l:List UInt8) (k:Nat) (h:k<l.length):val 0 (l.take (k+1))=val 0 (l.take k) * 10+((l.getD k 0).toNat - 48):=by
 rw [T4 l k h,Yr];rfl
theorem Nv (l:List UInt8) (h:A6 48 57 l=true):∀ k,k<=l.length->val 0 (l.take k)<10 ^ k:=by
 intro k
 induction k with
 | zero=>intro _;simp [val]
 | succ k ih =>
  intro f
  have:=ih (by omega)
  have hb:=Nx h (k:=k) (by omega)
  rw [Rj l k (by omega),Nat.pow_succ]
  omega
def Dr (l:List UInt8):Int:=if l.length<=18/\A6 48 57 l=true then (val 0 l:Int) else -1
theorem Ss {l:List UInt8} (h:18<l.length):Dr l = -1:=if_neg (by omega)
theorem Sp {l:List UInt8} (h:A6 48 57 l=false):Dr l = -1:=if_neg (by rw [h];simp)
theorem Sn {l:List UInt8} (g:l.length<=18) (i:A6 48 57 l=true):Dr l=(val 0 l:Int):=if_pos ⟨g,i⟩
theorem Qj (l:List UInt8):-1<=Dr l/\Dr l<1000000000000000000:=by
 unfold Dr
 split
 ·rename_i h
  have:=Nv l h.2 l.length nL
  rw [List.take_of_length_le nL] at this
  have:10 ^ l.length<=10 ^ 18:=Nat.pow_le_pow_right (by omega) h.1
  omega
 ·omega
structure W7 (W:World) where
 x:World
 h:BW W x
theorem K0 (W:World):Nonempty (W7 W):=⟨⟨W,bR⟩⟩
theorem As {W:World} {a:Addr} {v:Value} (h:W.cell? a=some v) (z:W7 W):z.x.cell? a=some v:=(z.h.cell (p:=a) (World.block_lt_of_cell? W _ h)).trans h
theorem B6 {P:Program} {id:Nat} {Q:Exit->Act->World->Prop} {a:Act} {w:World} {l:List Oper} (b:P.follows .mixedOrders=true) (hB:Region.lexB .any l.toArray=true)
  (h:wpQuiet P l.toArray (fun w'=>∃ z:W7 w,w'=z.x) (fun a'=>∀ w',(∃ z:W7 w,w'=z.x)->Q .normal a' w') l a):(Code.region id l.toArray true).wp P Q a w :=
 wp_region_quiet (C:=fun w'=>∃ z:W7 w,w'=z.x) b hB ⟨⟨_,bR.drew⟩,rfl⟩ (by simpa using h)
theorem F8 {P:Program} {f:FuncId} {args:Array Value} {w:World} {z:W7 w} {v:Value} (h:Calls P f args z.x fun e w'=>e=.returned v/\Below z.x.heap.size z.x w') :
  Calls P f args z.x fun e w''=>e=.returned v/\∃ y:W7 w,w''=y.x :=
 h.mono fun _ w' ⟨he,hb⟩=>⟨he,⟨w',z.h.trans (hb.mono z.h.size)⟩,rfl⟩
end Go.Proofs.YtomiclakhjncbaaGreatDoor
namespace Go.Proofs.YtomiclakhjncbaaGreatDoor
open Go.Proofs.Tryz
abbrev Be:=List (List UInt8)
def be4 (n:Nat):List UInt8:=[UInt8.ofNat (n / 16777216),UInt8.ofNat (n / 65536),UInt8.ofNat (n / 256),UInt8.ofNat n]
def tO (r:List UInt8):List UInt8:=be4 r.length++r
def tK (rs:Be):List UInt8:=rs.flatMap tO
def laid (rs:Be):List UInt8:=tK rs++be4 0
def Al (rs:Be) (k:Nat):List UInt8:=rs.getD k []
theorem Zk {rs:Be} {k:Nat} (h:k<rs.length):Al rs k=rs[k]:=by simp [Al,List.getD_eq_getElem?_getD,h]
theorem F7 {rs:Be} {k:Nat} (h:k<rs.length):Al rs k ∈ rs:=by rw [Zk h];exact List.getElem_mem h
theorem lI (rs:Be) (k:Nat) (h:k<rs.length):rs.take (k+1)=rs.take k++[Al rs k]:=by
 rw [List.take_succ_eq_append_getElem h,Zk h]
def tG (n:Nat):Nat:=(n+1011) / 1012
def tI (l:List UInt8):List UInt8:=l++List.replicate (tG l.length*1012 - l.length) 64
def blk (s:List UInt8) (i:Nat):List UInt8:=(s.drop (i*1014)).take 1014
end Go.Proofs.YtomiclakhjncbaaGreatDoor
namespace Go.Proofs.YtomiclakhjncbaaGreatDoor
open Go.RowKit Go.Proofs.Tryz
def cell (c:UInt8):Value:=.int .u8 (c.toNat:Int)
namespace Tg
def Gk (x a b:Int):Bool:=decide (a<=x/\x<=b)
theorem Uh {x a b:Int} (h:a<=x) (g:x<=b):Gk x a b=true:=by simp [Gk,h,g]
theorem bN {x a b:Int} (h:x<a\/b<x):Gk x a b=false:=by simp [Gk];omega
theorem Dl (x a b:Int) (w:World) :
  Calls prog 134 #[qzI x,qzI a,qzI b] w fun e w'=>e=.returned (.bool (Gk x a b))/\w'=w:=by
 by_cases h1:a<=x
 ·by_cases h2:x<=b
  ·go_enter func134,ntmps134
   go_wp2;go_ret
   exact ⟨by simp [Gk,h1,h2],rfl⟩
  ·go_enter func134,ntmps134
   go_wp2;go_ret
   exact ⟨by simp [Gk,h1,h2],rfl⟩
 ·go_enter func134,ntmps134
  go_wp2;go_ret
  exact ⟨by simp [Gk];omega,rfl⟩
theorem Uu (c:UInt8) (a b:Nat):Gk (c.toNat:Int) a b=(decide (a<=c.toNat) && decide (c.toNat<=b)):=by
 unfold Gk
 by_cases h1:a<=c.toNat <;> by_cases h2:c.toNat<=b <;> simp [h1,h2]
theorem Hy (l:List UInt8) (a b:Nat) (w:World) (hl:l.length<=1099511627776) :
  Calls prog 327 #[.string ⟨l.toArray⟩,.int .u8 a,.int .u8 b] w fun e w'=>e=.returned (.bool (A6 a b l))/\w'=w:=by
 go_enter func327,ntmps327
 go_wp2
 go_loop [7,10] (fun _ i=>∃ k:Nat,k<=l.length/\i=qzI k/\A6 a b l=A6 a b (l.drop k)) (fun _ i=>l.length - (intOf i).toNat)
 case atStart=>exact ⟨0,Nat.zero_le _,rfl,rfl⟩
 case round =>
  obtain ⟨k,y,rfl,f⟩:=hrel
  by_cases hlt:k<l.length
  ·have u:(k:Int)<(l.length:Int):=by omega
   have hs:=Ic a b l k hlt
   obtain ⟨c,t⟩:∃ c,(⟨l.toArray⟩:ByteArray)[k]'(by rw [Fo];exact hlt)=c:=⟨_,rfl⟩
   rw [(Je l k hlt).trans t] at hs;have d:Hid _:=f.trans hs;clear hs f
   by_cases h1:a<=c.toNat
   ·have r:(a:Int)<=(c.toNat:Int):=by omega
    by_cases h2:c.toNat<=b
    ·have s:(c.toNat:Int)<=(b:Int):=by omega
     have q:Hid (A6 a b l=A6 a b (l.drop (k+1))):=by rw [Hid,d.o];simp [h1,h2]
     clear d;go_wp2
     go_round
     case rel=>exact ⟨k+1,by omega,by go_num,q.o⟩
     case measure=>simp [intOf];omega
    ·have s:(b:Int)<(c.toNat:Int):=by omega
     have n:Hid (A6 a b l=false):=by rw [Hid,d.o];simp [h2]
     clear d;go_wp2;go_ret;exact ⟨Aa n.o.symm,rfl⟩
   ·have r:(c.toNat:Int)<(a:Int):=by omega
    have n:Hid (A6 a b l=false):=by rw [Hid,d.o];simp [h1]
    clear d;go_wp2;go_ret;exact ⟨Aa n.o.symm,rfl⟩
  ·have j:k=l.length:=by omega
   subst j
   have p:Hid (A6 a b l=true):=by rw [Hid,f,I9]
   clear f;go_wp2;go_ret;exact ⟨Aa p.o.symm,rfl⟩
theorem Eb (l:List UInt8) (w:World) (hl:l.length<=1099511627776) :
  Calls prog 306 #[.string ⟨l.toArray⟩] w fun e w'=>e=.returned (.bool (A6 48 57 l))/\w'=w:=by
 go_enter func306,ntmps306
 go_wp2_with fail
 refine (Hy l 48 57 _ hl).mono ?_;rintro e v ⟨rfl,hw⟩;subst hw;go_wp2;go_ret;exact ⟨rfl,rfl⟩
theorem Lx (l:List UInt8) (w:World) (hl:l.length<=1099511627776) :
  Calls prog 307 #[.string ⟨l.toArray⟩] w fun e w'=>e=.returned (.bool (A6 32 126 l))/\w'=w:=by
 go_enter func307,ntmps307
 go_wp2_with fail
 refine (Hy l 32 126 _ hl).mono ?_;rintro e v ⟨rfl,hw⟩;subst hw;go_wp2;go_ret;exact ⟨rfl,rfl⟩
theorem Ga (l:List UInt8) (w:World) (hl:l.length<=1099511627776) :
  Calls prog 215 #[.string ⟨l.toArray⟩] w fun e w'=>e=.returned (.bool (A6 48 57 l))/\w'=w:=by
 go_enter func215,ntmps215
 go_wp2
 go_loop [3] (fun i=>∃ k:Nat,k<=l.length/\i=qzI k/\A6 48 57 l=A6 48 57 (l.drop k)) (fun i=>l.length - (intOf i).toNat)
 case atStart=>exact ⟨0,Nat.zero_le _,rfl,rfl⟩
 case round =>
  obtain ⟨k,y,rfl,f⟩:=hrel
  by_cases hlt:k<l.length
  ·have u:(k:Int)<(l.length:Int):=by omega
   have hs:=Ic 48 57 l k hlt
   obtain ⟨c,t⟩:∃ c,(⟨l.toArray⟩:ByteArray)[k]'(by rw [Fo];exact hlt)=c:=⟨_,rfl⟩
   rw [(Je l k hlt).trans t,<- Uu c 48 57] at hs;have d:Hid _:=f.trans hs;have z:=Su c;clear hs f
   cases hin:Gk (c.toNat:Int) 48 57
   ·have n:Hid (A6 48 57 l=false):=by rw [Hid,d.o];simp [hin]
    clear d;go_wp2_with fail
    refine (Dl _ _ _ _).mono ?_;rintro e v ⟨rfl,m⟩;subst m;rw [hin];go_wp2;go_ret;exact ⟨Aa n.o.symm,rfl⟩
   ·have q:Hid (A6 48 57 l=A6 48 57 (l.drop (k+1))):=by rw [Hid,d.o];simp [hin]
    clear d;go_wp2_with fail
    refine (Dl _ _ _ _).mono ?_;rintro e v ⟨rfl,m⟩;subst m;rw [hin];go_wp2
    go_round
    case rel=>exact ⟨k+1,by omega,by go_num,q.o⟩
    case measure=>simp [intOf];omega
  ·have j:k=l.length:=by omega
   subst j
   have p:Hid (A6 48 57 l=true):=by rw [Hid,f,I9]
   clear f;go_wp2;go_ret;exact ⟨Aa p.o.symm,rfl⟩
theorem iNumOf_any (l:List UInt8) (w:World) (hl:l.length<=1099511627776) :
  Calls prog 275 #[.string ⟨l.toArray⟩] w fun e w'=>e=.returned (qzI (Dr l))/\w'=w:=by
 by_cases hbig:18<l.length
 ·have d:Hid _:=Ss hbig
  have f:(18:Int)<(l.length:Int):=by omega
  go_enter func275,ntmps275
  go_wp2;go_ret;exact ⟨Af d.o.symm,rfl⟩
 ·have f:(l.length:Int)<=18:=by omega
  have a:l.length<=18:=by omega
  cases hd:A6 48 57 l
  ·have d:Hid _:=Sp hd
   go_enter func275,ntmps275
   go_wp2_with fail
   refine (Eb _ _ hl).mono ?_;rintro e A ⟨rfl,hw⟩;subst hw;rw [hd];go_wp2;go_ret;exact ⟨Af d.o.symm,rfl⟩
  ·have s:Hid _:=Sn a hd
   have p:Hid _:=Nv l hd;have q:Hid (A6 48 57 l=true):=hd
   go_enter func275,ntmps275
   go_wp2_with fail
   refine (Eb _ _ hl).mono ?_;rintro e A ⟨rfl,hw⟩;subst hw;rw [hd];clear hd;go_wp2
   go_loop [3,4,15] (fun v _ i=>∃ k:Nat,k<=l.length/\i=qzI k/\v=qzI (val 0 (l.take k))) (fun _ _ i=>l.length - (intOf i).toNat)
   case atStart=>exact ⟨0,Nat.zero_le _,rfl,rfl⟩
   case round =>
    obtain ⟨k,u,rfl,rfl⟩:=hrel;have hb:=p.o k u
    have m:10 ^ k<=10 ^ 18:=Nat.pow_le_pow_right (by omega) (by omega)
    by_cases hlt:k<l.length
    ·have y:(k:Int)<(l.length:Int):=by omega
     have h:10 ^ k<=10 ^ 17:=Nat.pow_le_pow_right (by omega) (by omega)
     have hw:=Nx q.o hlt;have j:=Rj l k hlt
     obtain ⟨c,t⟩:∃ c,(⟨l.toArray⟩:ByteArray)[k]'(by rw [Fo];exact hlt)=c:=⟨_,rfl⟩
     rw [(Je l k hlt).trans t] at hw j;obtain ⟨x,n⟩:∃ x,val 0 (l.take k)=x:=⟨_,rfl⟩;rw [n] at hb j ⊢
     have z:x<=100000000000000000:=by omega
     have b:((val 0 (l.take (k+1)):Nat):Int)=(x:Int) * 10+((c.toNat:Int) - 48):=by omega
     have r:Hid _:=b;clear b j n hb m h;go_wp2
     go_round
     case rel=>exact ⟨k+1,by omega,by go_num,by rw [r.o]⟩
     case measure=>simp [intOf];omega
    ·have g:k=l.length:=by omega
     subst g;rw [List.take_of_length_le nL];clear hb m;go_wp2;go_ret;exact ⟨Af s.o.symm,rfl⟩
theorem sNumOf_any (l:List UInt8) (w:World) (hl:l.length<=1099511627776) :
  Calls prog 177 #[.string ⟨l.toArray⟩] w fun e w'=>e=.returned (qzI (Dr l))/\w'=w:=by
 by_cases hbig:18<l.length
 ·have d:Hid _:=Ss hbig
  have f:(18:Int)<(l.length:Int):=by omega
  go_enter func177,ntmps177
  go_wp2;go_ret;exact ⟨Af d.o.symm,rfl⟩
 ·have f:(l.length:Int)<=18:=by omega
  have a:l.length<=18:=by omega
  cases hd:A6 48 57 l
  ·have d:Hid _:=Sp hd
   go_enter func177,ntmps177
   go_wp2_with fail
   refine (Ga _ _ hl).mono ?_;rintro e A ⟨rfl,hw⟩;subst hw;rw [hd];go_wp2;go_ret;exact ⟨Af d.o.symm,rfl⟩
  ·have s:Hid _:=Sn a hd
   have p:Hid _:=Nv l hd;have q:Hid (A6 48 57 l=true):=hd
   go_enter func177,ntmps177
   go_wp2_with fail
   refine (Ga _ _ hl).mono ?_;rintro e A ⟨rfl,hw⟩;subst hw;rw [hd];clear hd;go_wp2
   go_loop [3,4] (fun v i=>∃ k:Nat,k<=l.length/\i=qzI k/\v=qzI (val 0 (l.take k))) (fun _ i=>l.length - (intOf i).toNat)
   case atStart=>exact ⟨0,Nat.zero_le _,rfl,rfl⟩
   case round =>
    obtain ⟨k,u,rfl,rfl⟩:=hrel;have hb:=p.o k u
    have m:10 ^ k<=10 ^ 18:=Nat.pow_le_pow_right (by omega) (by omega)
    by_cases hlt:k<l.length
    ·have y:(k:Int)<(l.length:Int):=by omega
     have h:10 ^ k<=10 ^ 17:=Nat.pow_le_pow_right (by omega) (by omega)
     have hw:=Nx q.o hlt;have j:=Rj l k hlt
     obtain ⟨c,t⟩:∃ c,(⟨l.toArray⟩:ByteArray)[k]'(by rw [Fo];exact hlt)=c:=⟨_,rfl⟩
     rw [(Je l k hlt).trans t] at hw j;obtain ⟨x,n⟩:∃ x,val 0 (l.take k)=x:=⟨_,rfl⟩;rw [n] at hb j ⊢
     have z:x<=100000000000000000:=by omega
     have b:((val 0 (l.take (k+1)):Nat):Int)=10 * (x:Int)+(c.toNat:Int) - 48:=by omega
     have r:Hid _:=b;clear b j n hb m h;go_wp2
     go_round
     case rel=>exact ⟨k+1,by omega,by go_num,by rw [r.o]⟩
     case measure=>simp [intOf];omega
    ·have g:k=l.length:=by omega
     subst g;rw [List.take_of_length_le nL];clear hb m;go_wp2;go_ret;exact ⟨Af s.o.symm,rfl⟩
def low (m:Nat):List UInt8:=if m=0 then [] else Lib.decDigits m
theorem kF (m:Nat) (h:m≠0):low m=low (m / 10)++[UInt8.ofNat (48+m % 10)]:=by
 unfold low;rw [if_neg h,Lib.decDigits]
 by_cases b:m<10
 ·rw [dif_pos b,if_pos (by omega),Nat.mod_eq_of_lt b];rfl
 ·rw [dif_neg b,if_neg (by omega)]
theorem wJ (a:Nat) (f:a<=9223372036854775807):(Lib.decDigits a).length<=21:=by
 have:=Lib.itoa_length_le (a:Int) (by omega) (by omega)
 simpa [Lib.itoa,show ¬ (a:Int)<0 from by omega] using this
theorem nI (d:Nat) (h:d<10):(⟨#[48,49,50,51,52,53,54,55,56,57]⟩:ByteArray).extract d (d+1)=⟨[UInt8.ofNat (48+d)].toArray⟩:=by
 rcases (show d=0\/d=1\/d=2\/d=3\/d=4\/d=5\/d=6\/d=7\/d=8\/d=9 from by omega) with rfl | rfl | rfl | rfl | rfl | rfl | rfl | rfl | rfl | rfl <;> decide
theorem fT (d:Nat) (l:List UInt8) (h:d<10):(⟨#[48,49,50,51,52,53,54,55,56,57]⟩:ByteArray).extract d (d+1)++⟨l.toArray⟩=⟨(UInt8.ofNat (48+d)::l).toArray⟩:=by
 rw [nI d h,Lb];rfl
theorem dec_up (a:Nat) (w:World) (f:a<=9223372036854775807) :
  Calls prog 72 #[qzI a] w fun e w'=>e=.returned (.string ⟨(Lib.decDigits a).toArray⟩)/\w'=w:=by
 by_cases h0:a=0
 ·subst h0
  go_enter func72,ntmps72
  go_wp2;go_ret
  exact ⟨Us (by rw [Lib.decDigits_one (by omega)];rfl),rfl⟩
 ·have g:((a:Int) == 0)=false:=by simp;omega
  have i:¬ (a:Int)<0:=by omega
  go_enter func72,ntmps72
  go_wp2
  go_loop [3,4,5] (fun o m _=>∃ (k:Nat) (l:List UInt8),k<=a/\m=qzI k/\o=.string ⟨l.toArray⟩/\Lib.decDigits a=low k++l) (fun _ m _=>(intOf m).toNat)
  case atStart=>exact ⟨a,[],nL,rfl,rfl,by simp [low,h0]⟩
  case round =>
   obtain ⟨k,l,n,rfl,rfl,hd⟩:=hrel
   by_cases hk0:k=0
   ·subst hk0
    have c:Hid _:=hd;clear hd;go_wp2;go_ret
    exact ⟨Us (by have:=c.o;simp [low] at this;rw [this]),rfl⟩
   ·have j:((k:Int) != 0)=true:=by simp;omega
    have c:Hid (Lib.decDigits a=low (k / 10)++(UInt8.ofNat (48+k % 10)::l)):=by rw [Hid,hd,kF k hk0];simp
    have hl:l.length<=21:=by have b:=wJ a f;rw [hd] at b;simp at b;omega
    clear hd;go_wp2
    go_round
    case rel=>exact ⟨k / 10,UInt8.ofNat (48+k % 10)::l,by omega,by go_num,by rw [fT _ _ (by omega)],c.o⟩
    case measure=>simp [intOf];omega
end Tg
theorem Uh {x a b:Int} (h:a<=x) (g:x<=b):Gk x a b=true:=by simp [Gk,h,g]
theorem bN {x a b:Int} (h:x<a\/b<x):Gk x a b=false:=by simp [Gk];omega
theorem A9 (x:Int) (w:World) :
  Calls prog 102 #[qzI x] w fun e w'=>e=.returned (.bool (Dn x))/\w'=w:=by
 go_enter func102,ntmps102
 go_wp2_with (go_at_call 134;refine (Dl _ _ _ _).mono ?_;rintro e w' ⟨rfl,rfl⟩)
 go_ret;exact ⟨rfl,rfl⟩
theorem Bm (x:Int) (w:World) :
  Calls prog 99 #[qzI x] w fun e w'=>e=.returned (.bool (Dn x))/\w'=w:=by
 by_cases h1:0<=x
 ·by_cases h2:x<=80000
  ·go_enter func99,ntmps99
   go_wp2;go_ret
   exact ⟨by simp [Dn,h1,h2],rfl⟩
  ·go_enter func99,ntmps99
   go_wp2;go_ret
   exact ⟨by simp [Dn,h1,h2],rfl⟩
 ·go_enter func99,ntmps99
  go_wp2;go_ret
  exact ⟨by simp [Dn];omega,rfl⟩
def wdV (d:Int):Int:=if Dn d=true then (d+5) % 7 else -1
theorem Pt {d:Int} (h:Dn d=true):wdV d=(d+5) % 7:=if_pos h
theorem kW {d:Int} (h:Dn d=false):wdV d = -1:=if_neg (by rw [h];decide)
theorem M6 (x:Int) (w:World) :
  Calls prog 326 #[qzI x] w fun e w'=>e=.returned (qzI (wdV x))/\w'=w:=by
 cases h:Dn x
 ·have c:Hid _:=kW h
  go_enter func326,ntmps326
  go_wp2_with (go_at_call 102;refine (A9 _ _).mono ?_;rintro e w' ⟨rfl,rfl⟩)
  go_ret;exact ⟨Af c.o.symm,rfl⟩
 ·have c:Hid _:=Pt h
  have hb:=Ei h
  go_enter func326,ntmps326
  go_wp2_with (go_at_call 102;refine (A9 _ _).mono ?_;rintro e w' ⟨rfl,rfl⟩)
  go_ret;exact ⟨Af c.o.symm,rfl⟩
theorem Ur (x:Int) (w:World) :
  Calls prog 358 #[qzI x] w fun e w'=>e=.returned (qzI (wdV x))/\w'=w:=by
 cases h:Dn x
 ·have c:Hid _:=kW h
  go_enter func358,ntmps358
  go_wp2_with (go_at_call 99;refine (Bm _ _).mono ?_;rintro e w' ⟨rfl,rfl⟩)
  go_ret;exact ⟨Af c.o.symm,rfl⟩
 ·have c:Hid _:=Pt h
  have hb:=Ei h
  go_enter func358,ntmps358
  go_wp2_with (go_at_call 99;refine (Bm _ _).mono ?_;rintro e w' ⟨rfl,rfl⟩)
  go_ret;exact ⟨Af c.o.symm,rfl⟩
end Go.Proofs.YtomiclakhjncbaaGreatDoor
namespace Go.Proofs.YtomiclakhjncbaaGreatDoor
open Go.Proofs.Tryz
def Er:Int->List Int->Bool
 | _,[]=>true
 | l,z::r=>decide (l<z/\0<=z/\z<=80000) && Er z r
def Ct (zs:List Int):Bool:=decide (zs.length<=400) && Er (-1) zs
theorem Wj (zs:List Int) (k:Nat) (l:Int) (h:k<zs.length):Er l (zs.drop k)=(decide (l<zs.getD k 0/\0<=zs.getD k 0/\zs.getD k 0<=80000) && Er (zs.getD k 0) (zs.drop (k+1))):=by
 rw [List.drop_eq_getElem_cons h,Er]
 simp [List.getD_eq_getElem?_getD,h]
theorem oM:∀ (zs:List Int) (l:Int),Er l zs=true->∀ z ∈ zs,l<z:=by
 intro zs
 induction zs with
 | nil=>intro l _ z m;cases m
 | cons a r ih =>
  intro l h z m
  simp [Er] at h
  rcases List.mem_cons.1 m with rfl | m
  ·exact h.1.1
  ·have:=ih a h.2 z m;omega
theorem Ye:∀ (zs:List Int) (l:Int),Er l zs=true->∀ i j,i<j->j<zs.length->zs.getD i 0<zs.getD j 0:=by
 intro zs
 induction zs with
 | nil=>intro l _ i j _ h;simp at h
 | cons a r ih =>
  intro l h i j u w
  simp [Er] at h
  cases j with
  | zero=>omega
  | succ j =>
   have c:j<r.length:=by simpa using w
   cases i with
   | zero =>
    have:=oM r a h.2 (r.getD j 0) (by simp [List.getD_eq_getElem?_getD,c])
    simpa [List.getD_eq_getElem?_getD] using this
   | succ i =>
    have:=ih a h.2 i j (by omega) c
    simpa [List.getD_eq_getElem?_getD] using this
theorem pD {zs:List Int} (h:Ct zs=true):Er (-1) zs=true:=by simp [Ct] at h;exact h.2
theorem pF {zs:List Int} (h:Ct zs=true):zs.length<=400:=by simp [Ct] at h;exact h.1
theorem cP {zs:List Int} (h:400<zs.length):Ct zs=false:=by simp [Ct];omega
theorem Mg {zs:List Int} (h:Er (-1) zs=false):Ct zs=false:=by simp [Ct,h]
theorem cG {zs:List Int} (h:zs.length<=400) (g:Er (-1) zs=true):Ct zs=true:=by simp [Ct,h,g]
theorem Yl {zs:List Int} {t:Int} {i:Nat} (s:Er (-1) zs=true) (p:∀ k,k<i->zs.getD k 0<t) (q:∀ k,i<=k->k<zs.length->t<=zs.getD k 0) :
  (t ∈ zs) ↔ (i<zs.length/\zs.getD i 0=t):=by
 constructor
 ·intro x
  obtain ⟨k,o,rfl⟩:=List.mem_iff_getElem.1 x
  have e:zs.getD k 0=zs[k]:=by simp [List.getD_eq_getElem?_getD,o]
  have v:i<=k:=by
   rcases Nat.lt_or_ge k i with h | h
   ·have:=p k h;omega
   ·exact h
  by_cases h:i=k
  ·subst h;exact ⟨o,e⟩
  ·have a:=Ye zs _ s i k (by omega) o
   have b:=q i nL (by omega)
   omega
 ·rintro ⟨hi,rfl⟩
  simp [List.getD_eq_getElem?_getD,hi]
def wk (zs:List Int) (d:Int):Bool:=decide ((d+5) % 7<5) && !decide (d ∈ zs)
def wd (zs:List Int):Nat->List Int
 | 0=>[]
 | f+1=>if wk zs (80000 - f)=true then (80000 - (f:Int))::wd zs f else wd zs f
def Pk (zs:List Int) (f:Nat):Nat->Option Int
 | 0=>some (80000 - (f:Int))
 | n+1=>(wd zs f)[n]?
def Lh (d n:Int) (zs:List Int):Option Int:=if Dn d=true/\0<=n/\n<=400/\Ct zs=true then Pk zs (80000 - d).toNat n.toNat else none
theorem mN {zs:List Int} {f:Nat} (h:wk zs (80000 - f)=true):wd zs (f+1)=(80000 - (f:Int))::wd zs f:=by rw [wd,if_pos h]
theorem kN {zs:List Int} {f:Nat} (h:wk zs (80000 - f)=false):wd zs (f+1)=wd zs f:=by rw [wd,if_neg (by rw [h];decide)]
theorem Wb (zs:List Int) (f:Nat):Pk zs f 0=some (80000 - (f:Int)):=rfl
theorem pC (zs:List Int) (n:Nat):Pk zs 0 (n+1)=none:=by simp [Pk,wd]
theorem oO {zs:List Int} {f n:Nat} (h:wk zs (80000 - f)=true):Pk zs (f+1) (n+1)=Pk zs f n:=by
 rw [Pk,mN h]
 cases n with
 | zero=>simp [Pk]
 | succ n=>simp [Pk]
theorem qO {zs:List Int} {f n:Nat} (h:wk zs (80000 - f)=false):Pk zs (f+1) (n+1)=Pk zs f (n+1):=by
 rw [Pk,kN h];rfl
end Go.Proofs.YtomiclakhjncbaaGreatDoor
namespace Go.Proofs.YtomiclakhjncbaaGreatDoor
open Go.RowKit Go.Proofs.Tryz
def Bv (t d:Int):Bool:=Dn t && Dn d && decide (d<t)
theorem Sr {t d:Int} (h:Dn t=false):Bv t d=false:=by simp [Bv,h]
theorem To {t d:Int} (h:Dn d=false):Bv t d=false:=by simp [Bv,h]
theorem Tk {t d:Int} (h:Dn t=true) (g:Dn d=true):Bv t d=decide (d<t):=by simp [Bv,h,g]
theorem N2 (t d:Int) (w:World) :
  Calls prog 91 #[qzI t,qzI d] w fun e w'=>e=.returned (.bool (Bv t d))/\w'=w:=by
 cases h1:Dn t
 ·have a:Hid _:=Sr (d:=d) h1
  go_enter func91,ntmps91
  go_wp2_with (go_at_call 99;refine (Bm _ _).mono ?_;rintro e w' ⟨rfl,rfl⟩)
  go_ret;exact ⟨Aa a.o.symm,rfl⟩
 ·cases h2:Dn d
  ·have a:Hid _:=To (t:=t) h2
   go_enter func91,ntmps91
   go_wp2_with (go_at_call 99;refine (Bm _ _).mono ?_;rintro e w' ⟨rfl,rfl⟩)
   go_ret;exact ⟨Aa a.o.symm,rfl⟩
  ·have a:Hid _:=Tk h1 h2
   go_enter func91,ntmps91
   go_wp2_with (go_at_call 99;refine (Bm _ _).mono ?_;rintro e w' ⟨rfl,rfl⟩)
   go_ret;exact ⟨Aa a.o.symm,rfl⟩
theorem Kp (t d:Int) (w:World) :
  Calls prog 92 #[qzI t,qzI d] w fun e w'=>e=.returned (.bool (Bv t d))/\w'=w:=by
 cases h1:Dn t
 ·have a:Hid _:=Sr (d:=d) h1
  go_enter func92,ntmps92
  go_wp2_with (go_at_call 102;refine (A9 _ _).mono ?_;rintro e w' ⟨rfl,rfl⟩)
  go_ret;exact ⟨Aa a.o.symm,rfl⟩
 ·cases h2:Dn d
  ·have a:Hid _:=To (t:=t) h2
   go_enter func92,ntmps92
   go_wp2_with (go_at_call 102;refine (A9 _ _).mono ?_;rintro e w' ⟨rfl,rfl⟩)
   go_ret;exact ⟨Aa a.o.symm,rfl⟩
  ·have a:Hid _:=Tk h1 h2
   go_enter func92,ntmps92
   go_wp2_with (go_at_call 102;refine (A9 _ _).mono ?_;rintro e w' ⟨rfl,rfl⟩)
   go_ret;exact ⟨Aa a.o.symm,rfl⟩
theorem Uu (c:UInt8) (a b:Nat):Gk (c.toNat:Int) a b=(decide (a<=c.toNat) && decide (c.toNat<=b)):=by
 unfold Gk
 by_cases h1:a<=c.toNat <;> by_cases h2:c.toNat<=b <;> simp [h1,h2]
theorem Hy (l:List UInt8) (a b:Nat) (w:World) (hl:l.length<=1099511627776) :
  Calls prog 327 #[.string ⟨l.toArray⟩,.int .u8 a,.int .u8 b] w fun e w'=>e=.returned (.bool (A6 a b l))/\w'=w:=by
 go_enter func327,ntmps327
 go_wp2
 go_loop [7,10] (fun _ i=>∃ k:Nat,k<=l.length/\i=qzI k/\A6 a b l=A6 a b (l.drop k)) (fun _ i=>l.length - (intOf i).toNat)
 case atStart=>exact ⟨0,Nat.zero_le _,rfl,rfl⟩
 case round =>
  obtain ⟨k,s,rfl,f⟩:=hrel
  by_cases hlt:k<l.length
  ·have r:(k:Int)<(l.length:Int):=by omega
   have hs:=Ic a b l k hlt
   obtain ⟨c,q⟩:∃ c,(⟨l.toArray⟩:ByteArray)[k]'(by rw [Fo];exact hlt)=c:=⟨_,rfl⟩
   rw [(Je l k hlt).trans q] at hs;have d:Hid _:=f.trans hs;clear hs f
   by_cases h1:a<=c.toNat
   ·have h:(a:Int)<=(c.toNat:Int):=by omega
    by_cases h2:c.toNat<=b
    ·have j:(c.toNat:Int)<=(b:Int):=by omega
     have p:Hid (A6 a b l=A6 a b (l.drop (k+1))):=by rw [Hid,d.o];simp [h1,h2]
     clear d;go_wp2
     go_round
     case rel=>exact ⟨k+1,by omega,by go_num,p.o⟩
     case measure=>simp [intOf];omega
    ·have j:(b:Int)<(c.toNat:Int):=by omega
     have g:Hid (A6 a b l=false):=by rw [Hid,d.o];simp [h2]
     clear d;go_wp2;go_ret;exact ⟨Aa g.o.symm,rfl⟩
   ·have h:(c.toNat:Int)<(a:Int):=by omega
    have g:Hid (A6 a b l=false):=by rw [Hid,d.o];simp [h1]
    clear d;go_wp2;go_ret;exact ⟨Aa g.o.symm,rfl⟩
  ·have m:k=l.length:=by omega
   subst m
   have n:Hid (A6 a b l=true):=by rw [Hid,f,I9]
   clear f;go_wp2;go_ret;exact ⟨Aa n.o.symm,rfl⟩
theorem Lx (l:List UInt8) (w:World) (hl:l.length<=1099511627776) :
  Calls prog 307 #[.string ⟨l.toArray⟩] w fun e w'=>e=.returned (.bool (A6 32 126 l))/\w'=w:=by
 go_enter func307,ntmps307
 go_wp2_with fail
 refine (Hy l 32 126 _ hl).mono ?_;rintro e t ⟨rfl,hw⟩;subst hw;go_wp2;go_ret;exact ⟨rfl,rfl⟩
end Go.Proofs.YtomiclakhjncbaaGreatDoor
namespace Go.Proofs.YtomiclakhjncbaaGreatDoor
open Go.Proofs.Tryz
theorem uC (d:Nat) (h:d<10):(UInt8.ofNat (48+d)).toNat=48+d:=by
 rw [UInt8.toNat_ofNat'];omega
theorem vY (n:Nat):(∀ c ∈ Lib.decDigits n,48<=c.toNat/\c.toNat<=57)/\val 0 (Lib.decDigits n)=n:=by
 induction n using Nat.strongRecOn with
 | _ n ih =>
  rw [Lib.decDigits]
  by_cases h:n<10
  ·rw [dif_pos h]
   refine ⟨fun c b=>?_,?_⟩
   ·obtain rfl:c=UInt8.ofNat (48+n):=by simpa using b
    rw [uC n h];omega
   ·simp only [val,List.foldl_cons,List.foldl_nil]
    rw [uC n h];omega
  ·rw [dif_neg h]
   obtain ⟨l,o⟩:=ih (n / 10) (by omega)
   refine ⟨fun c b=>?_,?_⟩
   ·rcases List.mem_append.1 b with b | b
    ·exact l c b
    ·obtain rfl:c=UInt8.ofNat (48+n % 10):=by simpa using b
     rw [uC _ (by omega)];omega
   ·rw [Yr,o]
    simp only [val,List.foldl_cons,List.foldl_nil]
    rw [uC _ (by omega)];omega
theorem vC (k n:Nat) (q:1<=k) (h:n<10 ^ k):(Lib.decDigits n).length<=k:=by
 induction k generalizing n with
 | zero=>omega
 | succ k ih =>
  rw [Lib.decDigits]
  by_cases f:n<10
  ·rw [dif_pos f];simp
  ·rw [dif_neg f]
   have g:1<=k:=by
    rcases Nat.eq_zero_or_pos k with rfl | j
    ·simp at h;omega
    ·exact j
   have:=ih (n / 10) g (by rw [Nat.pow_succ] at h;omega)
   simp;omega
def uQ (x n:Int):Bool:=decide (1<=n/\n<=18) && decide (0<=x/\x<((10 ^ n.toNat:Nat):Int))
def wW (x n:Nat):List UInt8:=List.replicate (n - (Lib.decDigits x).length) 48++Lib.decDigits x
def vE (x n:Int):List UInt8:=if uQ x n=true then wW x.toNat n.toNat else []
theorem wR {x n:Int} (h:uQ x n=false):vE x n=[]:=if_neg (by rw [h];decide)
theorem Aae {x n:Int} (h:¬ (1<=n/\n<=18)):uQ x n=false:=by unfold uQ;rw [decide_eq_false h];rfl
theorem Aag {x n:Int} (h:¬ (0<=x/\x<((10 ^ n.toNat:Nat):Int))):uQ x n=false:=by unfold uQ;rw [decide_eq_false h,Bool.and_false]
theorem vI {x n:Nat} (f:1<=n) (p:n<=18) (i:x<10 ^ n):vE x n=wW x n:=by
 unfold vE;rw [if_pos]
 ·rw [Int.toNat_natCast,Int.toNat_natCast]
 ·unfold uQ
  rw [decide_eq_true (by omega),decide_eq_true (by rw [Int.toNat_natCast];omega)];rfl
theorem vQ (x n:Int):vE x n=[]\/∃ a m:Nat,x=a/\n=m/\1<=m/\m<=18/\a<10 ^ m/\vE x n=wW a m:=by
 cases h:uQ x n
 ·exact .inl (wR h)
 ·unfold uQ at h
  rw [Bool.and_eq_true,decide_eq_true_eq,decide_eq_true_eq] at h;obtain ⟨a,rfl⟩:=Int.eq_ofNat_of_zero_le h.2.1
  obtain ⟨m,rfl⟩:=Int.eq_ofNat_of_zero_le (show 0<=n by omega)
  rw [Int.toNat_natCast] at h
  exact .inr ⟨a,m,rfl,rfl,by omega,by omega,by omega,vI (by omega) (by omega) (by omega)⟩
theorem wZ {x n:Nat} (f:1<=n) (i:x<10 ^ n):(wW x n).length=n:=by
 have:=vC n x f i
 simp [wW];omega
theorem Ab3 (x n:Nat):A6 48 57 (wW x n)=true:=by
 refine Aax fun c b=>?_
 rcases List.mem_append.1 b with b | b
 ·rw [List.mem_replicate] at b
  rw [b.2];decide
 ·exact (vY x).1 c b
end Go.Proofs.YtomiclakhjncbaaGreatDoor
namespace Go.Proofs.YtomiclakhjncbaaGreatDoor
open Go.RowKit Go.Proofs.Tryz
def low (m:Nat):List UInt8:=if m=0 then [] else Lib.decDigits m
theorem kF (m:Nat) (h:m≠0):low m=low (m / 10)++[UInt8.ofNat (48+m % 10)]:=by
 unfold low;rw [if_neg h,Lib.decDigits]
 by_cases b:m<10
 ·rw [dif_pos b,if_pos (by omega),Nat.mod_eq_of_lt b];rfl
 ·rw [dif_neg b,if_neg (by omega)]
theorem wJ (a:Nat) (f:a<=9223372036854775807):(Lib.decDigits a).length<=21:=by
 have:=Lib.itoa_length_le (a:Int) (by omega) (by omega)
 simpa [Lib.itoa,show ¬ (a:Int)<0 from by omega] using this
theorem nI (d:Nat) (h:d<10):(⟨#[48,49,50,51,52,53,54,55,56,57]⟩:ByteArray).extract d (d+1)=⟨[UInt8.ofNat (48+d)].toArray⟩:=by
 rcases (show d=0\/d=1\/d=2\/d=3\/d=4\/d=5\/d=6\/d=7\/d=8\/d=9 from by omega) with rfl | rfl | rfl | rfl | rfl | rfl | rfl | rfl | rfl | rfl <;> decide
theorem fT (d:Nat) (l:List UInt8) (h:d<10):(⟨#[48,49,50,51,52,53,54,55,56,57]⟩:ByteArray).extract d (d+1)++⟨l.toArray⟩=⟨(UInt8.ofNat (48+d)::l).toArray⟩:=by
 rw [nI d h,Lb];rfl
theorem dec_up (a:Nat) (w:World) (f:a<=9223372036854775807) :
  Calls prog 72 #[qzI a] w fun e w'=>e=.returned (.string ⟨(Lib.decDigits a).toArray⟩)/\w'=w:=by
 by_cases h0:a=0
 ·subst h0
  go_enter func72,ntmps72
  go_wp2;go_ret
  exact ⟨Us (by rw [Lib.decDigits_one (by omega)];rfl),rfl⟩
 ·have g:((a:Int) == 0)=false:=by simp;omega
  have i:¬ (a:Int)<0:=by omega
  go_enter func72,ntmps72
  go_wp2
  go_loop [3,4,5] (fun o m _=>∃ (k:Nat) (l:List UInt8),k<=a/\m=qzI k/\o=.string ⟨l.toArray⟩/\Lib.decDigits a=low k++l) (fun _ m _=>(intOf m).toNat)
  case atStart=>exact ⟨a,[],nL,rfl,rfl,by simp [low,h0]⟩
  case round =>
   obtain ⟨k,l,n,rfl,rfl,hd⟩:=hrel
   by_cases hk0:k=0
   ·subst hk0
    have c:Hid _:=hd;clear hd;go_wp2;go_ret
    exact ⟨Us (by have:=c.o;simp [low] at this;rw [this]),rfl⟩
   ·have j:((k:Int) != 0)=true:=by simp;omega
    have c:Hid (Lib.decDigits a=low (k / 10)++(UInt8.ofNat (48+k % 10)::l)):=by rw [Hid,hd,kF k hk0];simp
    have hl:l.length<=21:=by have b:=wJ a f;rw [hd] at b;simp at b;omega
    clear hd;go_wp2
    go_round
    case rel=>exact ⟨k / 10,UInt8.ofNat (48+k % 10)::l,by omega,by go_num,by rw [fT _ _ (by omega)],c.o⟩
    case measure=>simp [intOf];omega
theorem vO (n:Nat) (w:World) (hn:n<=18) :
  Calls prog 166 #[qzI n] w fun e w'=>e=.returned (qzI (10 ^ n:Nat))/\w'=w:=by
 go_enter func166,ntmps166
 go_wp2
 go_loop [3,4] (fun p i=>∃ k:Nat,k<=n/\i=qzI k/\p=qzI (10 ^ k:Nat)) (fun _ i=>n - (intOf i).toNat)
 case atStart=>exact ⟨0,Nat.zero_le _,rfl,rfl⟩
 case round =>
  obtain ⟨k,S,rfl,rfl⟩:=hrel
  by_cases hlt:k<n
  ·have X:(k:Int)<(n:Int):=by omega
   have B:10 ^ k<=10 ^ 17:=Nat.pow_le_pow_right (by omega) (by omega)
   have hs:10 ^ (k+1)=10 ^ k*10:=Nat.pow_succ 10 k;obtain ⟨x,t⟩:∃ x:Nat,10 ^ k=x:=⟨_,rfl⟩;rw [t] at B hs ⊢
   have T:Hid (((10 ^ (k+1):Nat):Int)=10 * (x:Int)):=by rw [Hid,hs];omega
   have Z:x<=100000000000000000:=by omega
   clear hs t B;go_wp2
   go_round
   case rel=>exact ⟨k+1,by omega,by go_num,by rw [T.o]⟩
   case measure=>simp [intOf];omega
  ·have L:k=n:=by omega
   subst L;obtain ⟨x,t⟩:∃ x:Nat,10 ^ k=x:=⟨_,rfl⟩;rw [t];have U:Hid _:=t;clear t;go_wp2;go_ret
   exact ⟨Af (by rw [<- U.o];simp),rfl⟩
def vN:Value->Nat
 | .string b=>b.size
 | _=>0
theorem uZ (l:List UInt8):vN (.string ⟨l.toArray⟩)=l.length:=by simp [vN,ByteArray.size]
theorem xU (x n:Int) (w:World) :
  Calls prog 130 #[qzI x,qzI n] w fun e w'=>e=.returned (.string ⟨(vE x n).toArray⟩)/\BW w w':=by
 cases h1:Gk n 1 18
 ·have H:¬ (1<=n/\n<=18):=of_decide_eq_false h1
  have F:Hid _:=wR (Aae (x:=x) H)
  go_enter func130,ntmps130
  go_wp2_with fail
  refine (Dl _ _ _ _).mono ?_;rintro e r ⟨rfl,c⟩;subst c;rw [h1];go_wp2;go_ret
  exact ⟨Us (by rw [F.o]),bR⟩
 ·have V:1<=n/\n<=18:=of_decide_eq_true h1
  have C:Hid _:=h1
  obtain ⟨m,rfl⟩:=Int.eq_ofNat_of_zero_le (show 0<=n by omega)
  have B:10 ^ m<=10 ^ 18:=Nat.pow_le_pow_right (by omega) (by omega)
  have N:0<10 ^ m:=Nat.pow_pos (by omega)
  have f:m<=18:=by omega
  have u:Hid (1<=m):=by rw [Hid];omega
  clear h1;obtain ⟨y,hy⟩:∃ y:Nat,10 ^ m=y:=⟨_,rfl⟩;rw [hy] at B N
  have a3:y<=1000000000000000000:=by omega
  have d:Hid _:=hy;clear hy B
  cases h2:Gk x 0 ((y:Int) - 1)
  ·have W:¬ (0<=x/\x<=(y:Int) - 1):=of_decide_eq_false h2
   have F:Hid _:=wR (Aag (x:=x) (n:=m) (by rw [Int.toNat_natCast,d.o];omega))
   go_enter func130,ntmps130
   go_wp2_with fail
   refine (Dl _ _ _ _).mono ?_;rintro e r ⟨rfl,c⟩;subst c;rw [C.o];go_wp2_with fail
   refine (vO m _ f).mono ?_;rintro e r ⟨rfl,c⟩;subst c;rw [d.o];go_wp2_with fail
   refine (Dl _ _ _ _).mono ?_;rintro e r ⟨rfl,c⟩;subst c;rw [h2];go_wp2;go_ret
   exact ⟨Us (by rw [F.o]),bR⟩
  ·have I:0<=x/\x<=(y:Int) - 1:=of_decide_eq_true h2
   obtain ⟨a,rfl⟩:=Int.eq_ofNat_of_zero_le I.1;have R:Hid _:=h2
   have z:a<y:=by omega
   have G:Hid (vE a m=wW a m):=vI u.o f (by rw [d.o];exact z)
   have O:=vC m a u.o (by rw [d.o];exact z)
   unfold wW at G;clear h2
   go_enter func130,ntmps130
   go_wp2_with fail
   refine (Dl _ _ _ _).mono ?_;rintro e r ⟨rfl,c⟩;subst c;rw [C.o];go_wp2_with fail
   refine (vO m _ f).mono ?_;rintro e r ⟨rfl,c⟩;subst c;rw [d.o];go_wp2_with fail
   refine (Dl _ _ _ _).mono ?_;rintro e r ⟨rfl,c⟩;subst c;rw [R.o];clear R C;go_wp2_with fail
   refine (dec_up a _ (by omega)).mono ?_
   rintro e r ⟨rfl,c⟩;subst c
   generalize Lib.decDigits a=s at O G
   go_wp2
   go_loop [5] (fun v=>∃ k:Nat,k<=m - s.length/\v=.string ⟨(List.replicate k 48++s).toArray⟩) (fun v=>m - vN v)
   case atStart=>exact ⟨0,Nat.zero_le _,rfl⟩
   case round =>
    obtain ⟨k,S,rfl⟩:=hrel
    have h:(List.replicate k (48:UInt8)++s).length=k+s.length:=by simp
    have g:Hid ((⟨#[48]⟩:ByteArray)++⟨(List.replicate k 48++s).toArray⟩=⟨(List.replicate (k+1) 48++s).toArray⟩):=Lb [48] (List.replicate k 48++s)
    have j:Hid (vN (.string ((⟨#[48]⟩:ByteArray)++⟨(List.replicate k 48++s).toArray⟩))=k+1+s.length):=by rw [Hid,g.o,uZ];simp
    have q:Hid (vN (.string ⟨(List.replicate k 48++s).toArray⟩)=k+s.length):=by rw [Hid,uZ,h]
    have D:Hid (k=m - s.length->vE a m=List.replicate k 48++s):=fun e=>by rw [e];exact G.o
    generalize List.replicate k (48:UInt8)++s=p at h g j q D
    have Y:p.length<=25:=by omega
    by_cases hlt:p.length<m
    ·have A:(p.length:Int)<(m:Int):=by omega
     have J:k+1<=m - s.length:=by omega
     have M:m - (k+1+s.length)<m - (k+s.length):=by omega
     clear h;go_wp2
     go_round
     case rel=>exact ⟨k+1,J,by rw [g.o]⟩
     case measure=>rw [j.o,q.o];exact M
    ·have A:(m:Int)<=(p.length:Int):=by omega
     have HP:Hid _:=D.o (by omega)
     clear h D g j q S;go_wp2;go_ret
     exact ⟨Us (by rw [HP.o]),bR⟩
end Go.Proofs.YtomiclakhjncbaaGreatDoor
namespace Go.Proofs.YtomiclakhjncbaaGreatDoor
open Go.RowKit Tg Go.Proofs.Tryz
theorem xB (n:Int):IntKind.i64.wrap n=if 9223372036854775808<=n % 18446744073709551616 then n % 18446744073709551616 - 18446744073709551616 else n % 18446744073709551616:=by
 simp [IntKind.wrap,IntKind.bits,IntKind.signed]
theorem Acc (n:Int):-9223372036854775808<=IntKind.i64.wrap n/\IntKind.i64.wrap n<=9223372036854775807:=by
 rw [xB]
 by_cases h:9223372036854775808<=n % 18446744073709551616
 ·rw [if_pos h];omega
 ·rw [if_neg h];omega
theorem tS {n:Int} (i:-9223372036854775808<=n) (p:n<=9223372036854775807):IntKind.i64.wrap n=n:=by
 rw [xB]
 by_cases h:9223372036854775808<=n % 18446744073709551616
 ·rw [if_pos h];omega
 ·rw [if_neg h];omega
def QT (j:Nat) (k:Int):Prop:=j=0\/(1<=j/\k.natAbs*10 ^ (j - 1)<=9223372036854775808)
theorem Aep {j:Nat} {k:Int} (h:QT j k) (C:k≠0):j<=19:=by
 rcases h with rfl | ⟨i,p⟩
 ·omega
 ·by_cases hj:j<=19
  ·exact hj
  ·have f:10 ^ 19<=10 ^ (j - 1):=Nat.pow_le_pow_right (by omega) (by omega)
   have v:1*10 ^ (j - 1)<=k.natAbs*10 ^ (j - 1):=Nat.mul_le_mul_right _ (by omega)
   omega
theorem Aca (k:Int):(k.tdiv 10).natAbs=k.natAbs / 10:=by rw [Int.natAbs_tdiv];rfl
theorem Adv {j:Nat} {k:Int} (h:QT j k) (_hk:k≠0):QT (j+1) (IntKind.i64.wrap (k.tdiv 10))/\(IntKind.i64.wrap (k.tdiv 10)).natAbs<k.natAbs:=by
 have y:=Aca k;have hb:=Acc (k.tdiv 10)
 by_cases hs:k.natAbs<=9223372036854775808
 ·have e:IntKind.i64.wrap (k.tdiv 10)=k.tdiv 10:=tS (by omega) (by omega)
  rw [e]
  refine ⟨.inr ⟨by omega,?_⟩,by omega⟩
  rcases h with rfl | ⟨i,p⟩
  ·rw [y];simp;omega
  ·have e2:10 ^ (j+1 - 1)=10 ^ (j - 1) * 10:=by rw [<- Nat.pow_succ];congr 1;omega
   have f:k.natAbs / 10*10<=k.natAbs:=Nat.div_mul_le_self _ _;have v:=Nat.mul_le_mul_right (10 ^ (j - 1)) f;rw [y,e2]
   have e3:k.natAbs / 10 * (10 ^ (j - 1) * 10)=k.natAbs / 10*10*10 ^ (j - 1):=by
    rw [Nat.mul_comm (10 ^ (j - 1)) 10,Nat.mul_assoc]
   omega
 ·rcases h with rfl | ⟨i,p⟩
  ·refine ⟨.inr ⟨by omega,?_⟩,by omega⟩
   simp;omega
  ·exfalso
   have f:1<=10 ^ (j - 1):=Nat.one_le_pow _ _ (by omega)
   have v:k.natAbs*1<=k.natAbs*10 ^ (j - 1):=Nat.mul_le_mul_left _ f
   omega
theorem Xo (n:Int) (w:World) :
  Calls prog 72 #[qzI n] w fun e w'=>∃ l:List UInt8,e=.returned (.string ⟨l.toArray⟩)/\l.length<=22/\w'=w:=by
 by_cases h0:n=0
 ·subst h0
  go_enter func72,ntmps72
  go_wp2;go_ret
  exact ⟨[48],rfl,by simp,rfl⟩
 ·have A:(n == 0)=false:=by simpa using h0
  go_enter func72,ntmps72
  go_wp2
  go_loop [3,4,5] (fun o m _=>∃ (k:Int) (l:List UInt8),m=qzI k/\o=.string ⟨l.toArray⟩/\l.length<=20/\QT l.length k) (fun _ m _=>(intOf m).natAbs)
  case atStart=>exact ⟨n,[],rfl,rfl,by simp,.inl rfl⟩
  case round =>
   obtain ⟨k,l,rfl,rfl,hl,g⟩:=hrel
   by_cases hk0:k=0
   ·subst hk0
    clear g
    by_cases hn:n<0
    ·go_wp2
     go_ret
     exact ⟨45::l,by rw [show (⟨#[45]⟩:ByteArray)=⟨[45].toArray⟩ from rfl,Lb];rfl,by simp;omega,rfl⟩
    ·go_wp2
     go_ret
     exact ⟨l,rfl,by omega,rfl⟩
   ·have B:(k != 0)=true:=by simpa using hk0
    have hb:=Aep g hk0;obtain ⟨hq1,hq2⟩:=Adv g hk0;obtain ⟨u,q⟩:∃ x,IntKind.i64.wrap (k.tdiv 10)=x:=⟨_,rfl⟩;rw [q] at hq1 hq2;have b:Hid _:=hq1;have c:Hid (u.natAbs<k.natAbs):=hq2
    have s:(k.tmod 10).natAbs<10:=by
     rw [Int.natAbs_tmod];exact Nat.mod_lt _ (by decide)
    obtain ⟨r,t⟩:∃ r,k.tmod 10=r:=⟨_,rfl⟩;rw [t] at s;clear g hq1 hq2
    by_cases hs:r<0
    ·obtain ⟨d,hd⟩:∃ d:Nat,r = -(d:Int):=⟨r.natAbs,by omega⟩
     subst hd
     have a:d<10:=by omega
     have z:0<d:=by omega
     have hw:IntKind.i64.wrap (-(d:Int)) = -(d:Int):=tS (by omega) (by omega)
     clear s;go_wp2
     go_round
     case rel=>exact ⟨u,UInt8.ofNat (48+d)::l,by rfl,by rw [fT _ _ a],by simp;omega,b.o⟩
     case measure=>simp only [intOf];exact c.o
    ·obtain ⟨d,hd⟩:∃ d:Nat,r=(d:Int):=⟨r.natAbs,by omega⟩
     subst hd
     have a:d<10:=by omega
     clear s;go_wp2
     go_round
     case rel=>exact ⟨u,UInt8.ofNat (48+d)::l,by rfl,by rw [fT _ _ a],by simp;omega,b.o⟩
     case measure=>simp only [intOf];exact c.o
end Go.Proofs.YtomiclakhjncbaaGreatDoor
namespace Go.Proofs.YtomiclakhjncbaaGreatDoor
open Go.RowKit Go.Proofs.Tryz
end Go.Proofs.YtomiclakhjncbaaGreatDoor
