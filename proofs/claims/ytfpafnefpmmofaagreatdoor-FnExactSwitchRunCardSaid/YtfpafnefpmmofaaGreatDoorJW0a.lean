import Derived.Test.YtfpafnefpmmofaaGreatDoorProg
import Derived.WalkLawsBesides
import Derived.BigQuiet
import Derived.Handy
import Derived.Shelf.Strings.OnBuilder
import Derived.Shelf.Strings.Trim
import Derived.Shelf.Small.Utf8
import Derived.Shelf.Small.Bits
import Derived.Shelf.Utf8.RuneCount
import Derived.Shelf.Strconv.Itoa3
import Derived.Shelf.Strconv.Clone
import Derived.Shelf.Strings.Shaped
import Derived.Shelf.Strings.SplitShaped
import Derived.Shelf.Strings.Runes
import Derived.Shelf.Strings.AsciiSet
import Derived.Shelf.Strings.Explode
import Derived.Shelf.Strings.Repeat
import Derived.Shelf.Unicode.DecodeAny
import Derived.Shelf.Slices.SearchI
import Derived.Deep.RegionHeld3
import Derived.Deep.AppendLies
import Derived.Lib.ItoaLen
import Init
set_option maxRecDepth 100000
set_option maxHeartbeats 12800000
namespace Go.Proofs.YtfpafnefpmmofaaGreatDoor
open Go.RowKit
abbrev BW(w u:World):Prop:=Below w.heap.size w u
theorem bR {n:Nat}{w:World}:Below n w w:=.refl n w
theorem nL {n:Nat}:n<=n:=Nat.le_refl n
theorem _root_.Go.RowKit.Hid.o {p:Prop}(h:Hid p):p:=h
abbrev qzI (x:Int):Value:=.int .i64 x
abbrev qzA (b o:Nat):Addr:=⟨b,o,none⟩
def qj(p:Prop):Prop:=p
theorem qj.o{p:Prop}(h:qj p):p:=h
theorem qj.out{p:Prop}(h:qj p):p:=h
abbrev qp(v:Value)(w:World)(e:Ending)(u:World):Prop:=e=.returned v∧Below w.heap.size w u
abbrev qr(v:Value)(w:World)(e:Ending)(u:World):Prop:=e=.returned v∧u=w
abbrev qd(x:List UInt8):Value:=.string ⟨x.toArray⟩
abbrev qe:Value:=.slice none 0 0
abbrev qf(a:Option Addr)(n k:Nat):Value:=.slice a n k
abbrev qh(g:Nat):Value:=.pointer (some ⟨g,0,none⟩)
abbrev qi(f:Nat)(a:Array Value)(w:World)(Q:Ending→World→Prop):Prop:=Calls Tryz.prog f a w Q
abbrev ql:=World
abbrev qm:=Option Addr
abbrev qn:=List UInt8
abbrev qo(w:World)(k:Nat):Addr:=⟨w.heap.size,k,none⟩
theorem _root_.Go.RowKit.Below.c{B:Nat}{w u:World}(h:Below B w u)(b k:Nat)(l:b<B):u.cell? ⟨b,k,none⟩=w.cell? ⟨b,k,none⟩:=h.cell (p:=⟨b,k,none⟩) l
theorem _root_.Eq.t.{u} {α:Sort u}{a b c:α}(h:a=b)(g:b=c):a=c:=h.trans g
theorem _root_.Eq.s.{u} {α:Sort u}{a b:α}(h:a=b):b=a:=h.symm
theorem _root_.Ne.s.{u} {α:Sort u}{a b:α}(h:a≠b):b≠a:=h.symm
theorem _root_.Iff.s{a b:Prop}(h:a↔b):b↔a:=h.symm
theorem _root_.Iff.t{a b c:Prop}(h:a↔b)(g:b↔c):a↔c:=h.trans g
theorem _root_.Go.RowKit.Below.t{a:Nat}{w u v:World}(h:Below a w u)(g:Below a u v):Below a w v:=h.trans g
theorem _root_.Go.RowKit.Below.m{a b:Nat}{w u:World}(h:Below a w u)(g:b≤a):Below b w u:=h.mono g
theorem _root_.Go.World.grownBy.t{w u v:World}{r:Option Nat}(h:w.grownBy u r)(g:u.grownBy v r):w.grownBy v r:=World.grownBy.trans h g
theorem _root_.Go.CallsIn.m{F:Fence}{n:Nat}{P:Program}{f:FuncId}{a:Array Value}{w:World}{R S:Ending→World→Prop}(h:CallsIn F n P f a w R)(g:∀ e w',R e w'→S e w'):CallsIn F n P f a w S:=h.mono g
theorem _root_.Go.Calls.m{P:Program}{f:FuncId}{a:Array Value}{w:World}{R S:Ending→World→Prop}(h:Calls P f a w R)(g:∀ e w',R e w'→S e w'):Calls P f a w S:=h.mono g
theorem qs(w:World)(a:Addr){u:Value}(h:w.cell? a=some u):a.block<w.heap.size:=World.block_lt_of_cell? w a h
theorem qt.{u} {α:Type u}{l:List α}{i:Nat}{a:α}:l.getD i a=l[i]?.getD a:=List.getD_eq_getElem?_getD
theorem qu(n:Nat):0+n=n:=Nat.zero_add n
theorem qv.{u} {α:Type u}{x y:List α}:(x++y).length=x.length+y.length:=List.length_append
theorem qw(n:Nat):0≤n:=Nat.zero_le n
theorem qx.{u} {α:Type u}{a:α}{x:List α}:(a::x).length=x.length+1:=List.length_cons
theorem qy.{u} {α:Type u}:([]:List α).length=0:=List.length_nil
theorem qz.{u} {α:Type u}{l:List α}(h:l.length=0):l=[]:=List.eq_nil_of_length_eq_zero h
theorem ja(b:Bool):(true&&b)=b:=Bool.true_and b
theorem jb{n m:Nat}(h:n<m):n≤m:=Nat.le_of_lt h
theorem jc.{u} {α:Type u}{i:Nat}{l:List α}(h:i<l.length):List.drop i l=l[i]::List.drop (i+1) l:=List.drop_eq_getElem_cons h
theorem jd{n m k:Nat}(h:n<m)(g:m≤k):n<k:=Nat.lt_of_lt_of_le h g
theorem je.{u} {α:Type u}{a:α}{i:Nat}{l:List α}:(a::l)[i+1]?=l[i]?:=List.getElem?_cons_succ
theorem jf(a b:Bool):((a&&b)=true)=(a=true∧b=true):=Bool.and_eq_true a b
theorem jg(w:World)(o:Obj)(a:Addr)(h:a.block<w.heap.size):(w.alloc o).cell? a=w.cell? a:=World.cell?_alloc_lt w o a h
theorem jh(w:World)(b:Nat)(e:TypeId)(s:Nat):w.ownsRow b e s (.slice none 0 0) 0 []:=World.ownsRow_nil w b e s
theorem ji.{u} {α:Type u}{i:Nat}{l:List α}(h:l.length≤i):List.drop i l=[]:=List.drop_of_length_le h
theorem jj{a:Int}(h:0≤a):∃ n:Nat,a=n:=Int.eq_ofNat_of_zero_le h
theorem jk{n m k:Nat}(h:n≤m)(g:m≤k):n≤k:=Nat.le_trans h g
theorem jl.{u} {α:Type u}{l:List α}{i:Nat}(h:l.length≤i):l[i]?=none:=List.getElem?_eq_none h
theorem jm(w:World)(r:Option Nat):w.grownBy w r:=World.grownBy.refl w r
end Go.Proofs.YtfpafnefpmmofaaGreatDoor
namespace Go.Proofs.YtfpafnefpmmofaaGreatDoor
open Go.RowKit Go.Proofs.Tryz
theorem next {w c d:ql} (h:BW w c) (k:BW c d):BW w d:=h.t (k.m h.size)
theorem K7 {k:IntKind} {a b:Int} {x y:Bool} (h:a=b) (g:x=y):Ending.returned (.tuple #[.int k a,.bool x])=.returned (.tuple #[.int k b,.bool y]):=by rw [h,g]
theorem yM {k:IntKind} {a b x y:Int} (h:a=b) (g:x=y):Ending.returned (.tuple #[.int k a,.int k x])=.returned (.tuple #[.int k b,.int k y]):=by rw [h,g]
theorem Af {k:IntKind} {a b:Int} (h:a=b):Ending.returned (.int k a)=.returned (.int k b):=by rw [h]
theorem Ab {a b:Bool} (h:a=b):Ending.returned (.bool a)=.returned (.bool b):=by rw [h]
theorem Gc {a b:ByteArray} (h:a=b):Ending.returned (.string a)=.returned (.string b):=by rw [h]
theorem D8 (l r:qn):(⟨l.toArray⟩++⟨r.toArray⟩:ByteArray)=⟨(l++r).toArray⟩:=by
 apply ByteArray.ext
 simp
theorem Ael (b:ByteArray):b=⟨b.data.toList.toArray⟩:=by cases b;simp
theorem M6 (l:qn) (a b:Nat):(⟨l.toArray⟩:ByteArray).extract a b=⟨((l.drop a).take (b - a)).toArray⟩:=by
 have h:=Lib.extract_data ⟨l.toArray⟩ a b;rw [Ael (ByteArray.extract ⟨l.toArray⟩ a b),h]
theorem Cu (l:qn):(⟨l.toArray⟩:ByteArray).size=l.length:=by simp [ByteArray.size]
theorem Fl (l:qn) (k:Nat) (h:k<l.length):l.getD k 0=(⟨l.toArray⟩:ByteArray)[k]'(by rw [Cu];exact h):=by
 rw [qt,List.getElem?_eq_getElem h]
 rfl
theorem Lj (c:UInt8):wrap64 ((c.toNat:Nat):Int)=(c.toNat:Int):=by
 have:=c.toNat_lt
 unfold wrap64;omega
def Ag (a b:Nat) (l:qn):Bool:=l.all λc=>decide (a<=c.toNat) && decide (c.toNat<=b)
theorem Ex (a b:Nat) (l:qn) (k:Nat) (h:k<l.length):Ag a b (l.drop k)=((decide (a<=(l.getD k 0).toNat) && decide ((l.getD k 0).toNat<=b)) && Ag a b (l.drop (k+1))):=by
 have e:l.getD k 0=l[k]:=by simp [h]
 rw [jc h,e]
 simp only [Ag,List.all_cons]
theorem Fo (a b:Nat) (l:qn):Ag a b (l.drop l.length)=true:=by rw [ji nL];rfl
theorem E6 {a b:Nat} {l:qn} (h:Ag a b l=true):∀ c ∈ l,a<=c.toNat/\c.toNat<=b:=by
 intro c d
 have:=List.all_eq_true.1 h c d
 simpa using this
theorem Md {a b:Nat} {l:qn} (h:∀ c ∈ l,a<=c.toNat/\c.toNat<=b):Ag a b l=true :=
 List.all_eq_true.2 λc d=>by simpa using h c d
theorem Lo {a b:Nat} {l:qn} (h:Ag a b l=true) {k:Nat} (hk:k<l.length):a<=(l.getD k 0).toNat/\(l.getD k 0).toNat<=b :=
 E6 h _ (by simp [hk])
def val (a:Nat) (l:qn):Nat:=l.foldl (λa c=>a*10+(c.toNat - 48)) a
theorem Vx (a:Nat) (c:UInt8) (l:qn):val a (c::l)=val (a*10+(c.toNat - 48)) l:=by simp only [val,List.foldl_cons]
theorem Wj (a:Nat) (l r:qn):val a (l++r)=val (val a l) r:=by simp [val]
theorem uZ (k:Nat) (l:qn):val 0 (List.replicate k 48++l)=val 0 l:=by
 induction k with
 | zero=>rfl
 | succ k ih=>rw [List.replicate_succ,List.cons_append,Vx];exact ih
theorem Rh (l:qn) (k:Nat) (h:k<l.length):l.take (k+1)=l.take k++[l.getD k 0]:=by
 rw [List.take_add_one,List.getElem?_eq_getElem h,qt,List.getElem?_eq_getElem h];rfl
theorem Ns (l:qn) (k:Nat) (h:k<l.length):val 0 (l.take (k+1))=val 0 (l.take k) * 10+((l.getD k 0).toNat - 48):=by
 rw [Rh l k h,Wj];rfl
theorem Hv (l:qn) (h:Ag 48 57 l=true):∀ k,k<=l.length->val 0 (l.take k)<10 ^ k:=by
 intro k
 induction k with
 | zero=>intro _;simp [val]
 | succ k ih =>
  intro hk
  have:=ih (by omega)
  have hb:=Lo h (k:=k) (by omega)
  rw [Ns l k (by omega),Nat.pow_succ]
  omega
def A9 (l:qn):Int:=if l.length<=18/\Ag 48 57 l=true then (val 0 l:Int) else -1
theorem Lw {l:qn} (h:18<l.length):A9 l = -1:=if_neg (by omega)
theorem O6 {l:qn} (h:Ag 48 57 l=false):A9 l = -1:=if_neg (by rw [h];simp)
theorem Fu {l:qn} (f:l.length<=18) (g:Ag 48 57 l=true):A9 l=(val 0 l:Int):=if_pos ⟨f,g⟩
theorem Ee (l:qn):-1<=A9 l/\A9 l<1000000000000000000:=by
 unfold A9
 split
 ·rename_i h
  have:=Hv l h.2 l.length nL
  rw [List.take_of_length_le nL] at this
  have:10 ^ l.length<=10 ^ 18:=Nat.pow_le_pow_right (by omega) h.1
  omega
 ·omega
end Go.Proofs.YtfpafnefpmmofaaGreatDoor
namespace Go.Proofs.YtfpafnefpmmofaaGreatDoor
open Go.Proofs.Tryz
abbrev Av:=Int×qn
def Fr:List Int:=[2,3,4,12,24,25,31,37,38,42,48,49,71,72,93]
def fK (n:Int):Int :=
 if n=3\/n=4\/n=12\/n=24\/n=49\/n=25\/n=71 then 1 else if n=2\/n=93 then 2
 else if n=37\/n=38\/n=42 then 3 else if n=31 then 4 else if n=48\/n=72 then 5 else 0
def fS (n:Int):Int :=
 if n=3\/n=38 then 6 else if n=4\/n=12\/n=37 then 12 else if n=24\/n=49 then 3 else if n=25 then 4 else if n=71 then 8
 else if n=2 then 19 else if n=93 then 11 else if n=42 then 15 else if n=31 then 23 else if n=48\/n=72 then 999 else 0
def Be (k s:Int) (d:qn):Bool :=
 if k=1 then decide ((d.length:Int)=s) && Ag 48 57 d
 else if k=2 then decide ((d.length:Int)<=s) && Ag 48 57 d
 else if k=3 then decide ((d.length:Int)=s) && Ag 32 126 d
 else if k=4\/k=5 then decide ((d.length:Int)<=s) && Ag 32 126 d
 else false
def Ay (n:Int) (d:qn):Bool:=Be (fK n) (fS n) d
theorem O7 {n:Int} (h:n ∉ Fr):n≠2/\n≠3/\n≠4/\n≠12/\n≠24/\n≠25/\n≠31/\n≠37/\n≠38/\n≠42/\n≠48/\n≠49/\n≠71/\n≠72/\n≠93:=by
 simpa [Fr] using h
theorem gV {n:Int} (h:n ∉ Fr):fK n=0:=by
 obtain ⟨o,q,t,u,v,w,x,y,z,a,b,c,i,j,l⟩:=O7 h;unfold fK;simp [*]
theorem Ah9 {n:Int} (h:n ∉ Fr):fS n=0:=by
 obtain ⟨o,q,t,u,v,w,x,y,z,a,b,c,i,j,l⟩:=O7 h;unfold fS;simp [*]
theorem Yg {n:Int} (h:n ∈ Fr):n=2\/n=3\/n=4\/n=12\/n=24\/n=25\/n=31\/n=37\/n=38\/n=42\/n=48\/n=49\/n=71\/n=72\/n=93:=by
 simpa [Fr] using h
theorem Vj {n:Int} (h:n ∈ Fr):(fK n=1\/fK n=2\/fK n=3\/fK n=4\/fK n=5)/\0<=fS n/\fS n<=999/\2<=n/\n<=93/\(fK n=1->fS n<=12)/\(fK n=2->fS n<=19)/\(fK n=3->fS n<=15)/\(fK n=4->fS n=23)/\(fK n=5->fS n=999):=by
 rcases Yg h with rfl|rfl|rfl|rfl|rfl|rfl|rfl|rfl|rfl|rfl|rfl|rfl|rfl|rfl|rfl <;> decide
theorem eW {n:Int} {d:qn} (h:Ay n d=true):n ∈ Fr:=by
 by_cases hn:n ∈ Fr
 ·exact hn
 ·simp [Ay,Be,gV hn] at h
theorem Xk {n:Int} {d:qn} (h:n ∉ Fr):Ay n d=false:=by simp [Ay,Be,gV h]
def Xb (p:Int):List Av->Bool
 | []=>true
 | f::r=>(Ay f.1 f.2 && decide (p<f.1)) && Xb f.1 r
def Dn (fs:List Av) (k:Nat):Av:=fs.getD k (0,[])
theorem fZ (fs:List Av) (k:Nat) (p:Int) (h:k<fs.length):Xb p (fs.drop k)=((Ay (Dn fs k).1 (Dn fs k).2 && decide (p<(Dn fs k).1)) && Xb (Dn fs k).1 (fs.drop (k+1))):=by
 have e:Dn fs k=fs[k]:=by simp [Dn,h]
 rw [jc h,e];rfl
def Kn (fs:List Av) (k:Nat):Int:=if k=0 then 1 else (Dn fs (k - 1)).1
def Cx (kd:Int) (fs:List Av):Bool:=decide (0<=kd/\kd<=9999) && Xb 1 fs
theorem pT (p:Int) (fs:List Av):Xb p (fs.drop fs.length)=true:=by rw [ji nL];rfl
theorem Aej {fs:List Av} : ∀ {p:Int},Xb p fs=true->∀ f ∈ fs,Ay f.1 f.2=true/\p<f.1:=by
 induction fs with
 | nil=>intro p _ f m;cases m
 | cons g r ih =>
  intro p h f m
  simp only [Xb,jf,decide_eq_true_eq] at h
  rcases List.mem_cons.1 m with rfl|A
  ·exact h.1
  ·have:=ih h.2 f A
   exact ⟨this.1,by omega⟩
end Go.Proofs.YtfpafnefpmmofaaGreatDoor
namespace Go.Proofs.YtfpafnefpmmofaaGreatDoor
open Go.RowKit Go.Proofs.Tryz
def iJ (l:qn) (left:Int):Int:=if left - (l.length:Int)<0 then -1 else left - (l.length:Int)
theorem T0 (n:Int) (l:qn) (left:Int) (w:ql) (b:left<=1048576/\0<=left) (hm:l.length<=9223372036854775807) :
  qi 87 #[.agg #[qzI n,qd l],qzI left] w λe w'=>e=.returned (qzI (iJ l left))/\BW w w':=by
 by_cases h:left - (l.length:Int)<0
 ·have a:qj (iJ l left = -1):=if_pos h
  go_enter func87,ntmps87
  go_wp2;go_ret;exact ⟨Af a.o.s,bR.alloc nL _⟩
 ·have a:qj (iJ l left=left - (l.length:Int)):=if_neg h
  go_enter func87,ntmps87
  go_wp2;go_ret;exact ⟨Af a.o.s,bR.alloc nL _⟩
theorem eS (n:Int) (l:qn) (w:ql) :
  qi 102 #[.agg #[qzI n,qd l]] w λe w'=>e=.returned (.agg #[qzI n,qd l])/\BW w w':=by
 go_enter func102,ntmps102
 go_wp2
 go_returns
 refine ⟨rfl,?_⟩
 go_grown
theorem Pr {w u:ql} {x y:Value} {t:TypeId} (b:Below (w.alloc (.cells #[x,y] t)).heap.size (w.alloc (.cells #[x,y] t)) u) :
  u.cell? ⟨w.heap.size,0,none⟩=some x/\u.cell? ⟨w.heap.size,1,none⟩=some y/\BW w u/\w.heap.size<u.heap.size :=
 ⟨(b.cell (p:=⟨w.heap.size,0,none⟩) (by simp)).t (by simp),(b.cell (p:=⟨w.heap.size,1,none⟩) (by simp)).t (by simp),
  (bR.alloc nL _).t (b.m (by simp)),by have:=b.size;simp at this;omega⟩
theorem Xh {w u:ql} {b:Nat} {x y:Value} (a:w.cell? (qzA b 0)=some x) (d:w.cell? (qzA b 1)=some y) (k:BW w u) :
  u.cell? (qzA b 0)=some x/\u.cell? (qzA b 1)=some y :=
 have hb:b<w.heap.size:=qs w _ a
 ⟨(k.c b 0 hb).t a,(k.c b 1 hb).t d⟩
end Go.Proofs.YtfpafnefpmmofaaGreatDoor
namespace Go.Proofs
open Go.Shelf
def Tryz.lays156_ren:Go.Shelf.Ren:=⟨fun | 156=>131 | 165=>172 | 166=>173 | 169=>174 | 240=>212 | 241=>213 | 276=>248 | 277=>249 | n=>n,fun | 31=>28 | 9=>9 | 3=>3 | 4=>4 | 0=>0 | 20=>20 | 72=>233 | 76=>235 | 70=>231 | 37=>166 | 75=>160 | 127=>227 | 164=>208 | 5=>5 | 80=>237 | n=>n,fun | n=>n⟩
theorem Tryz.lays156:Go.Proofs.Lays.n156 Tryz.prog Tryz.lays156_ren:={
 mixed:=by kernel_rfl
 f156:=Tryz.func131.trans (congrArg some (by kernel_rfl))
 f165:=Tryz.func172.trans (congrArg some (by kernel_rfl))
 f166:=Tryz.func173.trans (congrArg some (by kernel_rfl))
 f169:=Tryz.func174.trans (congrArg some (by kernel_rfl))
 f240:=Tryz.func212.trans (congrArg some (by kernel_rfl))
 f241:=Tryz.func213.trans (congrArg some (by kernel_rfl))
 f276:=Tryz.func248.trans (congrArg some (by kernel_rfl))
 f277:=Tryz.func249.trans (congrArg some (by kernel_rfl))
 t0:=Tryz.underlying0
 a0:=Tryz.isAgg0
 z0:=Tryz.sizeOf0
 v0:=Tryz.zeroValue0
 t3:=Tryz.underlying3
 a3:=Tryz.isAgg3
 z3:=Tryz.sizeOf3
 v3:=Tryz.zeroValue3
 t4:=Tryz.underlying4
 a4:=Tryz.isAgg4
 z4:=Tryz.sizeOf4
 v4:=Tryz.zeroValue4
 t9:=Tryz.underlying9
 a9:=Tryz.isAgg9
 z9:=Tryz.sizeOf9
 v9:=Tryz.zeroValue9
 t20:=Tryz.underlying20
 a20:=Tryz.isAgg20
 z20:=Tryz.sizeOf20
 v20:=Tryz.zeroValue20
 t31:=Tryz.underlying28
 a31:=Tryz.isAgg28
 z31:=Tryz.sizeOf28
 v31:=Tryz.zeroValue28
 t37:=Tryz.underlying166
 a37:=Tryz.isAgg166
 z37:=Tryz.sizeOf166
 v37:=Tryz.zeroValue166
 t70:=Tryz.underlying231
 a70:=Tryz.isAgg231
 z70:=Tryz.sizeOf231
 v70:=Tryz.zeroValue231
 t72:=Tryz.underlying233
 a72:=Tryz.isAgg233
 z72:=Tryz.sizeOf233
 v72:=Tryz.zeroValue233
 t75:=Tryz.underlying160
 a75:=Tryz.isAgg160
 z75:=Tryz.sizeOf160
 v75:=Tryz.zeroValue160
 t76:=Tryz.underlying235
 a76:=Tryz.isAgg235
 z76:=Tryz.sizeOf235
 v76:=Tryz.zeroValue235
 t127:=Tryz.underlying227
 a127:=Tryz.isAgg227
 z127:=Tryz.sizeOf227
 v127:=Tryz.zeroValue227
 t164:=Tryz.underlying208
 a164:=Tryz.isAgg208
 z164:=Tryz.sizeOf208
 v164:=Tryz.zeroValue208 }
theorem Tryz.Builder_Extra_156:Builder.Extra Tryz.prog Tryz.lays156_ren:={
 sizeBuilder:=by kernel_rfl
 liesBuilder:=by kernel_rfl
 t5:=Tryz.underlying5
 a5:=Tryz.isAgg5
 z5:=Tryz.sizeOf5
 v5:=Tryz.zeroValue5
 infoByte:=by kernel_rfl
 cellsByte:=by kernel_rfl
 sizeByte:=by kernel_rfl
 neB5:=by decide }
open Go.RowKit in
theorem Tryz.strings_Join (bk o c:Nat) (xs:List ByteArray) (sep:ByteArray) (w:World) (hcells:∀ (j:Nat) x,xs[j]?=some x→w.cell? ⟨bk,o+j,none⟩=some (.string x)) (hbk:bk<w.heap.size) (hN:xs.length≤140737488355328) (hcap:xs.length≤c) (hlen:(Lib.join (xs.map (·.data.toList)) sep.data.toList).length≤140737488355328) :
  Calls Tryz.prog 131 #[.slice (some ⟨bk,o,none⟩) xs.length c,.string sep] w fun e w'=>e=.returned (.string ⟨(Lib.join (xs.map (·.data.toList)) sep.data.toList).toArray⟩)∧Below w.heap.size w w':=Any.strings_Join Tryz.lays156 Tryz.Builder_Extra_156 bk o c xs sep w hcells hbk hN hcap hlen
def Tryz.lays161_ren:Go.Shelf.Ren:=⟨fun | 161=>238 | 231=>270 | 227=>271 | 233=>272 | 235=>273 | 228=>305 | 197=>264 | 151=>306 | 260=>300 | 152=>330 | 137=>351 | 119=>352 | 224=>303 | 225=>302 | 217=>301 | 266=>328 | n=>n,fun | 9=>9 | 4=>4 | 3=>3 | 5=>5 | 117=>331 | 116=>330 | 0=>0 | 124=>334 | 105=>324 | 21=>21 | 119=>365 | 46=>251 | 139=>368 | 138=>367 | n=>n,fun | 3=>11 | 4=>12 | n=>n⟩
theorem Tryz.lays161:Go.Proofs.Lays.n161 Tryz.prog Tryz.lays161_ren:={
 mixed:=by kernel_rfl
 f119:=Tryz.func352.trans (congrArg some (by kernel_rfl))
 f137:=Tryz.func351.trans (congrArg some (by kernel_rfl))
 f151:=Tryz.func306.trans (congrArg some (by kernel_rfl))
 f152:=Tryz.func330.trans (congrArg some (by kernel_rfl))
 f161:=Tryz.func238.trans (congrArg some (by kernel_rfl))
 f197:=Tryz.func264.trans (congrArg some (by kernel_rfl))
 f217:=Tryz.func301.trans (congrArg some (by kernel_rfl))
 f224:=Tryz.func303.trans (congrArg some (by kernel_rfl))
 f225:=Tryz.func302.trans (congrArg some (by kernel_rfl))
 f227:=Tryz.func271.trans (congrArg some (by kernel_rfl))
 f228:=Tryz.func305.trans (congrArg some (by kernel_rfl))
 f231:=Tryz.func270.trans (congrArg some (by kernel_rfl))
 f233:=Tryz.func272.trans (congrArg some (by kernel_rfl))
 f235:=Tryz.func273.trans (congrArg some (by kernel_rfl))
 f260:=Tryz.func300.trans (congrArg some (by kernel_rfl))
 f266:=Tryz.func328.trans (congrArg some (by kernel_rfl))
 t0:=Tryz.underlying0
 a0:=Tryz.isAgg0
 z0:=Tryz.sizeOf0
 v0:=Tryz.zeroValue0
 t3:=Tryz.underlying3
 a3:=Tryz.isAgg3
 z3:=Tryz.sizeOf3
 v3:=Tryz.zeroValue3
 t4:=Tryz.underlying4
 a4:=Tryz.isAgg4
 z4:=Tryz.sizeOf4
 v4:=Tryz.zeroValue4
 t5:=Tryz.underlying5
 a5:=Tryz.isAgg5
 z5:=Tryz.sizeOf5
 v5:=Tryz.zeroValue5
 t9:=Tryz.underlying9
 a9:=Tryz.isAgg9
 z9:=Tryz.sizeOf9
 v9:=Tryz.zeroValue9
 t21:=Tryz.underlying21
 a21:=Tryz.isAgg21
 z21:=Tryz.sizeOf21
 v21:=Tryz.zeroValue21
 t46:=Tryz.underlying251
 a46:=Tryz.isAgg251
 z46:=Tryz.sizeOf251
 v46:=Tryz.zeroValue251
 t105:=Tryz.underlying324
 a105:=Tryz.isAgg324
 z105:=Tryz.sizeOf324
 v105:=Tryz.zeroValue324
 t116:=Tryz.underlying330
 a116:=Tryz.isAgg330
 z116:=Tryz.sizeOf330
 t117:=Tryz.underlying331
 a117:=Tryz.isAgg331
 z117:=Tryz.sizeOf331
 v117:=Tryz.zeroValue331
 t119:=Tryz.underlying365
 a119:=Tryz.isAgg365
 z119:=Tryz.sizeOf365
 t124:=Tryz.underlying334
 a124:=Tryz.isAgg334
 z124:=Tryz.sizeOf334
 v124:=Tryz.zeroValue334
 t138:=Tryz.underlying367
 a138:=Tryz.isAgg367
 z138:=Tryz.sizeOf367
 v138:=Tryz.zeroValue367
 t139:=Tryz.underlying368
 a139:=Tryz.isAgg368
 z139:=Tryz.sizeOf368
 v139:=Tryz.zeroValue368
 g3:=by kernel_rfl
 g4:=by kernel_rfl }
open Go.RowKit in
theorem Tryz.strings_TrimLeft_one (s:ByteArray) (c:UInt8) (hc:c.toNat<128) (w:World) :
  Calls Tryz.prog 238 #[.string s,.string ⟨#[c]⟩] w fun e w'=>e=.returned (.string ⟨(Lib.trimLeftB s.data.toList c).toArray⟩)∧w'=w:=Any.strings_TrimLeft_one Tryz.lays161 s c hc w
def Tryz.laysM171_ren:Go.Shelf.Ren:=⟨fun | 171=>240 | 243=>274 | 246=>307 | 283=>331 | 284=>332 | 285=>333 | 286=>334 | 129=>354 | 317=>353 | 318=>355 | 319=>356 | 320=>357 | 337=>367 | 338=>368 | n=>n,fun | 3=>3 | 9=>9 | 2=>2 | 4=>4 | 171=>372 | 0=>0 | 53=>373 | 37=>166 | 5=>5 | 173=>376 | 212=>391 | 51=>122 | 20=>20 | 213=>392 | 46=>251 | 232=>412 | 233=>413 | n=>n,fun | 17=>13 | 18=>15 | 19=>16 | n=>n⟩
theorem Tryz.laysM171:Go.Proofs.LaysM.n171 Tryz.prog Tryz.laysM171_ren:={
 mixed:=by kernel_rfl
 f129:=Tryz.func354.trans (congrArg some (by kernel_rfl))
 f171:=Tryz.func240.trans (congrArg some (by kernel_rfl))
 f243:=Tryz.func274.trans (congrArg some (by kernel_rfl))
 f246:=Tryz.func307.trans (congrArg some (by kernel_rfl))
 f283:=Tryz.func331.trans (congrArg some (by kernel_rfl))
 f284:=Tryz.func332.trans (congrArg some (by kernel_rfl))
 f285:=Tryz.func333.trans (congrArg some (by kernel_rfl))
 f286:=Tryz.func334.trans (congrArg some (by kernel_rfl))
 f317:=Tryz.func353.trans (congrArg some (by kernel_rfl))
 f318:=Tryz.func355.trans (congrArg some (by kernel_rfl))
 f319:=Tryz.func356.trans (congrArg some (by kernel_rfl))
 f320:=Tryz.func357.trans (congrArg some (by kernel_rfl))
 f337:=Tryz.func367.trans (congrArg some (by kernel_rfl))
 f338:=Tryz.func368.trans (congrArg some (by kernel_rfl))
 t0:=Tryz.underlying0
 a0:=Tryz.isAgg0
 z0:=Tryz.sizeOf0
 v0:=Tryz.zeroValue0
 t2:=Tryz.underlying2
 a2:=Tryz.isAgg2
 z2:=Tryz.sizeOf2
 v2:=Tryz.zeroValue2
 t3:=Tryz.underlying3
 a3:=Tryz.isAgg3
 z3:=Tryz.sizeOf3
 v3:=Tryz.zeroValue3
 t4:=Tryz.underlying4
 a4:=Tryz.isAgg4
 z4:=Tryz.sizeOf4
 v4:=Tryz.zeroValue4
 t5:=Tryz.underlying5
 a5:=Tryz.isAgg5
 z5:=Tryz.sizeOf5
 v5:=Tryz.zeroValue5
 t9:=Tryz.underlying9
 a9:=Tryz.isAgg9
 z9:=Tryz.sizeOf9
 v9:=Tryz.zeroValue9
 t20:=Tryz.underlying20
 a20:=Tryz.isAgg20
 z20:=Tryz.sizeOf20
 v20:=Tryz.zeroValue20
 t37:=Tryz.underlying166
 a37:=Tryz.isAgg166
 z37:=Tryz.sizeOf166
 v37:=Tryz.zeroValue166
 t46:=Tryz.underlying251
 a46:=Tryz.isAgg251
 z46:=Tryz.sizeOf251
 v46:=Tryz.zeroValue251
 t51:=Tryz.underlying122
 a51:=Tryz.isAgg122
 z51:=Tryz.sizeOf122
 v51:=Tryz.zeroValue122
 t53:=Tryz.underlying373
 a53:=Tryz.isAgg373
 z53:=Tryz.sizeOf373
 v53:=Tryz.zeroValue373
 t171:=Tryz.underlying372
 a171:=Tryz.isAgg372
 z171:=Tryz.sizeOf372
 v171:=Tryz.zeroValue372
 t173:=Tryz.underlying376
 a173:=Tryz.isAgg376
 z173:=Tryz.sizeOf376
 v173:=Tryz.zeroValue376
 t212:=Tryz.underlying391
 a212:=Tryz.isAgg391
 z212:=Tryz.sizeOf391
 v212:=Tryz.zeroValue391
 t213:=Tryz.underlying392
 a213:=Tryz.isAgg392
 z213:=Tryz.sizeOf392
 t232:=Tryz.underlying412
 a232:=Tryz.isAgg412
 z232:=Tryz.sizeOf412
 v232:=Tryz.zeroValue412
 t233:=Tryz.underlying413
 a233:=Tryz.isAgg413
 z233:=Tryz.sizeOf413
 v233:=Tryz.zeroValue413
 g17:=by kernel_rfl
 g18:=by kernel_rfl
 g19:=by kernel_rfl
 i0:=by kernel_rfl
 i2:=by kernel_rfl
 i3:=by kernel_rfl
 i4:=by kernel_rfl
 i5:=by kernel_rfl
 i9:=by kernel_rfl
 i20:=by kernel_rfl
 i37:=by kernel_rfl
 i46:=by kernel_rfl
 i51:=by kernel_rfl
 i53:=by kernel_rfl
 i171:=by kernel_rfl
 i173:=by kernel_rfl
 i212:=by kernel_rfl
 i232:=by kernel_rfl
 i233:=by kernel_rfl
 m17:=by kernel_rfl
 m18:=by kernel_rfl
 m19:=by kernel_rfl }
open Go.RowKit Go.Sort Go.Lib in
theorem Tryz.strconv_Itoa (n : Int) (h0 : -9223372036854775808 ≤ n) (h1 : n ≤ 9223372036854775807) (w : World) (htab : Lib.TabIs Tryz.prog w "internal/strconv.uint64pow10" .u64 Lib.pow10Tab) :
  Calls Tryz.prog 240 #[.int .i64 n] w fun e w'=>e=.returned (.string ⟨(Lib.itoa n).toArray⟩)∧∃ k os,w'=grow (w.drewN k) os:=Any.strconv_Itoa Tryz.laysM171 n h0 h1 w htab
def Tryz.laysM316_ren:Go.Shelf.Ren:=⟨fun | 316=>126 | n=>n,fun | 9=>9 | 3=>3 | 4=>4 | 37=>166 | 0=>0 | 127=>227 | 5=>5 | n=>n,fun | n=>n⟩
theorem Tryz.laysM316:Go.Proofs.LaysM.n316 Tryz.prog Tryz.laysM316_ren:={
 mixed:=by kernel_rfl
 f316:=Tryz.func126.trans (congrArg some (by kernel_rfl))
 t0:=Tryz.underlying0
 a0:=Tryz.isAgg0
 z0:=Tryz.sizeOf0
 v0:=Tryz.zeroValue0
 t3:=Tryz.underlying3
 a3:=Tryz.isAgg3
 z3:=Tryz.sizeOf3
 v3:=Tryz.zeroValue3
 t4:=Tryz.underlying4
 a4:=Tryz.isAgg4
 z4:=Tryz.sizeOf4
 v4:=Tryz.zeroValue4
 t9:=Tryz.underlying9
 a9:=Tryz.isAgg9
 z9:=Tryz.sizeOf9
 v9:=Tryz.zeroValue9
 t37:=Tryz.underlying166
 a37:=Tryz.isAgg166
 z37:=Tryz.sizeOf166
 v37:=Tryz.zeroValue166
 t127:=Tryz.underlying227
 a127:=Tryz.isAgg227
 z127:=Tryz.sizeOf227
 v127:=Tryz.zeroValue227
 t5:=Tryz.underlying5
 a5:=Tryz.isAgg5
 z5:=Tryz.sizeOf5
 v5:=Tryz.zeroValue5
 i0:=by kernel_rfl
 i3:=by kernel_rfl
 i4:=by kernel_rfl
 i5:=by kernel_rfl
 i9:=by kernel_rfl
 i37:=by kernel_rfl
 i127:=by kernel_rfl }
open Go.RowKit in
theorem Tryz.stringslite_Clone (s:ByteArray) (w:World) (hlim:s.size≤281474976710656) :
  Calls Tryz.prog 126 #[.string s] w fun e w'=>e=.returned (.string s)∧Below w.heap.size w w':=Any.stringslite_Clone Tryz.laysM316 s w hlim
def Tryz.lays144_ren:Go.Shelf.Ren:=⟨fun | 144=>269 | 143=>226 | 219=>266 | 217=>301 | 225=>302 | 224=>303 | 267=>304 | 266=>328 | 314=>329 | n=>n,fun | 9=>9 | 4=>4 | 3=>3 | 5=>5 | 46=>251 | 146=>369 | 51=>122 | n=>n,fun | 1=>10 | n=>n⟩
theorem Tryz.lays144:Go.Proofs.Lays.n144 Tryz.prog Tryz.lays144_ren:={
 mixed:=by kernel_rfl
 f143:=Tryz.func226.trans (congrArg some (by kernel_rfl))
 f144:=Tryz.func269.trans (congrArg some (by kernel_rfl))
 f217:=Tryz.func301.trans (congrArg some (by kernel_rfl))
 f219:=Tryz.func266.trans (congrArg some (by kernel_rfl))
 f224:=Tryz.func303.trans (congrArg some (by kernel_rfl))
 f225:=Tryz.func302.trans (congrArg some (by kernel_rfl))
 f266:=Tryz.func328.trans (congrArg some (by kernel_rfl))
 f267:=Tryz.func304.trans (congrArg some (by kernel_rfl))
 f314:=Tryz.func329.trans (congrArg some (by kernel_rfl))
 t3:=Tryz.underlying3
 a3:=Tryz.isAgg3
 z3:=Tryz.sizeOf3
 v3:=Tryz.zeroValue3
 t4:=Tryz.underlying4
 a4:=Tryz.isAgg4
 z4:=Tryz.sizeOf4
 v4:=Tryz.zeroValue4
 t5:=Tryz.underlying5
 a5:=Tryz.isAgg5
 z5:=Tryz.sizeOf5
 v5:=Tryz.zeroValue5
 t9:=Tryz.underlying9
 a9:=Tryz.isAgg9
 z9:=Tryz.sizeOf9
 v9:=Tryz.zeroValue9
 t46:=Tryz.underlying251
 a46:=Tryz.isAgg251
 z46:=Tryz.sizeOf251
 v46:=Tryz.zeroValue251
 t51:=Tryz.underlying122
 a51:=Tryz.isAgg122
 z51:=Tryz.sizeOf122
 v51:=Tryz.zeroValue122
 t146:=Tryz.underlying369
 a146:=Tryz.isAgg369
 z146:=Tryz.sizeOf369
 v146:=Tryz.zeroValue369
 g1:=by kernel_rfl }
open Go.RowKit Go.Lib in
theorem Tryz.strings_Contains_one (s:ByteArray) (c:UInt8) (w:World) :
  Calls Tryz.prog 269 #[.string s,.string ⟨#[c]⟩] w fun e w'=>e=.returned (.bool (decide (0≤Lib.indexByte s.data.toList c)))∧w'=w:=Any.strings_Contains_one Tryz.lays144 s c w
def Tryz.lays146_ren:Go.Shelf.Ren:=⟨fun | 146=>134 | 221=>179 | 268=>224 | 138=>225 | 143=>226 | 195=>263 | 197=>264 | 218=>265 | 219=>266 | 260=>300 | 217=>301 | 225=>302 | 224=>303 | 267=>304 | 266=>328 | 314=>329 | n=>n,fun | 9=>9 | 31=>28 | 3=>3 | 4=>4 | 0=>0 | 105=>324 | 21=>21 | 5=>5 | 46=>251 | 119=>365 | 139=>368 | 138=>367 | 146=>369 | 51=>122 | n=>n,fun | 1=>10 | 3=>11 | 4=>12 | n=>n⟩
theorem Tryz.lays146:Go.Proofs.Lays.n146 Tryz.prog Tryz.lays146_ren:={
 mixed:=by kernel_rfl
 f138:=Tryz.func225.trans (congrArg some (by kernel_rfl))
 f143:=Tryz.func226.trans (congrArg some (by kernel_rfl))
 f146:=Tryz.func134.trans (congrArg some (by kernel_rfl))
 f195:=Tryz.func263.trans (congrArg some (by kernel_rfl))
 f197:=Tryz.func264.trans (congrArg some (by kernel_rfl))
 f217:=Tryz.func301.trans (congrArg some (by kernel_rfl))
 f218:=Tryz.func265.trans (congrArg some (by kernel_rfl))
 f219:=Tryz.func266.trans (congrArg some (by kernel_rfl))
 f221:=Tryz.func179.trans (congrArg some (by kernel_rfl))
 f224:=Tryz.func303.trans (congrArg some (by kernel_rfl))
 f225:=Tryz.func302.trans (congrArg some (by kernel_rfl))
 f260:=Tryz.func300.trans (congrArg some (by kernel_rfl))
 f266:=Tryz.func328.trans (congrArg some (by kernel_rfl))
 f267:=Tryz.func304.trans (congrArg some (by kernel_rfl))
 f268:=Tryz.func224.trans (congrArg some (by kernel_rfl))
 f314:=Tryz.func329.trans (congrArg some (by kernel_rfl))
 t0:=Tryz.underlying0
 a0:=Tryz.isAgg0
 z0:=Tryz.sizeOf0
 v0:=Tryz.zeroValue0
 t3:=Tryz.underlying3
 a3:=Tryz.isAgg3
 z3:=Tryz.sizeOf3
 v3:=Tryz.zeroValue3
 t4:=Tryz.underlying4
 a4:=Tryz.isAgg4
 z4:=Tryz.sizeOf4
 v4:=Tryz.zeroValue4
 t5:=Tryz.underlying5
 a5:=Tryz.isAgg5
 z5:=Tryz.sizeOf5
 v5:=Tryz.zeroValue5
 t9:=Tryz.underlying9
 a9:=Tryz.isAgg9
 z9:=Tryz.sizeOf9
 v9:=Tryz.zeroValue9
 t21:=Tryz.underlying21
 a21:=Tryz.isAgg21
 z21:=Tryz.sizeOf21
 v21:=Tryz.zeroValue21
 t31:=Tryz.underlying28
 a31:=Tryz.isAgg28
 z31:=Tryz.sizeOf28
 v31:=Tryz.zeroValue28
 t46:=Tryz.underlying251
 a46:=Tryz.isAgg251
 z46:=Tryz.sizeOf251
 v46:=Tryz.zeroValue251
 t51:=Tryz.underlying122
 a51:=Tryz.isAgg122
 z51:=Tryz.sizeOf122
 v51:=Tryz.zeroValue122
 t105:=Tryz.underlying324
 a105:=Tryz.isAgg324
 z105:=Tryz.sizeOf324
 v105:=Tryz.zeroValue324
 t119:=Tryz.underlying365
 a119:=Tryz.isAgg365
 z119:=Tryz.sizeOf365
 t138:=Tryz.underlying367
 a138:=Tryz.isAgg367
 z138:=Tryz.sizeOf367
 v138:=Tryz.zeroValue367
 t139:=Tryz.underlying368
 a139:=Tryz.isAgg368
 z139:=Tryz.sizeOf368
 v139:=Tryz.zeroValue368
 t146:=Tryz.underlying369
 a146:=Tryz.isAgg369
 z146:=Tryz.sizeOf369
 v146:=Tryz.zeroValue369
 g1:=by kernel_rfl
 g3:=by kernel_rfl
 g4:=by kernel_rfl }
open Go.RowKit Go.Lib in
theorem Tryz.strings_Split (s sep:ByteArray) (m:Int) (w:World) (hs:s.size<4294967281) (hm:w.cell? ⟨10,0,none⟩=some (.int .i64 m)) (h1:1≤sep.size) :
  Calls Tryz.prog 134 #[.string s,.string sep] w fun e w' =>
   e=.returned (.slice (some ⟨w.heap.size,0,none⟩) (Lib.countB s sep+1) (Lib.countB s sep+1))∧w'=w.alloc (.cells ((Lib.splitB sep 0 (Lib.countB s sep) s).map Value.string).toArray 9):=Any.strings_Split Tryz.lays146 (by kernel_rfl) s sep m w hs hm h1
def Tryz.lays105_ren:Go.Shelf.Ren:=⟨fun | 105=>308 | 212=>335 | 99=>336 | 165=>172 | 166=>173 | 170=>337 | 169=>174 | 263=>358 | 264=>359 | 206=>360 | 240=>212 | 241=>213 | 276=>248 | 277=>249 | n=>n,fun | 9=>9 | 3=>3 | 4=>4 | 20=>20 | 0=>0 | 46=>251 | 109=>378 | 5=>5 | 72=>233 | 76=>235 | 51=>122 | 146=>369 | 53=>373 | 148=>395 | 70=>231 | 37=>166 | 75=>160 | 127=>227 | 164=>208 | 80=>237 | n=>n,fun | n=>n⟩
theorem Tryz.lays105:Go.Proofs.Lays.n105 Tryz.prog Tryz.lays105_ren:={
 mixed:=by kernel_rfl
 f99:=Tryz.func336.trans (congrArg some (by kernel_rfl))
 f105:=Tryz.func308.trans (congrArg some (by kernel_rfl))
 f165:=Tryz.func172.trans (congrArg some (by kernel_rfl))
 f166:=Tryz.func173.trans (congrArg some (by kernel_rfl))
 f169:=Tryz.func174.trans (congrArg some (by kernel_rfl))
 f170:=Tryz.func337.trans (congrArg some (by kernel_rfl))
 f206:=Tryz.func360.trans (congrArg some (by kernel_rfl))
 f212:=Tryz.func335.trans (congrArg some (by kernel_rfl))
 f240:=Tryz.func212.trans (congrArg some (by kernel_rfl))
 f241:=Tryz.func213.trans (congrArg some (by kernel_rfl))
 f263:=Tryz.func358.trans (congrArg some (by kernel_rfl))
 f264:=Tryz.func359.trans (congrArg some (by kernel_rfl))
 f276:=Tryz.func248.trans (congrArg some (by kernel_rfl))
 f277:=Tryz.func249.trans (congrArg some (by kernel_rfl))
 t0:=Tryz.underlying0
 a0:=Tryz.isAgg0
 z0:=Tryz.sizeOf0
 v0:=Tryz.zeroValue0
 t3:=Tryz.underlying3
 a3:=Tryz.isAgg3
 z3:=Tryz.sizeOf3
 v3:=Tryz.zeroValue3
 t4:=Tryz.underlying4
 a4:=Tryz.isAgg4
 z4:=Tryz.sizeOf4
 v4:=Tryz.zeroValue4
 t5:=Tryz.underlying5
 a5:=Tryz.isAgg5
 z5:=Tryz.sizeOf5
 v5:=Tryz.zeroValue5
 t9:=Tryz.underlying9
 a9:=Tryz.isAgg9
 z9:=Tryz.sizeOf9
 v9:=Tryz.zeroValue9
 t20:=Tryz.underlying20
 a20:=Tryz.isAgg20
 z20:=Tryz.sizeOf20
 v20:=Tryz.zeroValue20
 t37:=Tryz.underlying166
 a37:=Tryz.isAgg166
 z37:=Tryz.sizeOf166
 v37:=Tryz.zeroValue166
 t46:=Tryz.underlying251
 a46:=Tryz.isAgg251
 z46:=Tryz.sizeOf251
 v46:=Tryz.zeroValue251
 t51:=Tryz.underlying122
 a51:=Tryz.isAgg122
 z51:=Tryz.sizeOf122
 v51:=Tryz.zeroValue122
 t53:=Tryz.underlying373
 a53:=Tryz.isAgg373
 z53:=Tryz.sizeOf373
 v53:=Tryz.zeroValue373
 t70:=Tryz.underlying231
 a70:=Tryz.isAgg231
 z70:=Tryz.sizeOf231
 v70:=Tryz.zeroValue231
 t72:=Tryz.underlying233
 a72:=Tryz.isAgg233
 z72:=Tryz.sizeOf233
 v72:=Tryz.zeroValue233
 t75:=Tryz.underlying160
 a75:=Tryz.isAgg160
 z75:=Tryz.sizeOf160
 v75:=Tryz.zeroValue160
 t76:=Tryz.underlying235
 a76:=Tryz.isAgg235
 z76:=Tryz.sizeOf235
 v76:=Tryz.zeroValue235
 t109:=Tryz.underlying378
 a109:=Tryz.isAgg378
 z109:=Tryz.sizeOf378
 v109:=Tryz.zeroValue378
 t127:=Tryz.underlying227
 a127:=Tryz.isAgg227
 z127:=Tryz.sizeOf227
 v127:=Tryz.zeroValue227
 t146:=Tryz.underlying369
 a146:=Tryz.isAgg369
 z146:=Tryz.sizeOf369
 v146:=Tryz.zeroValue369
 t148:=Tryz.underlying395
 a148:=Tryz.isAgg395
 z148:=Tryz.sizeOf395
 v148:=Tryz.zeroValue395
 t164:=Tryz.underlying208
 a164:=Tryz.isAgg208
 z164:=Tryz.sizeOf208
 v164:=Tryz.zeroValue208 }
theorem Tryz.Builder_Extra_105:Builder.Extra Tryz.prog Tryz.lays105_ren:={
 sizeBuilder:=by kernel_rfl
 liesBuilder:=by kernel_rfl
 t5:=Tryz.underlying5
 a5:=Tryz.isAgg5
 z5:=Tryz.sizeOf5
 v5:=Tryz.zeroValue5
 infoByte:=by kernel_rfl
 cellsByte:=by kernel_rfl
 sizeByte:=by kernel_rfl
 neB5:=by decide }
open Go.RowKit Go.Lib in
theorem Tryz.strings_Repeat (s:ByteArray) (c:Nat) (w:World) (hc:c≤9223372036854775807) (hlen:s.size*c≤140737488355328) :
  Calls Tryz.prog 308 #[.string s,.int .i64 c] w fun e w'=>e=.returned (.string ⟨(Lib.repeatL s.data.toList c).toArray⟩)∧Below w.heap.size w w':=Any.strings_Repeat Tryz.lays105 Tryz.Builder_Extra_105 s c w hc hlen
end Go.Proofs
namespace Go.Proofs.YtfpafnefpmmofaaGreatDoor
open Go.RowKit Go.Proofs.Tryz
theorem Lq (l:qn) (w:ql) (b:l.length<=1099511627776) :
  qi 104 #[qd l] w λe w'=>e=.returned (qd l)/\BW w w':=by
 go_enter func104,ntmps104
 go_wp2_with fail
 refine (stringslite_Clone ⟨l.toArray⟩ _ (by rw [Cu];omega)).m ?_
 rintro e c ⟨rfl,a⟩;go_wp2;go_ret;exact ⟨rfl,a⟩
def cell (c:UInt8):Value:=.int .u8 (c.toNat:Int)
theorem zX {w:ql} {base:Nat} {v:Value} {n:Nat} {l:qn} (h:w.ownsRow base 5 1 v n (l.map cell)) :
  (convert 166 9 v).run prog w=.ok (qd l) w:=by
 rcases h.2 with ⟨rfl,i⟩|⟨g,cap,k,rfl,f⟩
 ·subst i
  have d:l=[]:=by have:=h.1;simpa using this
  subst d;exact run_convert_bytes_nil w _ _ underlying166 underlying5 _ _ _ underlying9
 ·have d:l.length=n:=by simpa using h.1
  subst d
  refine run_convert_bytes_back w _ _ _ _ _ _ underlying166 underlying5 underlying9 λj hj=>?_
  have:=h.cellAt j (by omega)
  rw [show ((qzA g 0):Addr).add j=(qzA g j) from by unfold Addr.add;split <;> simp_all]
  rw [this]
  simp [cell,hj]
theorem Fz {a b:ByteArray} {x y:Bool} (h:a=b) (g:x=y):Ending.returned (.tuple #[.string a,.bool x])=.returned (.tuple #[.string b,.bool y]):=by rw [h,g]
namespace Tg
open Go.Proofs.Tryz
def C8 (n:Int) (d:qn):Bool:=decide (1<=n/\n<=9999) && (decide (d.length<=200) && Ag 32 126 d)
def Vk (p:Int):List Av->Bool
 | []=>true
 | f::r=>(C8 f.1 f.2 && decide (p<f.1)) && Vk f.1 r
theorem jG (fs:List Av) (k:Nat) (p:Int) (h:k<fs.length):Vk p (fs.drop k)=((C8 (Dn fs k).1 (Dn fs k).2 && decide (p<(Dn fs k).1)) && Vk (Dn fs k).1 (fs.drop (k+1))):=by
 have e:Dn fs k=fs[k]:=by simp [Dn,h]
 rw [jc h,e];rfl
def Kj (fs:List Av) (k:Nat):Int:=if k=0 then 0 else (Dn fs (k - 1)).1
theorem qM (p:Int) (fs:List Av):Vk p (fs.drop fs.length)=true:=by rw [ji nL];rfl
def Dh (fs:List Av):Bool:=decide (fs.length<=60) && Vk 0 fs
theorem Pb {fs:List Av} (h:Vk 0 fs=false):Dh fs=false:=by unfold Dh;rw [h,Bool.and_false]
theorem oO {fs:List Av} (h:¬ fs.length<=60):Dh fs=false:=by unfold Dh;rw [decide_eq_false h,Bool.false_and]
theorem mS {fs:List Av} (h:Vk 0 fs=true):Dh fs=decide (fs.length<=60):=by unfold Dh;rw [h,Bool.and_true]
theorem tC {fs:List Av} (h:fs.length<=60):Dh fs=Vk 0 fs:=by unfold Dh;rw [decide_eq_true h,ja]
theorem tagsOk_parts {fs:List Av} (h:Dh fs=true):fs.length<=60/\Vk 0 fs=true:=by simpa [Dh] using h
theorem tagOne_parts {n:Int} {d:qn} (h:C8 n d=true):(1<=n/\n<=9999)/\d.length<=200/\Ag 32 126 d=true:=by simpa [C8] using h
theorem okT_mem {fs:List Av} : ∀ {p:Int},Vk p fs=true->∀ f ∈ fs,C8 f.1 f.2=true/\p<f.1:=by
 induction fs with
 | nil=>intro p _ f a;cases a
 | cons g r ih =>
  intro p h f a
  simp only [Vk,jf,decide_eq_true_eq] at h
  rcases List.mem_cons.1 a with rfl|b
  ·exact h.1
  ·have:=ih h.2 f b
   exact ⟨this.1,by omega⟩
theorem Ph (d:Nat) (h:d<10):(UInt8.ofNat (48+d)).toNat=48+d:=by
 rw [UInt8.toNat_ofNat'];omega
theorem aI (n:Nat):(∀ c ∈ Lib.decDigits n,48<=c.toNat/\c.toNat<=57)/\val 0 (Lib.decDigits n)=n:=by
 induction n using Nat.strongRecOn with
 | _ n ih =>
  rw [Lib.decDigits]
  by_cases h:n<10
  ·rw [dif_pos h]
   refine ⟨λc b=>?_,?_⟩
   ·obtain rfl:c=UInt8.ofNat (48+n):=by simpa using b
    rw [Ph n h];omega
   ·simp only [val,List.foldl_cons,List.foldl_nil]
    rw [Ph n h];omega
  ·rw [dif_neg h]
   obtain ⟨l,o⟩:=ih (n / 10) (by omega)
   refine ⟨λc b=>?_,?_⟩
   ·rcases List.mem_append.1 b with b|b
    ·exact l c b
    ·obtain rfl:c=UInt8.ofNat (48+n % 10):=by simpa using b
     rw [Ph _ (by omega)];omega
   ·rw [Wj,o]
    simp only [val,List.foldl_cons,List.foldl_nil]
    rw [Ph _ (by omega)];omega
theorem Of (k n:Nat) (hk:1<=k) (h:n<10 ^ k):(Lib.decDigits n).length<=k:=by
 induction k generalizing n with
 | zero=>omega
 | succ k ih =>
  rw [Lib.decDigits]
  by_cases f:n<10
  ·rw [dif_pos f];simp
  ·rw [dif_neg f]
   have i:1<=k:=by
    rcases Nat.eq_zero_or_pos k with rfl|hp
    ·simp at h;omega
    ·exact hp
   have:=ih (n / 10) i (by rw [Nat.pow_succ] at h;omega)
   simp;omega
def Qw (x n:Int):Bool:=decide (1<=n/\n<=18) && decide (0<=x/\x<((10 ^ n.toNat:Nat):Int))
def Sq (x n:Nat):qn:=List.replicate (n - (Lib.decDigits x).length) 48++Lib.decDigits x
def I9 (x n:Int):qn:=if Qw x n=true then Sq x.toNat n.toNat else []
theorem Mf {x n:Int} (h:Qw x n=false):I9 x n=[]:=if_neg (by rw [h];decide)
theorem Tb {x n:Int} (h:¬ (1<=n/\n<=18)):Qw x n=false:=by unfold Qw;rw [decide_eq_false h];rfl
theorem Ti {x n:Int} (h:¬ (0<=x/\x<((10 ^ n.toNat:Nat):Int))):Qw x n=false:=by unfold Qw;rw [decide_eq_false h,Bool.and_false]
theorem Rb {x n:Nat} (f:1<=n) (j:n<=18) (g:x<10 ^ n):I9 x n=Sq x n:=by
 unfold I9;rw [if_pos]
 ·rw [Int.toNat_natCast,Int.toNat_natCast]
 ·unfold Qw
  rw [decide_eq_true (by omega),decide_eq_true (by rw [Int.toNat_natCast];omega)];rfl
theorem kY (x n:Int):I9 x n=[]\/∃ a m:Nat,x=a/\n=m/\1<=m/\m<=18/\a<10 ^ m/\I9 x n=Sq a m:=by
 cases h:Qw x n
 ·exact .inl (Mf h)
 ·unfold Qw at h
  rw [jf,decide_eq_true_eq,decide_eq_true_eq] at h;obtain ⟨a,rfl⟩:=jj h.2.1
  obtain ⟨m,rfl⟩:=jj (show 0<=n by omega)
  rw [Int.toNat_natCast] at h
  exact .inr ⟨a,m,rfl,rfl,by omega,by omega,by omega,Rb (by omega) (by omega) (by omega)⟩
theorem Xn {x n:Nat} (f:1<=n) (g:x<10 ^ n):(Sq x n).length=n:=by
 have:=Of n x f g
 simp [Sq];omega
theorem jF (x n:Nat):Ag 48 57 (Sq x n)=true:=by
 refine Md λc b=>?_
 rcases List.mem_append.1 b with b|b
 ·rw [List.mem_replicate] at b
  rw [b.2];decide
 ·exact (aI x).1 c b
theorem Ac1 (x n:Nat):val 0 (Sq x n)=x:=by
 unfold Sq;rw [uZ,(aI x).2]
theorem Ab5 {x n:Nat} (f:1<=n) (j:n<=18) (g:x<10 ^ n):A9 (Sq x n)=(x:Int):=by
 rw [Fu (by rw [Xn f g];exact j) (jF x n),Ac1]
def I1 (f:Av):qn:=I9 f.1 4++I9 f.2.length 3++f.2
def Bl (fs:List Av):qn:=fs.flatMap I1
theorem Rv (a b:List Av):Bl (a++b)=Bl a++Bl b:=by simp [Bl]
theorem Jo (f:Av) (b:List Av):Bl (f::b)=I1 f++Bl b:=by simp [Bl]
theorem Wh (fs:List Av) (k:Nat) (h:k<fs.length):Bl (fs.take (k+1))=Bl (fs.take k)++I1 (Dn fs k):=by
 have e:Dn fs k=fs[k]:=by simp [Dn,h]
 rw [List.take_succ_eq_append_getElem h,Rv,e];simp [Bl]
def Ek (fs:List Av):Bool:=Dh fs && decide ((Bl fs).length<=999)
def Nf (fs:List Av):qn:=if Ek fs=true then Bl fs else []
theorem jA {fs:List Av} (h:Dh fs=false):Ek fs=false:=by unfold Ek;rw [h,Bool.false_and]
theorem aX {fs:List Av} (h:¬ (Bl fs).length<=999):Ek fs=false:=by unfold Ek;rw [decide_eq_false h,Bool.and_false]
theorem Z7 {fs:List Av} (h:Dh fs=true) (g:(Bl fs).length<=999):Ek fs=true:=by unfold Ek;rw [h,decide_eq_true g];rfl
theorem putOk_parts {fs:List Av} (h:Ek fs=true):Dh fs=true/\(Bl fs).length<=999:=by simpa [Ek] using h
theorem Vm {fs:List Av} (h:Ek fs=false):Nf fs=[]:=if_neg (by rw [h];decide)
theorem Lz {fs:List Av} (h:Ek fs=true):Nf fs=Bl fs:=if_pos h
theorem Pg (x n:Int):(I9 x n).length<=18:=by
 rcases kY x n with h|⟨a,m,_,_,c,d,i,h⟩
 ·rw [h];simp
 ·rw [h,Xn c i];omega
theorem pX (f:Av):(I1 f).length<=36+f.2.length:=by
 have c:=Pg f.1 4;have d:=Pg f.2.length 3;unfold I1;simp only [qv];omega
theorem Ab7 {fs:List Av} (h:∀ f ∈ fs,f.2.length<=200):(Bl fs).length<=236*fs.length:=by
 induction fs with
 | nil=>simp [Bl]
 | cons f r ih =>
  have c:=pX f
  have d:=h f (by simp)
  have i:=ih (λg hg=>h g (by simp [hg]))
  rw [Jo,qv,qx];omega
theorem mB (fs:List Av) (k:Nat):(Bl (fs.take k)).length<=(Bl fs).length:=by
 have:Bl fs=Bl (fs.take k)++Bl (fs.drop k):=by rw [<- Rv,List.take_append_drop]
 rw [this,qv];omega
end Tg
namespace Tg
def Gb (x a b:Int):Bool:=decide (a<=x/\x<=b)
theorem Vc {x a b:Int} (h:a<=x) (g:x<=b):Gb x a b=true:=by simp [Gb,h,g]
theorem eB {x a b:Int} (h:x<a\/b<x):Gb x a b=false:=by simp [Gb];omega
theorem Cg (x a b:Int) (w:ql) :
  qi 89 #[qzI x,qzI a,qzI b] w λe w'=>e=.returned (.bool (Gb x a b))/\w'=w:=by
 by_cases h1:a<=x
 ·by_cases h2:x<=b
  ·go_enter func89,ntmps89
   go_wp2;go_ret
   exact ⟨by simp [Gb,h1,h2],rfl⟩
  ·go_enter func89,ntmps89
   go_wp2;go_ret
   exact ⟨by simp [Gb,h1,h2],rfl⟩
 ·go_enter func89,ntmps89
  go_wp2;go_ret
  exact ⟨by simp [Gb];omega,rfl⟩
theorem Sj (c:UInt8) (a b:Nat):Gb (c.toNat:Int) a b=(decide (a<=c.toNat) && decide (c.toNat<=b)):=by
 unfold Gb
 by_cases h1:a<=c.toNat <;> by_cases h2:c.toNat<=b <;> simp [h1,h2]
theorem Ig (l:qn) (a b:Nat) (w:ql) (p:l.length<=1099511627776) :
  qi 243 #[qd l,.int .u8 a,.int .u8 b] w λe w'=>e=.returned (.bool (Ag a b l))/\w'=w:=by
 go_enter func243,ntmps243
 go_wp2
 go_loop [7,10] (λ_ i=>∃ k:Nat,k<=l.length/\i=qzI k/\Ag a b l=Ag a b (l.drop k)) (λ_ i=>l.length - (intOf i).toNat)
 case atStart=>exact ⟨0,qw _,rfl,rfl⟩
 case round =>
  obtain ⟨k,hk,rfl,ht⟩:=hrel
  by_cases hlt:k<l.length
  ·have v:(k:Int)<(l.length:Int):=by omega
   have hs:=Ex a b l k hlt
   obtain ⟨c,u⟩:∃ c,(⟨l.toArray⟩:ByteArray)[k]'(by rw [Cu];exact hlt)=c:=⟨_,rfl⟩
   rw [(Fl l k hlt).t u] at hs;have d:qj _:=ht.t hs;clear hs ht
   by_cases h1:a<=c.toNat
   ·have z:(a:Int)<=(c.toNat:Int):=by omega
    by_cases h2:c.toNat<=b
    ·have A:(c.toNat:Int)<=(b:Int):=by omega
     have r:qj (Ag a b l=Ag a b (l.drop (k+1))):=by rw [qj,d.o];simp [h1,h2]
     clear d;go_wp2
     go_round
     case rel=>exact ⟨k+1,by omega,by go_num,r.o⟩
     case measure=>simp [intOf];omega
    ·have A:(b:Int)<(c.toNat:Int):=by omega
     have n:qj (Ag a b l=false):=by rw [qj,d.o];simp [h2]
     clear d;go_wp2;go_ret;exact ⟨Ab n.o.s,rfl⟩
   ·have z:(c.toNat:Int)<(a:Int):=by omega
    have n:qj (Ag a b l=false):=by rw [qj,d.o];simp [h1]
    clear d;go_wp2;go_ret;exact ⟨Ab n.o.s,rfl⟩
  ·have j:k=l.length:=by omega
   subst j
   have q:qj (Ag a b l=true):=by rw [qj,ht,Fo]
   clear ht;go_wp2;go_ret;exact ⟨Ab q.o.s,rfl⟩
theorem Fq (l:qn) (w:ql) (p:l.length<=1099511627776) :
  qi 208 #[qd l] w λe w'=>e=.returned (.bool (Ag 48 57 l))/\w'=w:=by
 go_enter func208,ntmps208
 go_wp2_with fail
 refine (Ig l 48 57 _ p).m ?_;rintro e y ⟨rfl,hw⟩;subst hw;go_wp2;go_ret;exact ⟨rfl,rfl⟩
theorem E7 (l:qn) (w:ql) (p:l.length<=1099511627776) :
  qi 268 #[qd l] w λe w'=>e=.returned (.bool (Ag 32 126 l))/\w'=w:=by
 go_enter func268,ntmps268
 go_wp2_with fail
 refine (Ig l 32 126 _ p).m ?_;rintro e y ⟨rfl,hw⟩;subst hw;go_wp2;go_ret;exact ⟨rfl,rfl⟩
theorem J9 (l:qn) (w:ql) (p:l.length<=1099511627776) :
  qi 114 #[qd l] w λe w'=>e=.returned (.bool (Ag 32 126 l))/\w'=w:=by
 go_enter func114,ntmps114
 go_wp2
 go_loop [3] (λi=>∃ k:Nat,k<=l.length/\i=qzI k/\Ag 32 126 l=Ag 32 126 (l.drop k)) (λi=>l.length - (intOf i).toNat)
 case atStart=>exact ⟨0,qw _,rfl,rfl⟩
 case round =>
  obtain ⟨k,hk,rfl,ht⟩:=hrel
  by_cases hlt:k<l.length
  ·have v:(k:Int)<(l.length:Int):=by omega
   have hs:=Ex 32 126 l k hlt
   obtain ⟨c,u⟩:∃ c,(⟨l.toArray⟩:ByteArray)[k]'(by rw [Cu];exact hlt)=c:=⟨_,rfl⟩
   rw [(Fl l k hlt).t u,<- Sj c 32 126] at hs;have d:qj _:=ht.t hs;have B:=Lj c;clear hs ht
   cases hin:Gb (c.toNat:Int) 32 126
   ·have n:qj (Ag 32 126 l=false):=by rw [qj,d.o];simp [hin]
    clear d;go_wp2_with fail
    refine (Cg _ _ _ _).m ?_;rintro e y ⟨rfl,f⟩;subst f;rw [hin];go_wp2;go_ret;exact ⟨Ab n.o.s,rfl⟩
   ·have r:qj (Ag 32 126 l=Ag 32 126 (l.drop (k+1))):=by rw [qj,d.o];simp [hin]
    clear d;go_wp2_with fail
    refine (Cg _ _ _ _).m ?_;rintro e y ⟨rfl,f⟩;subst f;rw [hin];go_wp2
    go_round
    case rel=>exact ⟨k+1,by omega,by go_num,r.o⟩
    case measure=>simp [intOf];omega
  ·have j:k=l.length:=by omega
   subst j
   have q:qj (Ag 32 126 l=true):=by rw [qj,ht,Fo]
   clear ht;go_wp2;go_ret;exact ⟨Ab q.o.s,rfl⟩
theorem Ih (l:qn) (w:ql) (p:l.length<=1099511627776) :
  qi 113 #[qd l] w λe w'=>e=.returned (.bool (Ag 48 57 l))/\w'=w:=by
 go_enter func113,ntmps113
 go_wp2
 go_loop [3] (λi=>∃ k:Nat,k<=l.length/\i=qzI k/\Ag 48 57 l=Ag 48 57 (l.drop k)) (λi=>l.length - (intOf i).toNat)
 case atStart=>exact ⟨0,qw _,rfl,rfl⟩
 case round =>
  obtain ⟨k,hk,rfl,ht⟩:=hrel
  by_cases hlt:k<l.length
  ·have v:(k:Int)<(l.length:Int):=by omega
   have hs:=Ex 48 57 l k hlt
   obtain ⟨c,u⟩:∃ c,(⟨l.toArray⟩:ByteArray)[k]'(by rw [Cu];exact hlt)=c:=⟨_,rfl⟩
   rw [(Fl l k hlt).t u,<- Sj c 48 57] at hs;have d:qj _:=ht.t hs;have B:=Lj c;clear hs ht
   cases hin:Gb (c.toNat:Int) 48 57
   ·have n:qj (Ag 48 57 l=false):=by rw [qj,d.o];simp [hin]
    clear d;go_wp2_with fail
    refine (Cg _ _ _ _).m ?_;rintro e y ⟨rfl,f⟩;subst f;rw [hin];go_wp2;go_ret;exact ⟨Ab n.o.s,rfl⟩
   ·have r:qj (Ag 48 57 l=Ag 48 57 (l.drop (k+1))):=by rw [qj,d.o];simp [hin]
    clear d;go_wp2_with fail
    refine (Cg _ _ _ _).m ?_;rintro e y ⟨rfl,f⟩;subst f;rw [hin];go_wp2
    go_round
    case rel=>exact ⟨k+1,by omega,by go_num,r.o⟩
    case measure=>simp [intOf];omega
  ·have j:k=l.length:=by omega
   subst j
   have q:qj (Ag 48 57 l=true):=by rw [qj,ht,Fo]
   clear ht;go_wp2;go_ret;exact ⟨Ab q.o.s,rfl⟩
theorem iNumOf_any (l:qn) (w:ql) (n:l.length<=1099511627776) :
  qi 168 #[qd l] w λe w'=>e=.returned (qzI (A9 l))/\w'=w:=by
 by_cases hbig:18<l.length
 ·have d:qj _:=Lw hbig
  have f:(18:Int)<(l.length:Int):=by omega
  go_enter func168,ntmps168
  go_wp2;go_ret;exact ⟨Af d.o.s,rfl⟩
 ·have f:(l.length:Int)<=18:=by omega
  have a:l.length<=18:=by omega
  cases hd:Ag 48 57 l
  ·have d:qj _:=O6 hd
   go_enter func168,ntmps168
   go_wp2_with fail
   refine (Fq _ _ n).m ?_;rintro e C ⟨rfl,hw⟩;subst hw;rw [hd];go_wp2;go_ret;exact ⟨Af d.o.s,rfl⟩
  ·have y:qj _:=Fu a hd
   have q:qj _:=Hv l hd;have r:qj (Ag 48 57 l=true):=hd
   go_enter func168,ntmps168
   go_wp2_with fail
   refine (Fq _ _ n).m ?_;rintro e C ⟨rfl,hw⟩;subst hw;rw [hd];clear hd;go_wp2
   go_loop [3,4,15] (λv _ i=>∃ k:Nat,k<=l.length/\i=qzI k/\v=qzI (val 0 (l.take k))) (λ_ _ i=>l.length - (intOf i).toNat)
   case atStart=>exact ⟨0,qw _,rfl,rfl⟩
   case round =>
    obtain ⟨k,hk,rfl,rfl⟩:=hrel;have hb:=q.o k hk
    have hp:10 ^ k<=10 ^ 18:=Nat.pow_le_pow_right (by omega) (by omega)
    by_cases hlt:k<l.length
    ·have A:(k:Int)<(l.length:Int):=by omega
     have h:10 ^ k<=10 ^ 17:=Nat.pow_le_pow_right (by omega) (by omega)
     have hw:=Lo r.o hlt;have j:=Ns l k hlt
     obtain ⟨c,z⟩:∃ c,(⟨l.toArray⟩:ByteArray)[k]'(by rw [Cu];exact hlt)=c:=⟨_,rfl⟩
     rw [(Fl l k hlt).t z] at hw j;obtain ⟨x,p⟩:∃ x,val 0 (l.take k)=x:=⟨_,rfl⟩;rw [p] at hb j ⊢
     have B:x<=100000000000000000:=by omega
     have b:((val 0 (l.take (k+1)):Nat):Int)=(x:Int) * 10+((c.toNat:Int) - 48):=by omega
     have u:qj _:=b;clear b j p hb hp h;go_wp2
     go_round
     case rel=>exact ⟨k+1,by omega,by go_num,by rw [u.o]⟩
     case measure=>simp [intOf];omega
    ·have g:k=l.length:=by omega
     subst g;rw [List.take_of_length_le nL];clear hb hp;go_wp2;go_ret;exact ⟨Af y.o.s,rfl⟩
theorem sNumOf_any (l:qn) (w:ql) (n:l.length<=1099511627776) :
  qi 90 #[qd l] w λe w'=>e=.returned (qzI (A9 l))/\w'=w:=by
 by_cases hbig:18<l.length
 ·have d:qj _:=Lw hbig
  have f:(18:Int)<(l.length:Int):=by omega
  go_enter func90,ntmps90
  go_wp2;go_ret;exact ⟨Af d.o.s,rfl⟩
 ·have f:(l.length:Int)<=18:=by omega
  have a:l.length<=18:=by omega
  cases hd:Ag 48 57 l
  ·have d:qj _:=O6 hd
   go_enter func90,ntmps90
   go_wp2_with fail
   refine (Ih _ _ n).m ?_;rintro e C ⟨rfl,hw⟩;subst hw;rw [hd];go_wp2;go_ret;exact ⟨Af d.o.s,rfl⟩
  ·have y:qj _:=Fu a hd
   have q:qj _:=Hv l hd;have r:qj (Ag 48 57 l=true):=hd
   go_enter func90,ntmps90
   go_wp2_with fail
   refine (Ih _ _ n).m ?_;rintro e C ⟨rfl,hw⟩;subst hw;rw [hd];clear hd;go_wp2
   go_loop [3,4] (λv i=>∃ k:Nat,k<=l.length/\i=qzI k/\v=qzI (val 0 (l.take k))) (λ_ i=>l.length - (intOf i).toNat)
   case atStart=>exact ⟨0,qw _,rfl,rfl⟩
   case round =>
    obtain ⟨k,hk,rfl,rfl⟩:=hrel;have hb:=q.o k hk
    have hp:10 ^ k<=10 ^ 18:=Nat.pow_le_pow_right (by omega) (by omega)
    by_cases hlt:k<l.length
    ·have A:(k:Int)<(l.length:Int):=by omega
     have h:10 ^ k<=10 ^ 17:=Nat.pow_le_pow_right (by omega) (by omega)
     have hw:=Lo r.o hlt;have j:=Ns l k hlt
     obtain ⟨c,z⟩:∃ c,(⟨l.toArray⟩:ByteArray)[k]'(by rw [Cu];exact hlt)=c:=⟨_,rfl⟩
     rw [(Fl l k hlt).t z] at hw j;obtain ⟨x,p⟩:∃ x,val 0 (l.take k)=x:=⟨_,rfl⟩;rw [p] at hb j ⊢
     have B:x<=100000000000000000:=by omega
     have b:((val 0 (l.take (k+1)):Nat):Int)=10 * (x:Int)+(c.toNat:Int) - 48:=by omega
     have u:qj _:=b;clear b j p hb hp h;go_wp2
     go_round
     case rel=>exact ⟨k+1,by omega,by go_num,by rw [u.o]⟩
     case measure=>simp [intOf];omega
    ·have g:k=l.length:=by omega
     subst g;rw [List.take_of_length_le nL];clear hb hp;go_wp2;go_ret;exact ⟨Af y.o.s,rfl⟩
end Tg
end Go.Proofs.YtfpafnefpmmofaaGreatDoor
namespace Go.Proofs.YtfpafnefpmmofaaGreatDoor
open Go.Proofs.Tryz
def Fh (d:Int):Bool:=decide (0<=d/\d<=80000)
theorem G6 {d:Int} (h:Fh d=true):0<=d/\d<=80000:=by simpa [Fh] using h
theorem Rw {d:Int} (a:0<=d) (b:d<=80000):Fh d=true:=by simp [Fh,a,b]
theorem Aeb {d:Int} (h:d<0\/80000<d):Fh d=false:=by simp [Fh];omega
end Go.Proofs.YtfpafnefpmmofaaGreatDoor
namespace Go.Proofs.YtfpafnefpmmofaaGreatDoor
open Go.RowKit Go.Proofs.Tryz
def mOk (x:Int):Bool:=decide (-1000000000000<=x/\x<=1000000000000)
theorem Agu {x:Int} (h:mOk x=true):-1000000000000<=x/\x<=1000000000000:=by simpa [mOk] using h
def Gb (x a b:Int):Bool:=decide (a<=x/\x<=b)
theorem Cg (x a b:Int) (w:ql) :
  qi 89 #[qzI x,qzI a,qzI b] w λe w'=>e=.returned (.bool (Gb x a b))/\w'=w:=by
 by_cases h1:a<=x
 ·by_cases h2:x<=b
  ·go_enter func89,ntmps89
   go_wp2;go_ret
   exact ⟨by simp [Gb,h1,h2],rfl⟩
  ·go_enter func89,ntmps89
   go_wp2;go_ret
   exact ⟨by simp [Gb,h1,h2],rfl⟩
 ·go_enter func89,ntmps89
  go_wp2;go_ret
  exact ⟨by simp [Gb];omega,rfl⟩
theorem Mt (x:Int) (w:ql) :
  qi 232 #[qzI x] w λe w'=>e=.returned (.bool (mOk x))/\w'=w:=by
 go_enter func232,ntmps232
 go_wp2_with (go_at_call 89;refine (Cg _ _ _ _).m ?_;rintro e w' ⟨rfl,rfl⟩)
 go_ret;exact ⟨rfl,rfl⟩
theorem Ags (x:Int) (w:ql) :
  qi 369 #[qzI x] w λe w'=>e=.returned (.bool (mOk x))/\w'=w:=by
 by_cases h1:-1000000000000<=x
 ·by_cases h2:x<=1000000000000
  ·go_enter func369,ntmps369
   go_wp2;go_ret
   exact ⟨by simp [mOk,h1,h2],rfl⟩
  ·go_enter func369,ntmps369
   go_wp2;go_ret
   exact ⟨by simp [mOk,h1,h2],rfl⟩
 ·go_enter func369,ntmps369
  go_wp2;go_ret
  exact ⟨by simp [mOk];omega,rfl⟩
theorem dX (x:Int) (w:ql) :
  qi 361 #[qzI x] w λe w'=>e=.returned (.bool (mOk x))/\w'=w:=by
 go_enter func361,ntmps361
 go_wp2_with (go_at_call 369;refine (Ags _ _).m ?_;rintro e w' ⟨rfl,rfl⟩)
 go_ret;exact ⟨rfl,rfl⟩
theorem Vc {x a b:Int} (h:a<=x) (g:x<=b):Gb x a b=true:=by simp [Gb,h,g]
theorem eB {x a b:Int} (h:x<a\/b<x):Gb x a b=false:=by simp [Gb];omega
theorem Br (x:Int) (w:ql) :
  qi 117 #[qzI x] w λe w'=>e=.returned (.bool (Fh x))/\w'=w:=by
 go_enter func117,ntmps117
 go_wp2_with (go_at_call 89;refine (Cg _ _ _ _).m ?_;rintro e w' ⟨rfl,rfl⟩)
 go_ret;exact ⟨rfl,rfl⟩
theorem Ci (x:Int) (w:ql) :
  qi 215 #[qzI x] w λe w'=>e=.returned (.bool (Fh x))/\w'=w:=by
 by_cases h1:0<=x
 ·by_cases h2:x<=80000
  ·go_enter func215,ntmps215
   go_wp2;go_ret
   exact ⟨by simp [Fh,h1,h2],rfl⟩
  ·go_enter func215,ntmps215
   go_wp2;go_ret
   exact ⟨by simp [Fh,h1,h2],rfl⟩
 ·go_enter func215,ntmps215
  go_wp2;go_ret
  exact ⟨by simp [Fh];omega,rfl⟩
def wdV (d:Int):Int:=if Fh d=true then (d+5) % 7 else -1
theorem Vp {d:Int} (h:Fh d=true):wdV d=(d+5) % 7:=if_pos h
theorem Add {d:Int} (h:Fh d=false):wdV d = -1:=if_neg (by rw [h];decide)
theorem Qv (x:Int) (w:ql) :
  qi 267 #[qzI x] w λe w'=>e=.returned (qzI (wdV x))/\w'=w:=by
 cases h:Fh x
 ·have c:qj _:=Add h
  go_enter func267,ntmps267
  go_wp2_with (go_at_call 117;refine (Br _ _).m ?_;rintro e w' ⟨rfl,rfl⟩)
  go_ret;exact ⟨Af c.o.s,rfl⟩
 ·have c:qj _:=Vp h
  have hb:=G6 h
  go_enter func267,ntmps267
  go_wp2_with (go_at_call 117;refine (Br _ _).m ?_;rintro e w' ⟨rfl,rfl⟩)
  go_ret;exact ⟨Af c.o.s,rfl⟩
theorem cX (x:Int) (w:ql) :
  qi 390 #[qzI x] w λe w'=>e=.returned (qzI (wdV x))/\w'=w:=by
 cases h:Fh x
 ·have c:qj _:=Add h
  go_enter func390,ntmps390
  go_wp2_with (go_at_call 215;refine (Ci _ _).m ?_;rintro e w' ⟨rfl,rfl⟩)
  go_ret;exact ⟨Af c.o.s,rfl⟩
 ·have c:qj _:=Vp h
  have hb:=G6 h
  go_enter func390,ntmps390
  go_wp2_with (go_at_call 215;refine (Ci _ _).m ?_;rintro e w' ⟨rfl,rfl⟩)
  go_ret;exact ⟨Af c.o.s,rfl⟩
theorem Sj (c:UInt8) (a b:Nat):Gb (c.toNat:Int) a b=(decide (a<=c.toNat) && decide (c.toNat<=b)):=by
 unfold Gb
 by_cases h1:a<=c.toNat <;> by_cases h2:c.toNat<=b <;> simp [h1,h2]
theorem Ig (l:qn) (a b:Nat) (w:ql) (j:l.length<=1099511627776) :
  qi 243 #[qd l,.int .u8 a,.int .u8 b] w λe w'=>e=.returned (.bool (Ag a b l))/\w'=w:=by
 go_enter func243,ntmps243
 go_wp2
 go_loop [7,10] (λ_ i=>∃ k:Nat,k<=l.length/\i=qzI k/\Ag a b l=Ag a b (l.drop k)) (λ_ i=>l.length - (intOf i).toNat)
 case atStart=>exact ⟨0,qw _,rfl,rfl⟩
 case round =>
  obtain ⟨k,hk,rfl,ht⟩:=hrel
  by_cases hlt:k<l.length
  ·have r:(k:Int)<(l.length:Int):=by omega
   have hs:=Ex a b l k hlt
   obtain ⟨c,q⟩:∃ c,(⟨l.toArray⟩:ByteArray)[k]'(by rw [Cu];exact hlt)=c:=⟨_,rfl⟩
   rw [(Fl l k hlt).t q] at hs;have d:qj _:=ht.t hs;clear hs ht
   by_cases h1:a<=c.toNat
   ·have v:(a:Int)<=(c.toNat:Int):=by omega
    by_cases h2:c.toNat<=b
    ·have x:(c.toNat:Int)<=(b:Int):=by omega
     have p:qj (Ag a b l=Ag a b (l.drop (k+1))):=by rw [qj,d.o];simp [h1,h2]
     clear d;go_wp2
     go_round
     case rel=>exact ⟨k+1,by omega,by go_num,p.o⟩
     case measure=>simp [intOf];omega
    ·have x:(b:Int)<(c.toNat:Int):=by omega
     have h:qj (Ag a b l=false):=by rw [qj,d.o];simp [h2]
     clear d;go_wp2;go_ret;exact ⟨Ab h.o.s,rfl⟩
   ·have v:(c.toNat:Int)<(a:Int):=by omega
    have h:qj (Ag a b l=false):=by rw [qj,d.o];simp [h1]
    clear d;go_wp2;go_ret;exact ⟨Ab h.o.s,rfl⟩
  ·have g:k=l.length:=by omega
   subst g
   have n:qj (Ag a b l=true):=by rw [qj,ht,Fo]
   clear ht;go_wp2;go_ret;exact ⟨Ab n.o.s,rfl⟩
theorem Kk (l:qn) (w:ql) (j:l.length<=1099511627776) :
  qi 208 #[qd l] w λe w'=>e=.returned (.bool (Ag 48 57 l))/\w'=w:=by
 go_enter func208,ntmps208
 go_wp2_with fail
 refine (Ig l 48 57 _ j).m ?_;rintro e u ⟨rfl,hw⟩;subst hw;go_wp2;go_ret;exact ⟨rfl,rfl⟩
theorem E7 (l:qn) (w:ql) (j:l.length<=1099511627776) :
  qi 268 #[qd l] w λe w'=>e=.returned (.bool (Ag 32 126 l))/\w'=w:=by
 go_enter func268,ntmps268
 go_wp2_with fail
 refine (Ig l 32 126 _ j).m ?_;rintro e u ⟨rfl,hw⟩;subst hw;go_wp2;go_ret;exact ⟨rfl,rfl⟩
theorem J9 (l:qn) (w:ql) (j:l.length<=1099511627776) :
  qi 114 #[qd l] w λe w'=>e=.returned (.bool (Ag 32 126 l))/\w'=w:=by
 go_enter func114,ntmps114
 go_wp2
 go_loop [3] (λi=>∃ k:Nat,k<=l.length/\i=qzI k/\Ag 32 126 l=Ag 32 126 (l.drop k)) (λi=>l.length - (intOf i).toNat)
 case atStart=>exact ⟨0,qw _,rfl,rfl⟩
 case round =>
  obtain ⟨k,hk,rfl,ht⟩:=hrel
  by_cases hlt:k<l.length
  ·have r:(k:Int)<(l.length:Int):=by omega
   have hs:=Ex 32 126 l k hlt
   obtain ⟨c,q⟩:∃ c,(⟨l.toArray⟩:ByteArray)[k]'(by rw [Cu];exact hlt)=c:=⟨_,rfl⟩
   rw [(Fl l k hlt).t q,<- Sj c 32 126] at hs;have d:qj _:=ht.t hs;have y:=Lj c;clear hs ht
   cases hin:Gb (c.toNat:Int) 32 126
   ·have h:qj (Ag 32 126 l=false):=by rw [qj,d.o];simp [hin]
    clear d;go_wp2_with fail
    refine (Cg _ _ _ _).m ?_;rintro e u ⟨rfl,f⟩;subst f;rw [hin];go_wp2;go_ret;exact ⟨Ab h.o.s,rfl⟩
   ·have p:qj (Ag 32 126 l=Ag 32 126 (l.drop (k+1))):=by rw [qj,d.o];simp [hin]
    clear d;go_wp2_with fail
    refine (Cg _ _ _ _).m ?_;rintro e u ⟨rfl,f⟩;subst f;rw [hin];go_wp2
    go_round
    case rel=>exact ⟨k+1,by omega,by go_num,p.o⟩
    case measure=>simp [intOf];omega
  ·have g:k=l.length:=by omega
   subst g
   have n:qj (Ag 32 126 l=true):=by rw [qj,ht,Fo]
   clear ht;go_wp2;go_ret;exact ⟨Ab n.o.s,rfl⟩
theorem Fp (l:qn) (w:ql) (j:l.length<=1099511627776) :
  qi 113 #[qd l] w λe w'=>e=.returned (.bool (Ag 48 57 l))/\w'=w:=by
 go_enter func113,ntmps113
 go_wp2
 go_loop [3] (λi=>∃ k:Nat,k<=l.length/\i=qzI k/\Ag 48 57 l=Ag 48 57 (l.drop k)) (λi=>l.length - (intOf i).toNat)
 case atStart=>exact ⟨0,qw _,rfl,rfl⟩
 case round =>
  obtain ⟨k,hk,rfl,ht⟩:=hrel
  by_cases hlt:k<l.length
  ·have r:(k:Int)<(l.length:Int):=by omega
   have hs:=Ex 48 57 l k hlt
   obtain ⟨c,q⟩:∃ c,(⟨l.toArray⟩:ByteArray)[k]'(by rw [Cu];exact hlt)=c:=⟨_,rfl⟩
   rw [(Fl l k hlt).t q,<- Sj c 48 57] at hs;have d:qj _:=ht.t hs;have y:=Lj c;clear hs ht
   cases hin:Gb (c.toNat:Int) 48 57
   ·have h:qj (Ag 48 57 l=false):=by rw [qj,d.o];simp [hin]
    clear d;go_wp2_with fail
    refine (Cg _ _ _ _).m ?_;rintro e u ⟨rfl,f⟩;subst f;rw [hin];go_wp2;go_ret;exact ⟨Ab h.o.s,rfl⟩
   ·have p:qj (Ag 48 57 l=Ag 48 57 (l.drop (k+1))):=by rw [qj,d.o];simp [hin]
    clear d;go_wp2_with fail
    refine (Cg _ _ _ _).m ?_;rintro e u ⟨rfl,f⟩;subst f;rw [hin];go_wp2
    go_round
    case rel=>exact ⟨k+1,by omega,by go_num,p.o⟩
    case measure=>simp [intOf];omega
  ·have g:k=l.length:=by omega
   subst g
   have n:qj (Ag 48 57 l=true):=by rw [qj,ht,Fo]
   clear ht;go_wp2;go_ret;exact ⟨Ab n.o.s,rfl⟩
theorem iNumOf_any (l:qn) (w:ql) (n:l.length<=1099511627776) :
  qi 168 #[qd l] w λe w'=>e=.returned (qzI (A9 l))/\w'=w:=by
 by_cases hbig:18<l.length
 ·have d:qj _:=Lw hbig
  have f:(18:Int)<(l.length:Int):=by omega
  go_enter func168,ntmps168
  go_wp2;go_ret;exact ⟨Af d.o.s,rfl⟩
 ·have f:(l.length:Int)<=18:=by omega
  have a:l.length<=18:=by omega
  cases hd:Ag 48 57 l
  ·have d:qj _:=O6 hd
   go_enter func168,ntmps168
   go_wp2_with fail
   refine (Kk _ _ n).m ?_;rintro e C ⟨rfl,hw⟩;subst hw;rw [hd];go_wp2;go_ret;exact ⟨Af d.o.s,rfl⟩
  ·have y:qj _:=Fu a hd
   have q:qj _:=Hv l hd;have r:qj (Ag 48 57 l=true):=hd
   go_enter func168,ntmps168
   go_wp2_with fail
   refine (Kk _ _ n).m ?_;rintro e C ⟨rfl,hw⟩;subst hw;rw [hd];clear hd;go_wp2
   go_loop [3,4,15] (λv _ i=>∃ k:Nat,k<=l.length/\i=qzI k/\v=qzI (val 0 (l.take k))) (λ_ _ i=>l.length - (intOf i).toNat)
   case atStart=>exact ⟨0,qw _,rfl,rfl⟩
   case round =>
    obtain ⟨k,hk,rfl,rfl⟩:=hrel;have hb:=q.o k hk
    have hp:10 ^ k<=10 ^ 18:=Nat.pow_le_pow_right (by omega) (by omega)
    by_cases hlt:k<l.length
    ·have A:(k:Int)<(l.length:Int):=by omega
     have h:10 ^ k<=10 ^ 17:=Nat.pow_le_pow_right (by omega) (by omega)
     have hw:=Lo r.o hlt;have j:=Ns l k hlt
     obtain ⟨c,z⟩:∃ c,(⟨l.toArray⟩:ByteArray)[k]'(by rw [Cu];exact hlt)=c:=⟨_,rfl⟩
     rw [(Fl l k hlt).t z] at hw j;obtain ⟨x,p⟩:∃ x,val 0 (l.take k)=x:=⟨_,rfl⟩;rw [p] at hb j ⊢
     have B:x<=100000000000000000:=by omega
     have b:((val 0 (l.take (k+1)):Nat):Int)=(x:Int) * 10+((c.toNat:Int) - 48):=by omega
     have u:qj _:=b;clear b j p hb hp h;go_wp2
     go_round
     case rel=>exact ⟨k+1,by omega,by go_num,by rw [u.o]⟩
     case measure=>simp [intOf];omega
    ·have g:k=l.length:=by omega
     subst g;rw [List.take_of_length_le nL];clear hb hp;go_wp2;go_ret;exact ⟨Af y.o.s,rfl⟩
theorem sNumOf_any (l:qn) (w:ql) (n:l.length<=1099511627776) :
  qi 90 #[qd l] w λe w'=>e=.returned (qzI (A9 l))/\w'=w:=by
 by_cases hbig:18<l.length
 ·have d:qj _:=Lw hbig
  have f:(18:Int)<(l.length:Int):=by omega
  go_enter func90,ntmps90
  go_wp2;go_ret;exact ⟨Af d.o.s,rfl⟩
 ·have f:(l.length:Int)<=18:=by omega
  have a:l.length<=18:=by omega
  cases hd:Ag 48 57 l
  ·have d:qj _:=O6 hd
   go_enter func90,ntmps90
   go_wp2_with fail
   refine (Fp _ _ n).m ?_;rintro e C ⟨rfl,hw⟩;subst hw;rw [hd];go_wp2;go_ret;exact ⟨Af d.o.s,rfl⟩
  ·have y:qj _:=Fu a hd
   have q:qj _:=Hv l hd;have r:qj (Ag 48 57 l=true):=hd
   go_enter func90,ntmps90
   go_wp2_with fail
   refine (Fp _ _ n).m ?_;rintro e C ⟨rfl,hw⟩;subst hw;rw [hd];clear hd;go_wp2
   go_loop [3,4] (λv i=>∃ k:Nat,k<=l.length/\i=qzI k/\v=qzI (val 0 (l.take k))) (λ_ i=>l.length - (intOf i).toNat)
   case atStart=>exact ⟨0,qw _,rfl,rfl⟩
   case round =>
    obtain ⟨k,hk,rfl,rfl⟩:=hrel;have hb:=q.o k hk
    have hp:10 ^ k<=10 ^ 18:=Nat.pow_le_pow_right (by omega) (by omega)
    by_cases hlt:k<l.length
    ·have A:(k:Int)<(l.length:Int):=by omega
     have h:10 ^ k<=10 ^ 17:=Nat.pow_le_pow_right (by omega) (by omega)
     have hw:=Lo r.o hlt;have j:=Ns l k hlt
     obtain ⟨c,z⟩:∃ c,(⟨l.toArray⟩:ByteArray)[k]'(by rw [Cu];exact hlt)=c:=⟨_,rfl⟩
     rw [(Fl l k hlt).t z] at hw j;obtain ⟨x,p⟩:∃ x,val 0 (l.take k)=x:=⟨_,rfl⟩;rw [p] at hb j ⊢
     have B:x<=100000000000000000:=by omega
     have b:((val 0 (l.take (k+1)):Nat):Int)=10 * (x:Int)+(c.toNat:Int) - 48:=by omega
     have u:qj _:=b;clear b j p hb hp h;go_wp2
     go_round
     case rel=>exact ⟨k+1,by omega,by go_num,by rw [u.o]⟩
     case measure=>simp [intOf];omega
    ·have g:k=l.length:=by omega
     subst g;rw [List.take_of_length_le nL];clear hb hp;go_wp2;go_ret;exact ⟨Af y.o.s,rfl⟩
theorem Rj {a b:ByteArray} {x y:Int} (h:a=b) (g:x=y):Ending.returned (.tuple #[.string a,qzI x])=.returned (.tuple #[.string b,qzI y]):=by rw [h,g]
theorem Jz (l:qn) (a b:Nat):(⟨l.toArray⟩:ByteArray).extract a (a+b)=⟨((l.drop a).take b).toArray⟩:=by
 rw [M6,Nat.add_sub_cancel_left]
def Nj (n:Nat) (i size:Int):Bool:=decide (0<=i/\i<=n/\size<=n - i)
theorem eN {n:Nat} {i size:Int} (d:0<=i) (f:i<=n) (j:size<=n - i):Nj n i size=true:=decide_eq_true ⟨d,f,j⟩
theorem X2 {n:Nat} {i size:Int} (h:i<0\/n<i\/n - i<size):Nj n i size=false:=decide_eq_false (by omega)
theorem dD {n:Nat} {i size:Int} (h:Nj n i size=true):0<=i/\i<=n/\size<=n - i:=of_decide_eq_true h
theorem fQ {n:Nat} {i size:Int} (h:Nj n i size=false):¬ (0<=i/\i<=n/\size<=n - i):=of_decide_eq_false h
theorem Fv (l:qn) (i size:Int) (w:ql) (m:l.length<=1099511627776) :
  qi 244 #[qd l,qzI i,qzI size] w λe w'=>e=.returned (.bool (Nj l.length i size))/\w'=w:=by
 by_cases d:0<=i
 ·by_cases f:i<=(l.length:Int)
  ·by_cases j:size<=(l.length:Int) - i
   ·have c:qj _:=eN d f j
    go_enter func244,ntmps244
    go_wp2;go_ret;exact ⟨Ab c.o.s,rfl⟩
   ·have c:qj (Nj l.length i size=false):=X2 (by omega)
    have k:(l.length:Int) - i<size:=by omega
    go_enter func244,ntmps244
    go_wp2;go_ret;exact ⟨Ab c.o.s,rfl⟩
  ·have c:qj (Nj l.length i size=false):=X2 (by omega)
   go_enter func244,ntmps244
   go_wp2;go_ret;exact ⟨Ab c.o.s,rfl⟩
 ·have c:qj (Nj l.length i size=false):=X2 (by omega)
  go_enter func244,ntmps244
  go_wp2;go_ret;exact ⟨Ab c.o.s,rfl⟩
def lim (wd:Int):Int:=if wd=2 then 99 else if wd=3 then 999 else 0
def wOk (wd:Int):Bool:=decide (wd=2) || decide (wd=3)
theorem Ahg {wd:Int} (p:wd≠2) (q:wd≠3):wOk wd=false:=by simp [wOk,p,q]
theorem Agw {wd:Int} (h:wOk wd=true):wd=2\/wd=3:=by simpa [wOk] using h
theorem Mu (wd:Int) (w:ql) :
  qi 275 #[qzI wd] w λe w'=>e=.returned (.tuple #[qzI (lim wd),.bool (wOk wd)])/\w'=w:=by
 by_cases p:wd=2
 ·subst p
  go_enter func275,ntmps275
  go_wp2;go_ret2;exact ⟨rfl,rfl⟩
 ·by_cases q:wd=3
  ·subst q
   go_enter func275,ntmps275
   go_wp2;go_ret2;exact ⟨rfl,rfl⟩
  ·have z:qj (lim wd=0):=by rw [qj,lim,if_neg p,if_neg q]
   have j:qj _:=Ahg p q
   have B:(wd == 2)=false:=by simpa using p
   have C:(wd == 3)=false:=by simpa using q
   go_enter func275,ntmps275
   go_wp2;go_ret2;exact ⟨K7 z.o.s j.o.s,rfl⟩
def Tc (l:qn) (i wd:Int):Int:=A9 ((l.drop i.toNat).take wd.toNat)
def L8 (l:qn) (i wd:Int):Bool:=wOk wd && decide (0<=i/\i+wd<=l.length/\0<=Tc l i wd/\Tc l i wd<=l.length - (i+wd))
def bQ (l:qn) (i wd:Int):qn:=if L8 l i wd=true then (l.drop (i+wd).toNat).take (Tc l i wd).toNat else []
def nF (l:qn) (i wd:Int):Int:=if L8 l i wd=true then i+wd+Tc l i wd else -1
theorem Wo {l:qn} {i wd:Int} (h:L8 l i wd=false):bQ l i wd=[]/\nF l i wd = -1:=⟨if_neg (by rw [h];decide),if_neg (by rw [h];decide)⟩
theorem cN {l:qn} {i wd:Int} (h:L8 l i wd=true):bQ l i wd=(l.drop (i+wd).toNat).take (Tc l i wd).toNat/\nF l i wd=i+wd+Tc l i wd:=⟨if_pos h,if_pos h⟩
theorem Adt {l:qn} {i wd:Int} (h:wOk wd=false):L8 l i wd=false:=by unfold L8;rw [h];rfl
theorem Xj {l:qn} {i wd:Int} (h:¬ (0<=i/\i+wd<=l.length/\0<=Tc l i wd/\Tc l i wd<=l.length - (i+wd))):L8 l i wd=false:=by
 unfold L8;rw [decide_eq_false h,Bool.and_false]
theorem Zn {l:qn} {i wd:Int} (hw:wOk wd=true) (h:0<=i/\i+wd<=l.length/\0<=Tc l i wd/\Tc l i wd<=l.length - (i+wd)):L8 l i wd=true:=by
 unfold L8;rw [decide_eq_true h,hw];rfl
theorem gH (l:qn) (i wd:Int) (w:ql) (x:l.length<=1099511627776) :
  qi 245 #[qd l,qzI i,qzI wd] w λe w'=>e=.returned (.tuple #[qd (bQ l i wd),qzI (nF l i wd)])/\BW w w':=by
 cases hw:wOk wd
 ·have b:qj _:=Wo (Adt (l:=l) (i:=i) hw)
  go_enter func245,ntmps245
  go_wp2_with fail
  refine (Mu _ _).m ?_;rintro e g ⟨rfl,a⟩;subst a;rw [hw];go_wp2;go_ret2
  exact ⟨Rj (by rw [b.o.1]) b.o.2.s,bR⟩
 ·have v:=Agw hw
  cases hb:Nj l.length i wd
  ·have b:qj _:=Wo (Xj (l:=l) (i:=i) (wd:=wd) (by have:=fQ hb;omega))
   have j:qj _:=hw;clear hw v
   go_enter func245,ntmps245
   go_wp2_with fail
   refine (Mu _ _).m ?_;rintro e g ⟨rfl,a⟩;subst a;rw [j.o];go_wp2_with fail
   refine (Fv _ _ _ _ x).m ?_;rintro e g ⟨rfl,a⟩;subst a;rw [hb];go_wp2;go_ret2
   exact ⟨Rj (by rw [b.o.1]) b.o.2.s,bR⟩
  ·have f:=dD hb
   have j:qj _:=hw;have t:qj _:=hb;obtain ⟨k,rfl⟩:=jj f.1
   obtain ⟨d,rfl⟩:=jj (show 0<=wd by omega)
   have hd:d=2\/d=3:=by omega
   have G:k+d<=l.length:=by omega
   have y:=Ee ((l.drop k).take d);have u:qj (Tc l k d=A9 ((l.drop k).take d)):=rfl
   have c:((l.drop k).take d).length<=1099511627776:=by simp;omega
   have HP:qj _:=Jz l k d;clear hw hb f v
   go_enter func245,ntmps245
   go_wp2_with fail
   refine (Mu _ _).m ?_;rintro e g ⟨rfl,a⟩;subst a;rw [j.o];go_wp2_with fail
   refine (Fv _ _ _ _ x).m ?_;rintro e g ⟨rfl,a⟩;subst a;rw [t.o]
   have D:(k:Int)<=(k:Int)+(d:Int):=by omega
   have F:(k:Int)+(d:Int)<=(l.length:Int):=by omega
   clear t;go_wp2_with fail
   rw [HP.o];refine (iNumOf_any _ _ c).m ?_;rintro e g ⟨rfl,a⟩;subst a;obtain ⟨n,hn⟩:∃ n,A9 ((l.drop k).take d)=n:=⟨_,rfl⟩;rw [hn] at y u ⊢;clear hn HP c
   by_cases hneg:n<0
   ·have b:qj _:=Wo (Xj (l:=l) (i:=k) (wd:=d) (by rw [u.o];omega))
    go_wp2;go_ret2
    exact ⟨Rj (by rw [b.o.1]) b.o.2.s,bR⟩
   ·obtain ⟨m,rfl⟩:=jj (show 0<=n by omega)
    cases hb:Nj l.length ((k:Int)+(d:Int)) m
    ·have b:qj _:=Wo (Xj (l:=l) (i:=k) (wd:=d) (by have:=fQ hb;rw [u.o];omega))
     go_wp2_with fail
     refine (Fv _ _ _ _ x).m ?_;rintro e g ⟨rfl,a⟩;subst a;rw [hb];go_wp2;go_ret2
     exact ⟨Rj (by rw [b.o.1]) b.o.2.s,bR⟩
    ·have f:=dD hb
     have b:qj (bQ l k d=(l.drop (k+d)).take m/\nF l k d=(k:Int)+d+m):=by
      have h:=cN (Zn (l:=l) (i:=k) (wd:=d) j.o (by rw [u.o];omega))
      rw [u.o] at h;exact h
     have t:qj _:=hb
     have J:0<=(k:Int)+(d:Int):=by omega
     have I:(k:Int)+(d:Int)<=(k:Int)+(d:Int)+(m:Int):=by omega
     have H:(k:Int)+(d:Int)+(m:Int)<=(l.length:Int):=by omega
     have c:((l.drop (k+d)).take m).length<=1099511627776:=by simp;omega
     have HP:qj _:=Jz l (k+d) m;clear hb f hneg;go_wp2_with fail
     refine (Fv _ _ _ _ x).m ?_;rintro e g ⟨rfl,a⟩;subst a;rw [t.o];clear t;go_wp2_with fail
     rw [HP.o];refine (Lq _ _ c).m ?_;rintro e L ⟨rfl,A⟩;clear c
     generalize (l.drop (k+d)).take m=r at b
     go_wp2;go_ret2
     exact ⟨Rj (by rw [b.o.1]) b.o.2.s,A⟩
end Go.Proofs.YtfpafnefpmmofaaGreatDoor
