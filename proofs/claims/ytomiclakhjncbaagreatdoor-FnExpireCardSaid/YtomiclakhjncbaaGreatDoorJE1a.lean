import Derived.Test.YtomiclakhjncbaaGreatDoorKECur
import Derived.Test.YtomiclakhjncbaaGreatDoorKEBase
import Derived.Deep.SlicePairs
import Derived.Lib.SmallJoins
import Derived.Lib.AppendZeros
import Derived.Deep.DeepCutAuto
import Derived.RangeFuncNested
import Derived.RangeFuncBound
import Derived.Shelf.RegionOpen
import Derived.OwnWalkIn
import Derived.LoopNIn
import Derived.LoopIn
import Derived.Lib.AppendIntMem
set_option maxRecDepth 100000
set_option maxHeartbeats 12800000
namespace Go.Proofs.YtomiclakhjncbaaGreatDoor
open Go.Proofs.Tryz
abbrev Ln:=Int×Int×Int
abbrev En:=Int×Int×Int×Int
def Cg (ls:List Ln) (k:Nat):Ln:=ls.getD k (0,0,0)
theorem Pu {ls:List Ln} {k:Nat} (h:k<ls.length):Cg ls k=ls[k]:=by simp [Cg,List.getD_eq_getElem?_getD,h]
theorem Ex {ls:List Ln} {k:Nat} (h:k<ls.length):Cg ls k ∈ ls:=by rw [Pu h];exact List.getElem_mem h
theorem Kl (ls:List Ln) (k:Nat) (h:k<ls.length):ls.take (k+1)=ls.take k++[Cg ls k]:=by rw [List.take_succ_eq_append_getElem h,Pu h]
theorem Tu (ls:List Ln) (k:Nat) (h:k<ls.length):ls.drop k=Cg ls k::ls.drop (k+1):=by rw [List.drop_eq_getElem_cons h,Pu h]
def Cb (a:Int):Bool:=decide (1≤a∧a≤9999)
def G7 (x:Ln):Bool:=Cb x.1 && (decide (0≤Dc x.2.1) && (fL x.2.2 && decide (x.2.2≠0)))
def E3 (x y:Ln):Bool:=decide (x.1<y.1∨x.1=y.1∧x.2.1<y.2.1)
def Az:Option Ln→List Ln→Bool
 | _,[]=>true
 | none,x::r=>G7 x && Az (some x) r
 | some y,x::r=>(G7 x && E3 y x) && Az (some x) r
def Ec (uV:Int) (ls:List Ln):Int:=(ls.map fun x=>if x.2.1=uV then x.2.2 else 0).sum
theorem N5 (uV:Int) (ls:List Ln) (k:Nat) (h:k<ls.length):Ec uV (ls.take (k+1))=Ec uV (ls.take k)+if (Cg ls k).2.1=uV then (Cg ls k).2.2 else 0:=by
 rw [Kl ls k h];simp [Ec]
def Wo (ls:List Ln):Bool:=Gi.all fun c=>decide (Ec c ls=0)
def At (ls:List Ln):Bool:=Az none ls && (decide (ls.length≤400) && Wo ls)
def Bt (e:En):Bool:=Cb e.1 && (Cb e.2.1 && (decide (e.1≠e.2.1) && (decide (0≤Dc e.2.2.1) && decide (1≤e.2.2.2∧e.2.2.2≤1000000000000))))
def My (x:Ln) (a c:Int):Bool:=decide (a<x.1∨x.1=a∧c≤x.2.1)
def Cr:List Ln→Int→Int→Int→List Ln
 | [],a,c,m=>[(a,c,m)]
 | x::r,a,c,m=>if My x a c=true then (if x.1=a∧x.2.1=c then (if x.2.2+m≠0 then (a,c,x.2.2+m)::r else r) else (a,c,m)::x::r) else x::Cr r a c m
def G5 (ls:List Ln) (e:En):List Ln:=Cr (Cr ls e.1 e.2.2.1 (-e.2.2.2)) e.2.1 e.2.2.1 e.2.2.2
def Cj (ls:List Ln) (e:En):Bool:=(At ls && Bt e) && At (G5 ls e)
def Gg (ls:List Ln) (e:En):List Ln:=if Cj ls e=true then G5 ls e else ls
def Ch:List Ln→List En→Option (List Ln)
 | ls,[]=>some ls
 | ls,e::r=>if Cj ls e=true then Ch (G5 ls e) r else none
theorem Dv {ls:List Ln} : ∀ {p:Option Ln},Az p ls=true→∀ x ∈ ls,G7 x=true:=by
 induction ls with
 | nil=>intro p _ x hx;cases hx
 | cons y r ih =>
  intro p h x hx
  cases p with
  | none =>
   simp only [Az,Bool.and_eq_true] at h
   rcases List.mem_cons.1 hx with rfl | hr
   ·exact h.1
   ·exact ih h.2 x hr
  | some q =>
   simp only [Az,Bool.and_eq_true] at h
   rcases List.mem_cons.1 hx with rfl | hr
   ·exact h.1.1
   ·exact ih h.2 x hr
theorem Ig {x:Ln} (h:G7 x=true):(1≤x.1∧x.1≤9999)∧0≤Dc x.2.1∧(-1000000000000≤x.2.2∧x.2.2≤1000000000000)∧x.2.2≠0:=by
 simp only [G7,Cb,Bool.and_eq_true,decide_eq_true_eq] at h
 exact ⟨h.1,h.2.1,rH h.2.2.1,h.2.2.2⟩
theorem Mp (ls:List Ln) (a c m:Int):(Cr ls a c m).length≤ls.length+1:=by
 induction ls with
 | nil=>simp [Cr]
 | cons x r ih =>
  simp only [Cr]
  split
  ·split
   ·split <;> simp <;> omega
   ·simp
  ·simp;omega
structure Au where
 ref:List UInt8
 iss:Int
 cur:Int
 am:Int
 day:Int
 used:Bool
def Jc:Au:=⟨[],0,0,0,0,false⟩
def Ak (az:List Au) (k:Nat):Au:=az.getD k Jc
theorem Gw {az:List Au} {k:Nat} (h:k<az.length):Ak az k=az[k]:=by simp [Ak,List.getD_eq_getElem?_getD,h]
theorem J8 {az:List Au} {k:Nat} (h:k<az.length):Ak az k ∈ az:=by rw [Gw h];exact List.getElem_mem h
def Kk (l:List UInt8):Bool:=decide (l.length=12) && A6 33 126 l
def Gy (a:Au):Bool:=Kk a.ref && (Cb a.iss && (decide (0≤Dc a.cur) && (decide (1≤a.am∧a.am≤100000000000) && Dn a.day)))
def E9 (a:Au) (day:Int):Bool:=decide (a.day≤day∧day≤a.day+7)
def Ia (a:Au) (am:Int):Bool:=decide (1≤am∧am≤a.am+a.am / 10)
def Xr (a:Au) (iss cur am day:Int):Bool:=Gy a && (!a.used && (decide (a.iss=iss) && (decide (a.cur=cur) && (E9 a day && Ia a am))))
def Ue (x:Int):Int:=if x<0 then -x else x
def Co (a:Au) (iss cur am day:Int):Int:=if Xr a iss cur am day=true then 8*Ue (am - a.am)+day - a.day else -1
theorem L0 {a:Au} (h:Gy a=true):Kk a.ref=true∧Cb a.iss=true∧0≤Dc a.cur∧(1≤a.am∧a.am≤100000000000)∧Dn a.day=true:=by
 simpa [Gy] using h
end Go.Proofs.YtomiclakhjncbaaGreatDoor
namespace Go.Proofs.YtomiclakhjncbaaGreatDoor
open Go.ChangeShapes Go.WideShapes Go.ChangeAt Go.RowKit Go.Deep Go.Proofs.Tryz
def Bf (n:Int):Prop:=(Lit.int .i64 n).wf=true
def Hw (x:Ln):Prop:=Bf x.1∧Bf x.2.1∧Bf x.2.2
def Ma (e:En):Prop:=Bf e.1∧Bf e.2.1∧Bf e.2.2.1∧Bf e.2.2.2
def Ai (w:World) (ao:Option Addr) (ls:List Ln):Prop :=
 ls=[]∨∃ b off,ao=some ⟨b,off,none⟩∧b<w.heap.size∧∀ i,i<ls.length →
  w.cell? ⟨b,off+i*3,none⟩=some (.int .i64 (Cg ls i).1)∧w.cell? ⟨b,off+i*3+1,none⟩=some (.int .i64 (Cg ls i).2.1)∧w.cell? ⟨b,off+i*3+2,none⟩=some (.int .i64 (Cg ls i).2.2)
theorem Ai.below {w w':World} {ao:Option Addr} {ls:List Ln} (h:Ai w ao ls) (hb:BW w w'):Ai w' ao ls:=by
 rcases h with h | ⟨b,off,h1,h2,h3⟩
 ·exact .inl h
 ·exact .inr ⟨b,off,h1,Nat.lt_of_lt_of_le h2 hb.size,fun i hi=>⟨(hb.cell (p:=⟨b,off+i*3,none⟩) h2).trans (h3 i hi).1,(hb.cell (p:=⟨b,off+i*3+1,none⟩) h2).trans (h3 i hi).2.1,(hb.cell (p:=⟨b,off+i*3+2,none⟩) h2).trans (h3 i hi).2.2⟩⟩
theorem Ai.at {w:World} {ao:Option Addr} {ls:List Ln} (h:Ai w ao ls) {k:Nat} (hk:k<ls.length) :
  ∃ b off,ao=some ⟨b,off,none⟩∧b<w.heap.size∧w.cell? ⟨b,off+k*3,none⟩=some (.int .i64 (Cg ls k).1)∧w.cell? ⟨b,off+k*3+1,none⟩=some (.int .i64 (Cg ls k).2.1)∧w.cell? ⟨b,off+k*3+2,none⟩=some (.int .i64 (Cg ls k).2.2):=by
 rcases h with rfl | ⟨b,off,h1,h2,h3⟩
 ·simp at hk
 ·exact ⟨b,off,h1,h2,h3 k hk⟩
def I4 (es:List En) (k:Nat):En:=es.getD k (0,0,0,0)
theorem bI {es:List En} {k:Nat} (h:k<es.length):I4 es k=es[k]:=by simp [I4,List.getD_eq_getElem?_getD,h]
theorem lJ {es:List En} {k:Nat} (h:k<es.length):I4 es k ∈ es:=by rw [bI h];exact List.getElem_mem h
def C8 (w:World) (ao:Option Addr) (es:List En):Prop :=
 es=[]∨∃ b off,ao=some ⟨b,off,none⟩∧b<w.heap.size∧∀ i,i<es.length →
  w.cell? ⟨b,off+i*4,none⟩=some (.int .i64 (I4 es i).1)∧w.cell? ⟨b,off+i*4+1,none⟩=some (.int .i64 (I4 es i).2.1)∧w.cell? ⟨b,off+i*4+2,none⟩=some (.int .i64 (I4 es i).2.2.1)∧w.cell? ⟨b,off+i*4+3,none⟩=some (.int .i64 (I4 es i).2.2.2)
theorem C8.below {w w':World} {ao:Option Addr} {es:List En} (h:C8 w ao es) (hb:BW w w'):C8 w' ao es:=by
 rcases h with h | ⟨b,off,h1,h2,h3⟩
 ·exact .inl h
 ·exact .inr ⟨b,off,h1,Nat.lt_of_lt_of_le h2 hb.size,fun i hi=>⟨(hb.cell (p:=⟨b,off+i*4,none⟩) h2).trans (h3 i hi).1,(hb.cell (p:=⟨b,off+i*4+1,none⟩) h2).trans (h3 i hi).2.1,(hb.cell (p:=⟨b,off+i*4+2,none⟩) h2).trans (h3 i hi).2.2.1,(hb.cell (p:=⟨b,off+i*4+3,none⟩) h2).trans (h3 i hi).2.2.2⟩⟩
theorem C8.at {w:World} {ao:Option Addr} {es:List En} (h:C8 w ao es) {k:Nat} (hk:k<es.length) :
  ∃ b off,ao=some ⟨b,off,none⟩∧b<w.heap.size∧w.cell? ⟨b,off+k*4,none⟩=some (.int .i64 (I4 es k).1)∧w.cell? ⟨b,off+k*4+1,none⟩=some (.int .i64 (I4 es k).2.1)∧w.cell? ⟨b,off+k*4+2,none⟩=some (.int .i64 (I4 es k).2.2.1)∧w.cell? ⟨b,off+k*4+3,none⟩=some (.int .i64 (I4 es k).2.2.2):=by
 rcases h with rfl | ⟨b,off,h1,h2,h3⟩
 ·simp at hk
 ·exact ⟨b,off,h1,h2,h3 k hk⟩
section
variable {P:Program} {H:Type} {enc:TypeId×Value→H} {W:World}
end
def Lm (x:Ln):List Value:=[.int .i64 x.1,.int .i64 x.2.1,.int .i64 x.2.2]
def Ag (ls:List Ln):List Value:=ls.flatMap Lm
theorem Kj (x:Ln) (r:List Ln):Ag (x::r)=.int .i64 x.1::.int .i64 x.2.1::.int .i64 x.2.2::Ag r:=rfl
theorem Ip (a b:List Ln):Ag (a++b)=Ag a++Ag b:=by simp [Ag]
theorem Cn (ls:List Ln):(Ag ls).length=ls.length*3:=by
 induction ls with
 | nil=>rfl
 | cons f r ih=>rw [Kj];simp [ih];omega
theorem Hj (ls:List Ln):∀ k,k<ls.length→(Ag ls)[k*3]?=some (.int .i64 (Cg ls k).1)∧(Ag ls)[k*3+1]?=some (.int .i64 (Cg ls k).2.1)∧(Ag ls)[k*3+2]?=some (.int .i64 (Cg ls k).2.2):=by
 induction ls with
 | nil=>intro k h;simp at h
 | cons f r ih =>
  intro k h;rw [Kj]
  cases k with
  | zero=>exact ⟨rfl,rfl,rfl⟩
  | succ k =>
   have:=ih k (by simpa using h)
   rw [show (k+1) * 3=k*3+1+1+1 by omega]
   simp only [List.getElem?_cons_succ]
   exact this
theorem Z5 (ls:List Ln):∀ u ∈ Ag ls,u.oneCell'=true:=by
 intro u hu
 simp only [Ag,List.mem_flatMap,Lm] at hu
 obtain ⟨f,_,hf⟩:=hu
 simp at hf
 rcases hf with rfl | rfl | rfl <;> rfl
theorem Ef {w:World} {base n:Nat} {t:TypeId} {v:Value} {ls:List Ln} (h:w.ownsRow base t 3 v n (Ag ls)):∃ ao cap,v=.slice ao ls.length cap∧Ai w ao ls∧n=ls.length:=by
 have hn:n=ls.length:=by have:=h.1;rw [Cn] at this;omega
 subst hn
 rcases h.2 with ⟨rfl,hn⟩ | ⟨g,cap,uV,rfl,_⟩
 ·have:ls=[]:=List.eq_nil_of_length_eq_zero hn
  subst this;exact ⟨none,0,rfl,.inl rfl,rfl⟩
 ·refine ⟨_,cap,rfl,?_,rfl⟩
  by_cases h0:ls=[]
  ·exact .inl h0
  ·refine .inr ⟨g,0,rfl,(h.lt g rfl).2,fun i hi=>?_⟩
   have:=Hj ls i hi
   rw [Nat.zero_add,h.cellAt (i*3) (by omega),h.cellAt (i*3+1) (by omega),h.cellAt (i*3+2) (by omega)]
   exact this
def Kx (a:Au):List Value:=[.string ⟨a.ref.toArray⟩,.int .i64 a.iss,.int .i64 a.cur,.int .i64 a.am,.int .i64 a.day,.bool a.used]
def Fe (a:Au):Value:=.agg #[.string ⟨a.ref.toArray⟩,.int .i64 a.iss,.int .i64 a.cur,.int .i64 a.am,.int .i64 a.day,.bool a.used]
def Ar (w:World) (ao:Option Addr) (az:List Au):Prop :=
 az=[]∨∃ b off,ao=some ⟨b,off,none⟩∧b<w.heap.size∧∀ i,i<az.length →
  w.cell? ⟨b,off+i*6,none⟩=some (.string ⟨(Ak az i).ref.toArray⟩)∧w.cell? ⟨b,off+i*6+1,none⟩=some (.int .i64 (Ak az i).iss)∧w.cell? ⟨b,off+i*6+2,none⟩=some (.int .i64 (Ak az i).cur)∧w.cell? ⟨b,off+i*6+3,none⟩=some (.int .i64 (Ak az i).am)∧w.cell? ⟨b,off+i*6+4,none⟩=some (.int .i64 (Ak az i).day)∧w.cell? ⟨b,off+i*6+5,none⟩=some (.bool (Ak az i).used)
theorem Ar.below {w w':World} {ao:Option Addr} {az:List Au} (h:Ar w ao az) (hb:BW w w'):Ar w' ao az:=by
 rcases h with h | ⟨b,off,h1,h2,h3⟩
 ·exact .inl h
 ·exact .inr ⟨b,off,h1,Nat.lt_of_lt_of_le h2 hb.size,fun i hi=>⟨(hb.cell (p:=⟨b,off+i*6,none⟩) h2).trans (h3 i hi).1,(hb.cell (p:=⟨b,off+i*6+1,none⟩) h2).trans (h3 i hi).2.1,(hb.cell (p:=⟨b,off+i*6+2,none⟩) h2).trans (h3 i hi).2.2.1,(hb.cell (p:=⟨b,off+i*6+3,none⟩) h2).trans (h3 i hi).2.2.2.1,(hb.cell (p:=⟨b,off+i*6+4,none⟩) h2).trans (h3 i hi).2.2.2.2.1,(hb.cell (p:=⟨b,off+i*6+5,none⟩) h2).trans (h3 i hi).2.2.2.2.2⟩⟩
section
variable {P:Program} {H:Type} {enc:TypeId×Value→H} {W:World}
end
end Go.Proofs.YtomiclakhjncbaaGreatDoor
namespace Go.Proofs.YtomiclakhjncbaaGreatDoor
open Go.RowKit Go.Proofs.Tryz
theorem Iw {w w':World} {base n size:Nat} {t:TypeId} {v:Value} {xs:List Value} (h:w.ownsRow base t size v n xs) (hb:BW w w'):w'.ownsRow base t size v n xs:=by
 obtain ⟨h1,h2⟩:=h;refine ⟨h1,?_⟩
 rcases h2 with h | ⟨g,cap,uV,hv,hg,hh,a1,a2,a3,a4⟩
 ·exact .inl h
 ·have hlt:g<w.heap.size:=(Array.getElem?_eq_some_iff.1 hh).1
  exact .inr ⟨g,cap,uV,hv,hg,(hb.block g hlt).trans hh,a1,a2,a3,a4⟩
theorem Ri {w:World} {base base' n size:Nat} {t:TypeId} {v:Value} {xs:List Value} (h:w.ownsRow base t size v n xs) (hb:base'≤base):w.ownsRow base' t size v n xs:=by
 obtain ⟨h1,h2⟩:=h;refine ⟨h1,?_⟩
 rcases h2 with h | ⟨g,cap,uV,hv,hg,r⟩
 ·exact .inl h
 ·exact .inr ⟨g,cap,uV,hv,Nat.le_trans hb hg,r⟩
def Ah (az:List Au):List Value:=az.flatMap Kx
theorem Ju (a:Au) (r:List Au):Ah (a::r)=.string ⟨a.ref.toArray⟩::.int .i64 a.iss::.int .i64 a.cur::.int .i64 a.am::.int .i64 a.day::.bool a.used::Ah r:=rfl
theorem F9 (a b:List Au):Ah (a++b)=Ah a++Ah b:=by simp [Ah]
theorem E2 (az:List Au):(Ah az).length=az.length*6:=by
 induction az with
 | nil=>rfl
 | cons a r ih=>rw [Ju];simp [ih];omega
theorem De (az:List Au):∀ k,k<az.length→(Ah az)[k*6]?=some (.string ⟨(Ak az k).ref.toArray⟩)∧(Ah az)[k*6+1]?=some (.int .i64 (Ak az k).iss)∧(Ah az)[k*6+2]?=some (.int .i64 (Ak az k).cur)∧(Ah az)[k*6+3]?=some (.int .i64 (Ak az k).am)∧(Ah az)[k*6+4]?=some (.int .i64 (Ak az k).day)∧(Ah az)[k*6+5]?=some (.bool (Ak az k).used):=by
 induction az with
 | nil=>intro k h;simp at h
 | cons a r ih =>
  intro k h;rw [Ju]
  cases k with
  | zero=>exact ⟨rfl,rfl,rfl,rfl,rfl,rfl⟩
  | succ k =>
   have:=ih k (by simpa using h)
   rw [show (k+1) * 6=k*6+1+1+1+1+1+1 by omega,show k*6+1+1+1+1+1+1+1=(k*6+1)+1+1+1+1+1+1 by omega,show k*6+1+1+1+1+1+1+2=(k*6+2)+1+1+1+1+1+1 by omega,show k*6+1+1+1+1+1+1+3=(k*6+3)+1+1+1+1+1+1 by omega,show k*6+1+1+1+1+1+1+4=(k*6+4)+1+1+1+1+1+1 by omega,show k*6+1+1+1+1+1+1+5=(k*6+5)+1+1+1+1+1+1 by omega]
   simp only [List.getElem?_cons_succ]
   exact this
theorem Hu (az:List Au) (a:Au):∀ k,k<az.length→(((((((Ah az).set (k*6) (.string ⟨a.ref.toArray⟩)).set (k*6+1) (.int .i64 a.iss)).set (k*6+2) (.int .i64 a.cur)).set (k*6+3) (.int .i64 a.am)).set (k*6+4) (.int .i64 a.day)).set (k*6+5) (.bool a.used))=Ah (az.set k a):=by
 induction az with
 | nil=>intro k h;simp at h
 | cons g r ih =>
  intro k h;rw [Ju]
  cases k with
  | zero=>rfl
  | succ k =>
   have:=ih k (by simpa using h)
   rw [show (k+1) * 6=k*6+1+1+1+1+1+1 by omega,show k*6+1+1+1+1+1+1+1=(k*6+1)+1+1+1+1+1+1 by omega,show k*6+1+1+1+1+1+1+2=(k*6+2)+1+1+1+1+1+1 by omega,show k*6+1+1+1+1+1+1+3=(k*6+3)+1+1+1+1+1+1 by omega,show k*6+1+1+1+1+1+1+4=(k*6+4)+1+1+1+1+1+1 by omega,show k*6+1+1+1+1+1+1+5=(k*6+5)+1+1+1+1+1+1 by omega]
   simp only [List.set_cons_succ,this]
   rfl
theorem G9 {xs:List Value} {k:Nat} {v:Value} (h:xs[k]?=some v):xs.set k v=xs:=by
 apply List.ext_getElem? ;intro i
 by_cases e:k=i
 ·subst e
  rw [List.getElem?_set_self (List.getElem?_eq_some_iff.1 h).1,h]
 ·rw [List.getElem?_set_ne e]
theorem On (az:List Au) (b:Bool) (k:Nat) (h:k<az.length):(Ah az).set (k*6+5) (.bool b)=Ah (az.set k ⟨(Ak az k).ref,(Ak az k).iss,(Ak az k).cur,(Ak az k).am,(Ak az k).day,b⟩):=by
 rw [← Hu az _ k h];obtain ⟨h0,h1,h2,h3,h4,h5⟩:=De az k h
 simp only
 rw [G9 h0,G9 h1,G9 h2,G9 h3,G9 h4]
theorem aN (az:List Au):∀ u ∈ Ah az,u.oneCell'=true:=by
 intro u hu;obtain ⟨a,_,h⟩:=List.mem_flatMap.1 hu
 simp only [Kx,List.mem_cons,List.not_mem_nil,or_false] at h
 rcases h with rfl | rfl | rfl | rfl | rfl | rfl <;> rfl
theorem Ul {w:World} {base g n cap:Nat} {t:TypeId} {az:List Au} (h:w.ownsRow base t 6 (.slice (some ⟨g,0,none⟩) n cap) n (Ah az)):Ar w (some ⟨g,0,none⟩) az:=by
 have hl:=h.1;rw [E2] at hl
 by_cases h0:az=[]
 ·exact .inl h0
 ·have hlt:=(h.lt g rfl).2
  refine .inr ⟨g,0,rfl,hlt,fun i hi=>?_⟩
  have:=De az i hi
  rw [Nat.zero_add,h.cellAt (i*6) (by omega),h.cellAt (i*6+1) (by omega),h.cellAt (i*6+2) (by omega),h.cellAt (i*6+3) (by omega),h.cellAt (i*6+4) (by omega),h.cellAt (i*6+5) (by omega)]
  exact this
theorem Lo {w:World} {base n:Nat} {t:TypeId} {v:Value} {az:List Au} (h:w.ownsRow base t 6 v n (Ah az)):∃ ao cap,v=.slice ao az.length cap∧Ar w ao az∧n=az.length:=by
 have hn:n=az.length:=by have:=h.1;rw [E2] at this;omega
 subst hn
 rcases h.2 with ⟨rfl,hn⟩ | ⟨g,cap,uV,rfl,_⟩
 ·have:az=[]:=List.eq_nil_of_length_eq_zero hn
  subst this;exact ⟨none,0,rfl,.inl rfl,rfl⟩
 ·exact ⟨_,cap,rfl,Ul h,rfl⟩
theorem Fd {w:World} {base n:Nat} {t:TypeId} {ao:Option Addr} {cap:Nat} {az:List Au} (h:w.ownsRow base t 6 (.slice ao n cap) n (Ah az)):Ar w ao az:=by
 obtain ⟨ao',cap',hv,hf,_⟩:=Lo h
 obtain ⟨rfl,_⟩:ao=ao'∧n=az.length∧cap=cap':=by simpa using hv
 exact hf
def Du (az:List Au) (k:Nat):List Au:=az.take k++List.replicate (az.length - k) Jc
theorem Pz (az:List Au):Du az 0=List.replicate az.length Jc:=by simp [Du]
theorem Sv (az:List Au):Du az az.length=az:=by simp [Du]
theorem Iu (az:List Au) (k:Nat) (h:k≤az.length):(Du az k).length=az.length:=by simp [Du];omega
theorem Ly (az:List Au) (k:Nat) (h:k<az.length):(Du az k).set k (Ak az k)=Du az (k+1):=by
 unfold Du
 rw [List.set_append,if_neg (by simp;omega),List.length_take,Nat.min_eq_left (Nat.le_of_lt h),Nat.sub_self,show az.length - k=az.length - (k+1)+1 by omega,List.replicate_succ,List.set_cons_zero,List.take_succ_eq_append_getElem h,Gw h,List.append_assoc]
 rfl
theorem Wu (az:List Au) (k:Nat) (h:k<az.length):Ak (Du az k) k=Jc:=by
 simp [Ak,Du,List.getD_eq_getElem?_getD,List.getElem?_append,Nat.min_eq_left (Nat.le_of_lt h),List.getElem?_replicate]
 split <;> rfl
theorem cF:(prog.info? 107).map (fun i=>(i.zero,i.size,i.bytes))=some (some (.agg #[.string ⟨#[]⟩,.int .i64 0,.int .i64 0,.int .i64 0,.int .i64 0,.bool false]),6,56):=by kernel_rfl
theorem Qx (m:Nat):(madeCells (Value.agg #[.string ⟨#[]⟩,.int .i64 0,.int .i64 0,.int .i64 0,.int .i64 0,.bool false]).cells (m*6)).toList=Ah (List.replicate m Jc):=by
 apply List.ext_getElem?;intro j
 by_cases hj:j<m*6
 ·have hq:j / 6<(List.replicate m Jc).length:=by simp;omega
  have ha:Ak (List.replicate m Jc) (j / 6)=Jc:=by
   simp [Ak,List.getD_eq_getElem?_getD,List.getElem?_replicate];split <;> rfl
  have h:=De _ _ hq;rw [ha] at h
  have hl:(madeCells (Value.agg #[.string ⟨#[]⟩,.int .i64 0,.int .i64 0,.int .i64 0,.int .i64 0,.bool false]).cells (m*6)).toList[j]?=some ((#[Value.string ⟨#[]⟩,.int .i64 0,.int .i64 0,.int .i64 0,.int .i64 0,.bool false]:Array Value)[j % 6]!):=by
   simp [madeCells,hj,Value.cells]
  obtain ⟨h0,h1,h2,h3,h4,h5⟩:=h
  rcases (show j % 6=0∨j % 6=1∨j % 6=2∨j % 6=3∨j % 6=4∨j % 6=5 by omega) with e | e | e | e | e | e
  ·rw [hl,e,show j=j / 6*6 by omega,h0];rfl
  ·rw [hl,e,show j=j / 6*6+1 by omega,h1];rfl
  ·rw [hl,e,show j=j / 6*6+2 by omega,h2];rfl
  ·rw [hl,e,show j=j / 6*6+3 by omega,h3];rfl
  ·rw [hl,e,show j=j / 6*6+4 by omega,h4];rfl
  ·rw [hl,e,show j=j / 6*6+5 by omega,h5];rfl
 ·rw [List.getElem?_eq_none (by rw [Array.length_toList,size_madeCells];omega),List.getElem?_eq_none (by rw [E2];simp;omega)]
end Go.Proofs.YtomiclakhjncbaaGreatDoor
namespace Go.Proofs.YtomiclakhjncbaaGreatDoor
open Go.Proofs.Tryz
structure Cs where
 iss:Int
 acq:Int
 cur:Int
 am:Int
 st:Int
 rsn:Int
 cl:Int
 bk:Int
 fee:Int
 cop:Bool
 sta:Int
 due:Int
structure Ac where
 kind:Int
 am:Int
 rsn:Int
def Oy (x:Int):Bool:=x == 4837 || x == 4855 || x == 4834 || x == 4831 || x == 4853 || x == 4841
def Fs (x:Int):Int:=if x=4837 then 85 else if x=4855 then 65 else if x=4834 then 45 else if x=4831 then 45 else if x=4853 then 65 else if x=4841 then 45 else -1
def Gb (x:Int):Bool:=x == 4831 || x == 4853
def E8 (x:Int):Bool:=x == 4837 || x == 4834
theorem K7 (x:Int):x=4837∨x=4855∨x=4834∨x=4831∨x=4853∨x=4841∨(x≠4837∧x≠4855∧x≠4834∧x≠4831∧x≠4853∧x≠4841):=by omega
theorem Up {x:Int} (h:x≠4837∧x≠4855∧x≠4834∧x≠4831∧x≠4853∧x≠4841):Oy x=false:=by simp [Oy,h]
theorem jX {x:Int} (h:x≠4837∧x≠4855∧x≠4834∧x≠4831∧x≠4853∧x≠4841):Fs x = -1:=by simp [Fs,h]
theorem mD {x:Int} (h:x≠4837∧x≠4855∧x≠4834∧x≠4831∧x≠4853∧x≠4841):Gb x=false:=by simp [Gb,h]
theorem gS {x:Int} (h:x≠4837∧x≠4855∧x≠4834∧x≠4831∧x≠4853∧x≠4841):E8 x=false:=by simp [E8,h]
def Ls (st:Int):Bool:=decide (0≤st∧st≤2) || decide (st=7)
def Fb (a:Int):Bool:=Cb a && decide (a≠9999)
def Cy (r st:Int):Bool:=Oy r || (decide (r=0) && Ls st)
def Ao (c:Cs):Bool :=
 Fb c.iss && (Fb c.acq && (decide (c.iss≠c.acq) && (decide (0≤Dc c.cur) && (decide (1≤c.am∧c.am≤100000000000) && (decide (0≤c.st∧c.st≤7) && (Cy c.rsn c.st &&
  (decide (0≤c.cl∧c.cl≤c.am) && (decide (0≤c.bk∧c.bk≤c.am) && (decide (0≤c.fee∧c.fee≤500000) && (Dn c.sta && (Dn c.due || decide (c.due = -1))))))))))))
theorem Jb {c:Cs} (h:Ao c=true):Fb c.iss=true∧Fb c.acq=true∧c.iss≠c.acq∧0≤Dc c.cur∧(1≤c.am∧c.am≤100000000000)∧(0≤c.st∧c.st≤7)∧Cy c.rsn c.st=true ∧
  (0≤c.cl∧c.cl≤c.am)∧(0≤c.bk∧c.bk≤c.am)∧(0≤c.fee∧c.fee≤500000)∧Dn c.sta=true∧(Dn c.due=true∨c.due = -1):=by
 simpa [Ao] using h
def Ci (iss acq cur am day:Int):Cs:=⟨iss,acq,cur,am,0,0,0,0,0,false,day,-1⟩
end Go.Proofs.YtomiclakhjncbaaGreatDoor
namespace Go.Proofs.YtomiclakhjncbaaGreatDoor
open Go.RowKit Go.Proofs.Tryz
def cv (c:Cs):Value:=.agg #[.int .i64 c.iss,.int .i64 c.acq,.int .i64 c.cur,.int .i64 c.am,.int .i64 c.st,.int .i64 c.rsn,.int .i64 c.cl,.int .i64 c.bk,.int .i64 c.fee,.bool c.cop,.int .i64 c.sta,.int .i64 c.due]
def Xt (c:Cs):Array Value:=#[.int .i64 c.iss,.int .i64 c.acq,.int .i64 c.cur,.int .i64 c.am,.int .i64 c.st,.int .i64 c.rsn,.int .i64 c.cl,.int .i64 c.bk,.int .i64 c.fee,.bool c.cop,.int .i64 c.sta,.int .i64 c.due]
structure CB (s o:Nat) (c:Cs) (u:World):Prop where
 f0:u.cell? ⟨s,o,none⟩=some (.int .i64 c.iss)
 f1:u.cell? ⟨s,o+1,none⟩=some (.int .i64 c.acq)
 f2:u.cell? ⟨s,o+2,none⟩=some (.int .i64 c.cur)
 f3:u.cell? ⟨s,o+3,none⟩=some (.int .i64 c.am)
 f4:u.cell? ⟨s,o+4,none⟩=some (.int .i64 c.st)
 f5:u.cell? ⟨s,o+5,none⟩=some (.int .i64 c.rsn)
 f6:u.cell? ⟨s,o+6,none⟩=some (.int .i64 c.cl)
 f7:u.cell? ⟨s,o+7,none⟩=some (.int .i64 c.bk)
 f8:u.cell? ⟨s,o+8,none⟩=some (.int .i64 c.fee)
 f9:u.cell? ⟨s,o+9,none⟩=some (.bool c.cop)
 f10:u.cell? ⟨s,o+10,none⟩=some (.int .i64 c.sta)
 f11:u.cell? ⟨s,o+11,none⟩=some (.int .i64 c.due)
theorem CB.lt {s o:Nat} {c:Cs} {u:World} (h:CB s o c u):s<u.heap.size:=World.block_lt_of_cell? u _ h.f0
theorem CB.below {s o:Nat} {c:Cs} {u u':World} (h:CB s o c u) (b:BW u u'):CB s o c u':=by
 have l:=h.lt
 exact ⟨(b.cell (p:=⟨s,o,none⟩) l).trans h.f0,(b.cell (p:=⟨s,o+1,none⟩) l).trans h.f1,(b.cell (p:=⟨s,o+2,none⟩) l).trans h.f2,(b.cell (p:=⟨s,o+3,none⟩) l).trans h.f3,(b.cell (p:=⟨s,o+4,none⟩) l).trans h.f4,(b.cell (p:=⟨s,o+5,none⟩) l).trans h.f5,
  (b.cell (p:=⟨s,o+6,none⟩) l).trans h.f6,(b.cell (p:=⟨s,o+7,none⟩) l).trans h.f7,(b.cell (p:=⟨s,o+8,none⟩) l).trans h.f8,(b.cell (p:=⟨s,o+9,none⟩) l).trans h.f9,(b.cell (p:=⟨s,o+10,none⟩) l).trans h.f10,(b.cell (p:=⟨s,o+11,none⟩) l).trans h.f11⟩
theorem CB.grown {s o:Nat} {c:Cs} {u u':World} {row:Option Nat} (h:CB s o c u) (g:u.grownBy u' row) (hr:some s≠row):CB s o c u':=by
 have l:=h.lt
 exact ⟨(g.cell_far ⟨s,o,none⟩ l hr).trans h.f0,(g.cell_far ⟨s,o+1,none⟩ l hr).trans h.f1,(g.cell_far ⟨s,o+2,none⟩ l hr).trans h.f2,(g.cell_far ⟨s,o+3,none⟩ l hr).trans h.f3,(g.cell_far ⟨s,o+4,none⟩ l hr).trans h.f4,(g.cell_far ⟨s,o+5,none⟩ l hr).trans h.f5,
  (g.cell_far ⟨s,o+6,none⟩ l hr).trans h.f6,(g.cell_far ⟨s,o+7,none⟩ l hr).trans h.f7,(g.cell_far ⟨s,o+8,none⟩ l hr).trans h.f8,(g.cell_far ⟨s,o+9,none⟩ l hr).trans h.f9,(g.cell_far ⟨s,o+10,none⟩ l hr).trans h.f10,(g.cell_far ⟨s,o+11,none⟩ l hr).trans h.f11⟩
theorem CB.new (w:World) (c:Cs) (t:TypeId):CB w.heap.size 0 c (w.alloc (.cells #[.int .i64 c.iss,.int .i64 c.acq,.int .i64 c.cur,.int .i64 c.am,.int .i64 c.st,.int .i64 c.rsn,.int .i64 c.cl,.int .i64 c.bk,.int .i64 c.fee,.bool c.cop,.int .i64 c.sta,.int .i64 c.due] t)):=by
 exact ⟨by simp,by simp,by simp,by simp,by simp,by simp,by simp,by simp,by simp,by simp,by simp,by simp⟩
structure FZ (s o:Nat) (u:World):Prop where
 z0:u.frozen? ⟨s,o,none⟩=false
 z1:u.frozen? ⟨s,o+1,none⟩=false
 z2:u.frozen? ⟨s,o+2,none⟩=false
 z3:u.frozen? ⟨s,o+3,none⟩=false
 z4:u.frozen? ⟨s,o+4,none⟩=false
 z5:u.frozen? ⟨s,o+5,none⟩=false
 z6:u.frozen? ⟨s,o+6,none⟩=false
 z7:u.frozen? ⟨s,o+7,none⟩=false
 z8:u.frozen? ⟨s,o+8,none⟩=false
 z9:u.frozen? ⟨s,o+9,none⟩=false
 z10:u.frozen? ⟨s,o+10,none⟩=false
 z11:u.frozen? ⟨s,o+11,none⟩=false
theorem FZ.below {s o:Nat} {u u':World} (h:FZ s o u) (l:s<u.heap.size) (b:BW u u'):FZ s o u' :=
 ⟨(b.frozen (p:=⟨s,o,none⟩) l).trans h.z0,(b.frozen (p:=⟨s,o+1,none⟩) l).trans h.z1,(b.frozen (p:=⟨s,o+2,none⟩) l).trans h.z2,(b.frozen (p:=⟨s,o+3,none⟩) l).trans h.z3,(b.frozen (p:=⟨s,o+4,none⟩) l).trans h.z4,(b.frozen (p:=⟨s,o+5,none⟩) l).trans h.z5,(b.frozen (p:=⟨s,o+6,none⟩) l).trans h.z6,(b.frozen (p:=⟨s,o+7,none⟩) l).trans h.z7,(b.frozen (p:=⟨s,o+8,none⟩) l).trans h.z8,(b.frozen (p:=⟨s,o+9,none⟩) l).trans h.z9,(b.frozen (p:=⟨s,o+10,none⟩) l).trans h.z10,(b.frozen (p:=⟨s,o+11,none⟩) l).trans h.z11⟩
theorem FZ.grown {s o:Nat} {u u':World} {row:Option Nat} (h:FZ s o u) (l:s<u.heap.size) (g:u.grownBy u' row) (hr:some s≠row):FZ s o u' :=
 ⟨(g.frozen_far ⟨s,o,none⟩ l hr).trans h.z0,(g.frozen_far ⟨s,o+1,none⟩ l hr).trans h.z1,(g.frozen_far ⟨s,o+2,none⟩ l hr).trans h.z2,(g.frozen_far ⟨s,o+3,none⟩ l hr).trans h.z3,(g.frozen_far ⟨s,o+4,none⟩ l hr).trans h.z4,(g.frozen_far ⟨s,o+5,none⟩ l hr).trans h.z5,(g.frozen_far ⟨s,o+6,none⟩ l hr).trans h.z6,(g.frozen_far ⟨s,o+7,none⟩ l hr).trans h.z7,(g.frozen_far ⟨s,o+8,none⟩ l hr).trans h.z8,(g.frozen_far ⟨s,o+9,none⟩ l hr).trans h.z9,(g.frozen_far ⟨s,o+10,none⟩ l hr).trans h.z10,(g.frozen_far ⟨s,o+11,none⟩ l hr).trans h.z11⟩
theorem FZ.new (w:World) (cs:Array Value) (t:TypeId):FZ w.heap.size 0 (w.alloc (.cells cs t)) :=
 (by constructor<;>simp [go_sem, *])
def Cz (u:World) (h:Nat) (c:Cs):World :=
 (((((((((((u.setCell ⟨h,0,none⟩ (.int .i64 c.iss)).setCell ⟨h,1,none⟩ (.int .i64 c.acq)).setCell ⟨h,2,none⟩ (.int .i64 c.cur)).setCell ⟨h,3,none⟩ (.int .i64 c.am)).setCell ⟨h,4,none⟩ (.int .i64 c.st)).setCell ⟨h,5,none⟩ (.int .i64 c.rsn)).setCell ⟨h,6,none⟩ (.int .i64 c.cl)).setCell ⟨h,7,none⟩ (.int .i64 c.bk)).setCell ⟨h,8,none⟩ (.int .i64 c.fee)).setCell ⟨h,9,none⟩ (.bool c.cop)).setCell ⟨h,10,none⟩ (.int .i64 c.sta)).setCell ⟨h,11,none⟩ (.int .i64 c.due)
theorem Cp {w u:World} {h n:Nat} (c:Cs) (b:Below n w u) (hn:n≤h):Below n w (Cz u h c) :=
 (((((((((((b.setCell hn _).setCell hn _).setCell hn _).setCell hn _).setCell hn _).setCell hn _).setCell hn _).setCell hn _).setCell hn _).setCell hn _).setCell hn _).setCell hn _
theorem Mb {u:World} {h:Nat} {c d:Cs} (b:CB h 0 d u):CB h 0 c (Cz u h c):=by
 obtain ⟨f0,f1,f2,f3,f4,f5,f6,f7,f8,f9,f10,f11⟩:=b
 simp only [Nat.zero_add] at f0 f1 f2 f3 f4 f5 f6 f7 f8 f9 f10 f11
 exact ⟨by simp [Cz,go_sem,f0],by simp [Cz,go_sem,f1],by simp [Cz,go_sem,f2],by simp [Cz,go_sem,f3],by simp [Cz,go_sem,f4],by simp [Cz,go_sem,f5],by simp [Cz,go_sem,f6],by simp [Cz,go_sem,f7],by simp [Cz,go_sem,f8],by simp [Cz,go_sem,f9],by simp [Cz,go_sem,f10],by simp [Cz,go_sem,f11]⟩
theorem Av {w w':World} {base n size:Nat} {t:TypeId} {v:Value} {xs:List Value} (h:w.ownsRow base t size v n xs) (hb:BW w w'):w'.ownsRow base t size v n xs:=by
 obtain ⟨h1,h2⟩:=h;refine ⟨h1,?_⟩
 rcases h2 with h | ⟨g,cap,uV,hv,hg,hh,a1,a2,a3,a4⟩
 ·exact .inl h
 ·have hlt:g<w.heap.size:=(Array.getElem?_eq_some_iff.1 hh).1
  exact .inr ⟨g,cap,uV,hv,hg,(hb.block g hlt).trans hh,a1,a2,a3,a4⟩
theorem A5 {w:World} {base n size:Nat} {t:TypeId} {v:Value} {xs:List Value} (h:w.ownsRow base t size v n xs) (p:Addr) (u:Value) (hp:∀ g,v.ownBlock=some g→g≠p.block):(w.setCell p u).ownsRow base t size v n xs:=by
 obtain ⟨h1,h2⟩:=h;refine ⟨h1,?_⟩
 rcases h2 with h | ⟨g,cap,uV,hv,hg,hh,a1,a2,a3,a4⟩
 ·exact .inl h
 ·exact .inr ⟨g,cap,uV,hv,hg,(Below.heap_setCell w p u g (hp g (by rw [hv];rfl))).trans hh,a1,a2,a3,a4⟩
theorem sH {w w':World} {base n size:Nat} {t:TypeId} {v:Value} {xs:List Value} {row:Option Nat} (h:w.ownsRow base t size v n xs) (hg:w.grownBy w' row) (hne:∀ g,v.ownBlock=some g→some g≠row):w'.ownsRow base t size v n xs:=by
 obtain ⟨h1,h2⟩:=h;refine ⟨h1,?_⟩
 rcases h2 with h | ⟨g,cap,uV,hv,hg',hh,a1,a2,a3,a4⟩
 ·exact .inl h
 ·have hlt:g<w.heap.size:=(Array.getElem?_eq_some_iff.1 hh).1
  exact .inr ⟨g,cap,uV,hv,hg',(hg.block g hlt (hne g (by rw [hv];rfl))).trans hh,a1,a2,a3,a4⟩
theorem Bi {w:World} {base base' n size:Nat} {t:TypeId} {v:Value} {xs:List Value} (h:w.ownsRow base t size v n xs) (hb:base'≤base):w.ownsRow base' t size v n xs:=by
 obtain ⟨h1,h2⟩:=h;refine ⟨h1,?_⟩
 rcases h2 with h | ⟨g,cap,uV,hv,hg,r⟩
 ·exact .inl h
 ·exact .inr ⟨g,cap,uV,hv,Nat.le_trans hb hg,r⟩
theorem bY:(prog.info? 113).map (fun i=>(i.zero,i.size,i.bytes))=some (some (.agg #[.int .i64 0,.int .i64 0,.int .i64 0]),3,24):=by kernel_rfl
theorem Df {w:World} {base n:Nat} {t:TypeId} {ao:Option Addr} {cap:Nat} {ls:List Ln} (h:w.ownsRow base t 3 (.slice ao ls.length cap) n (Ag ls)):Ai w ao ls:=by
 obtain ⟨ao',cap',hv,hf,_⟩:=Ef h
 obtain ⟨rfl,_⟩:ao=ao'∧cap=cap':=by simpa using hv
 exact hf
def sW (x:En):List Value:=[.int .i64 x.1,.int .i64 x.2.1,.int .i64 x.2.2.1,.int .i64 x.2.2.2]
def Ba (es:List En):List Value:=es.flatMap sW
theorem Ou (x:En) (r:List En):Ba (x::r)=.int .i64 x.1::.int .i64 x.2.1::.int .i64 x.2.2.1::.int .i64 x.2.2.2::Ba r:=rfl
theorem aK (es:List En):(Ba es).length=es.length*4:=by
 induction es with
 | nil=>rfl
 | cons f r ih=>rw [Ou];simp [ih];omega
theorem fS (es:List En):∀ k,k<es.length→(Ba es)[k*4]?=some (.int .i64 (I4 es k).1)∧(Ba es)[k*4+1]?=some (.int .i64 (I4 es k).2.1)∧(Ba es)[k*4+2]?=some (.int .i64 (I4 es k).2.2.1)∧(Ba es)[k*4+3]?=some (.int .i64 (I4 es k).2.2.2):=by
 induction es with
 | nil=>intro k h;simp at h
 | cons f r ih =>
  intro k h;rw [Ou]
  cases k with
  | zero=>exact ⟨rfl,rfl,rfl,rfl⟩
  | succ k =>
   have:=ih k (by simpa using h)
   rw [show (k+1) * 4=k*4+1+1+1+1 by omega]
   simp only [List.getElem?_cons_succ]
   exact this
theorem Gh {w:World} {base n:Nat} {t:TypeId} {v:Value} {es:List En} (h:w.ownsRow base t 4 v n (Ba es)):∃ ao cap,v=.slice ao es.length cap∧C8 w ao es∧n=es.length:=by
 have hn:n=es.length:=by have:=h.1;rw [aK] at this;omega
 subst hn
 rcases h.2 with ⟨rfl,hn⟩ | ⟨g,cap,uV,rfl,_⟩
 ·have:es=[]:=List.eq_nil_of_length_eq_zero hn
  subst this;exact ⟨none,0,rfl,.inl rfl,rfl⟩
 ·refine ⟨_,cap,rfl,?_,rfl⟩
  by_cases h0:es=[]
  ·exact .inl h0
  ·refine .inr ⟨g,0,rfl,(h.lt g rfl).2,fun i hi=>?_⟩
   have:=fS es i hi
   rw [Nat.zero_add,h.cellAt (i*4) (by omega),h.cellAt (i*4+1) (by omega),h.cellAt (i*4+2) (by omega),h.cellAt (i*4+3) (by omega)]
   exact this
theorem Hk {w:World} {base n:Nat} {t:TypeId} {ao:Option Addr} {cap:Nat} {es:List En} (h:w.ownsRow base t 4 (.slice ao es.length cap) n (Ba es)):C8 w ao es:=by
 obtain ⟨ao',cap',hv,hf,_⟩:=Gh h
 obtain ⟨rfl,_⟩:ao=ao'∧cap=cap':=by simpa using hv
 exact hf
theorem sI:(prog.info? 269).map (fun i=>(i.zero,i.size,i.bytes))=some (some (.agg #[.int .i64 0,.int .i64 0,.int .i64 0,.int .i64 0]),4,32):=by kernel_rfl
end Go.Proofs.YtomiclakhjncbaaGreatDoor
namespace Go.Proofs.YtomiclakhjncbaaGreatDoor
open Go.ChangeShapes Go.WideShapes Go.ChangeAt Go.RowKit Go.Proofs.Tryz
def Qk (c:Cs):Prop:=Bf c.iss∧Bf c.acq∧Bf c.cur∧Bf c.am∧Bf c.st∧Bf c.rsn∧Bf c.cl∧Bf c.bk∧Bf c.fee∧Bf c.sta∧Bf c.due
def av (a:Ac):Value:=.agg #[.int .i64 a.kind,.int .i64 a.am,.int .i64 a.rsn]
section
variable {P:Program} {H:Type} {enc:TypeId×Value→H} {W:World}
end
end Go.Proofs.YtomiclakhjncbaaGreatDoor
namespace Go.Proofs.YtomiclakhjncbaaGreatDoor
open Go.ChangeShapes Go.WideShapes Go.ChangeAt Go.RowKit Go.Deep Go.Proofs.Tryz
def A8 (cs:List Cs) (k:Nat):Cs:=cs.getD k ⟨0,0,0,0,0,0,0,0,0,false,0,0⟩
theorem bT {cs:List Cs} {k:Nat} (h:k<cs.length):A8 cs k=cs[k]:=by simp [A8,List.getD_eq_getElem?_getD,h]
theorem Xg {cs:List Cs} {k:Nat} (h:k<cs.length):A8 cs k ∈ cs:=by rw [bT h];exact List.getElem_mem h
def A0 (w:World) (ao:Option Addr) (cs:List Cs):Prop :=
 cs=[]∨∃ b off,ao=some ⟨b,off,none⟩∧b<w.heap.size∧∀ i,i<cs.length→CB b (off+i*12) (A8 cs i) w
theorem A0.below {w w':World} {ao:Option Addr} {cs:List Cs} (h:A0 w ao cs) (hb:BW w w'):A0 w' ao cs:=by
 rcases h with h | ⟨b,off,h1,h2,h3⟩
 ·exact .inl h
 ·exact .inr ⟨b,off,h1,Nat.lt_of_lt_of_le h2 hb.size,fun i hi=>(h3 i hi).below hb⟩
theorem A0.at {w:World} {ao:Option Addr} {cs:List Cs} (h:A0 w ao cs) {k:Nat} (hk:k<cs.length):∃ b off,ao=some ⟨b,off,none⟩∧b<w.heap.size∧CB b (off+k*12) (A8 cs k) w:=by
 rcases h with rfl | ⟨b,off,h1,h2,h3⟩
 ·simp at hk
 ·exact ⟨b,off,h1,h2,h3 k hk⟩
section
variable {P:Program} {H:Type} {enc:TypeId×Value→H} {W:World}
end
def Aj (cs:List Cs):List Value:=cs.flatMap fun c=>(Xt c).toList
theorem Mm (c:Cs) (r:List Cs):Aj (c::r)=(Xt c).toList++Aj r:=rfl
theorem J5 (a b:List Cs):Aj (a++b)=Aj a++Aj b:=by simp [Aj]
theorem Ge (cs:List Cs):(Aj cs).length=cs.length*12:=by
 induction cs with
 | nil=>rfl
 | cons c r ih=>rw [Mm,List.length_append,ih];simp [Xt];omega
theorem E6 (cs:List Cs):∀ (k j:Nat),k<cs.length→j<12→(Aj cs)[k*12+j]?=(Xt (A8 cs k)).toList[j]?:=by
 induction cs with
 | nil=>intro k j h;simp at h
 | cons c r ih =>
  intro k j hk hj;rw [Mm]
  cases k with
  | zero =>
   rw [List.getElem?_append_left (by simp [Xt];omega)]
   simp [A8]
  | succ k =>
   have hl:(Xt c).toList.length=12:=by simp [Xt]
   rw [List.getElem?_append_right (by rw [hl];omega),hl,show (k+1) * 12+j - 12=k*12+j by omega,ih k j (by simpa using hk) hj]
   simp [A8]
theorem Vx (cs:List Cs):∀ u ∈ Aj cs,u.oneCell'=true:=by
 intro u hu
 simp [Aj,Xt] at hu
 obtain ⟨c,_,h⟩:=hu
 rcases h with rfl | rfl | rfl | rfl | rfl | rfl | rfl | rfl | rfl | rfl | rfl | rfl <;> rfl
theorem F2 {w:World} {base n:Nat} {t:TypeId} {ao:Option Addr} {cap:Nat} {cs:List Cs} (h:w.ownsRow base t 12 (.slice ao n cap) n (Aj cs)):A0 w ao cs:=by
 rcases h.2 with ⟨hv,h0⟩ | ⟨g,cap',uV,hv,hrest⟩
 ·have hl:=h.1
  obtain ⟨rfl,rfl,rfl⟩:ao=none∧n=0∧cap=0:=by simpa using hv
  rw [Ge] at hl
  exact .inl (List.length_eq_zero_iff.1 (by omega))
 ·have hl:=h.1
  rw [Ge] at hl
  obtain ⟨rfl,rfl⟩:ao=some ⟨g,0,none⟩∧cap=cap':=by simpa using hv
  by_cases hz:cs=[]
  ·exact .inl hz
  ·have hlt:=(h.lt g rfl).2
   refine .inr ⟨g,0,rfl,hlt,fun i hi=>?_⟩
   have e:∀ j,j<12→w.cell? ⟨g,0+i*12+j,none⟩=(Xt (A8 cs i)).toList[j]?:=fun j hj=>by
    rw [Nat.zero_add,h.cellAt (i*12+j) (by omega),E6 cs i j hi hj]
   exact ⟨e 0 (by omega),e 1 (by omega),e 2 (by omega),e 3 (by omega),e 4 (by omega),e 5 (by omega),e 6 (by omega),e 7 (by omega),e 8 (by omega),e 9 (by omega),e 10 (by omega),e 11 (by omega)⟩
end Go.Proofs.YtomiclakhjncbaaGreatDoor
namespace Go.Proofs.YtomiclakhjncbaaGreatDoor
open Go.RowKit Go.Proofs.Tryz
end Go.Proofs.YtomiclakhjncbaaGreatDoor
namespace Go.Proofs.YtomiclakhjncbaaGreatDoor
open Go.ChangeShapes Go.WideShapes Go.ChangeAt Go.RowKit Go.Deep Go.Proofs.Tryz
def Bh (w:World) (ao:Option Addr) (rs:Be):Prop :=
 rs=[]∨∃ b off,ao=some ⟨b,off,none⟩∧b<w.heap.size∧∀ i,i<rs.length→w.cell? ⟨b,off+i,none⟩=some (.string ⟨(Al rs i).toArray⟩)
theorem Bh.below {w w':World} {ao:Option Addr} {rs:Be} (h:Bh w ao rs) (hb:BW w w'):Bh w' ao rs:=by
 rcases h with h | ⟨b,off,h1,h2,h3⟩
 ·exact .inl h
 ·exact .inr ⟨b,off,h1,Nat.lt_of_lt_of_le h2 hb.size,fun i hi=>(hb.cell (p:=⟨b,off+i,none⟩) h2).trans (h3 i hi)⟩
def Py (r:List UInt8):Value:=.string ⟨r.toArray⟩
def Am (rs:Be):List Value:=rs.map Py
theorem L7 (rs:Be):(Am rs).length=rs.length:=by simp [Am]
theorem F6 (a b:Be):Am (a++b)=Am a++Am b:=by simp [Am]
theorem Hd (rs:Be) (k:Nat) (h:k<rs.length):(Am rs)[k]?=some (.string ⟨(Al rs k).toArray⟩):=by
 simp [Am,Py,Al,List.getD_eq_getElem?_getD,h]
theorem Lu (rs:Be) (k:Nat) (r:List UInt8):(Am rs).set k (.string ⟨r.toArray⟩)=Am (rs.set k r):=by
 show (rs.map Py).set k (Py r)=(rs.set k r).map Py
 rw [List.map_set]
theorem Zv (rs:Be):∀ u ∈ Am rs,u.oneCell'=true:=by
 intro u hu
 simp only [Am,List.mem_map] at hu
 obtain ⟨r,_,rfl⟩:=hu
 rfl
theorem S1:(prog.info? 9).map (fun i=>(i.zero,i.size,i.bytes))=some (some (.string ⟨#[]⟩),1,16):=by kernel_rfl
theorem Qc (m:Nat):(madeCells (Value.string ⟨#[]⟩).cells (m*1)).toList=Am (List.replicate m []):=by
 rw [Nat.mul_one];refine (toList_madeCells_one _ _).trans ?_
 simp [Am,Py]
theorem Vs {w w':World} {base n size:Nat} {t:TypeId} {v:Value} {xs:List Value} (h:w.ownsRow base t size v n xs) (hb:BW w w'):w'.ownsRow base t size v n xs:=by
 obtain ⟨h1,h2⟩:=h;refine ⟨h1,?_⟩
 rcases h2 with h | ⟨g,cap,uV,hv,hg,hh,a1,a2,a3,a4⟩
 ·exact .inl h
 ·have hlt:g<w.heap.size:=(Array.getElem?_eq_some_iff.1 hh).1
  exact .inr ⟨g,cap,uV,hv,hg,(hb.block g hlt).trans hh,a1,a2,a3,a4⟩
theorem Ov {w:World} {base n:Nat} {t:TypeId} {v:Value} {rs:Be} (h:w.ownsRow base t 1 v n (Am rs)):∃ ao cap,v=.slice ao rs.length cap∧Bh w ao rs∧n=rs.length:=by
 have hn:n=rs.length:=by have:=h.1;rw [L7] at this;omega
 subst hn
 rcases h.2 with ⟨rfl,hn⟩ | ⟨g,cap,uV,rfl,_⟩
 ·have:rs=[]:=List.eq_nil_of_length_eq_zero hn
  subst this;exact ⟨none,0,rfl,.inl rfl,rfl⟩
 ·refine ⟨_,cap,rfl,?_,rfl⟩
  by_cases h0:rs=[]
  ·exact .inl h0
  ·have hlt:=(h.lt g rfl).2
   refine .inr ⟨g,0,rfl,hlt,fun i hi=>?_⟩
   rw [Nat.zero_add,h.cellAt i (by omega)]
   exact Hd rs i hi
theorem Ep {w:World} {base n:Nat} {t:TypeId} {ao:Option Addr} {cap:Nat} {rs:Be} (h:w.ownsRow base t 1 (.slice ao rs.length cap) n (Am rs)):Bh w ao rs:=by
 obtain ⟨ao',cap',hv,hf,_⟩:=Ov h
 obtain ⟨rfl,_⟩:ao=ao'∧cap=cap':=by simpa using hv
 exact hf
theorem Kq {w:World} {b off:Nat} {rs:Be} (h:Bh w (some ⟨b,off,none⟩) rs) {k:Nat} (hk:k<rs.length):w.cell? ⟨b,off+k,none⟩=some (.string ⟨(Al rs k).toArray⟩)∧b<w.heap.size:=by
 rcases h with rfl | ⟨b',off',hq,hb,hc⟩
 ·simp at hk
 ·obtain ⟨rfl,rfl⟩:b=b'∧off=off':=by simpa using hq
  exact ⟨hc k hk,hb⟩
theorem Rf (r:List UInt8):∀ u ∈ [Value.string ⟨r.toArray⟩],u.oneCell'=true:=by
 intro u hu
 simp at hu
 subst hu;rfl
def Eg (rs:Be) (k:Nat):Be:=rs.take k++List.replicate (rs.length - k) []
theorem S5 (rs:Be):Eg rs rs.length=rs:=by simp [Eg]
theorem Tq (rs:Be) (k:Nat) (h:k≤rs.length):(Eg rs k).length=rs.length:=by simp [Eg];omega
theorem Q8 (rs:Be) (k:Nat) (h:k<rs.length):(Eg rs k).set k (Al rs k)=Eg rs (k+1):=by
 unfold Eg
 rw [List.set_append,if_neg (by simp;omega),List.length_take,Nat.min_eq_left (Nat.le_of_lt h),Nat.sub_self,show rs.length - k=rs.length - (k+1)+1 by omega,List.replicate_succ,List.set_cons_zero,lI rs k h,List.append_assoc]
 rfl
theorem Wd (rs:Be) (k:Nat) (h:k<rs.length):Al (Eg rs k) k=[]:=by
 simp [Al,Eg,List.getD_eq_getElem?_getD,List.getElem?_append,Nat.min_eq_left (Nat.le_of_lt h),List.getElem?_replicate]
 split <;> rfl
end Go.Proofs.YtomiclakhjncbaaGreatDoor
namespace Go.Proofs.YtomiclakhjncbaaGreatDoor
open Go.RowKit Go.Proofs.Tryz
theorem Rr (ao bo:Option Addr) (c1 c2:Nat) (xs ys:Be) (w:World) (hx:Bh w ao xs) (hy:Bh w bo ys) (h1:xs.length≤1099511627776) (h2:ys.length≤1099511627776) :
  Calls prog 17 #[.slice ao xs.length c1,.slice bo ys.length c2] w fun e w'=>e=.returned (.bool (decide (xs=ys)))∧BW w w':=by
 by_cases hl:xs.length=ys.length
 ·rcases hx with rfl | ⟨b,off,rfl,hb,hcx⟩
  ·have hy0:ys=[]:=List.eq_nil_of_length_eq_zero hl.symm
   subst hy0
   go_enter func17,ntmps17
   go_wp2;refine wp_loop_rounds 1 ?_;rw [rounds_succ];go_wp2;go_ret;exact ⟨rfl,bR⟩
  ·rcases hy with rfl | ⟨d,off2,rfl,hd,hcy⟩
   ·have hx0:xs=[]:=List.eq_nil_of_length_eq_zero hl
    subst hx0
    go_enter func17,ntmps17
    go_wp2;refine wp_loop_rounds 1 ?_;rw [rounds_succ];go_wp2;go_ret;exact ⟨rfl,bR⟩
   ·obtain ⟨n,hn⟩:∃ n,xs.length=n:=⟨_,rfl⟩
    have hn2:ys.length=n:=by omega
    rw [hn] at hcx h1 ⊢;rw [hn2] at hcy ⊢;have HX:Hid (xs.length=n):=hn;have HY:Hid (ys.length=n):=hn2;have HCX:Hid (∀ i,i<n→w.cell? ⟨b,off+i,none⟩=some (.string ⟨(Al xs i).toArray⟩)):=hcx;have HCY:Hid (∀ i,i<n→w.cell? ⟨d,off2+i,none⟩=some (.string ⟨(Al ys i).toArray⟩)):=hcy;clear hl hn hn2 hcx hcy
    go_enter func17,ntmps17
    go_wp2
    go_loopw [5] (fun i wr=>∃ k:Nat,k≤n∧i=.int .i64 k∧(∀ j,j<k→Al xs j=Al ys j)∧BW w wr) (fun i _=>n - (intOf i).toNat)
    case atStart=>exact ⟨0,Nat.zero_le _,rfl,fun j hj=>by omega,bR⟩
    case round =>
     obtain ⟨k,hk,rfl,hsame,hbr⟩:=hrel;have HS:Hid (∀ j,j<k→Al xs j=Al ys j):=hsame;clear hsame
     by_cases hlt:k<n
     ·have e1:wr.cell? ⟨b,off+k,none⟩=some (.string ⟨(Al xs k).toArray⟩):=(hbr.cell (p:=⟨b,off+k,none⟩) hb).trans (HCX.o k hlt)
      have e3:wr.cell? ⟨d,off2+k,none⟩=some (.string ⟨(Al ys k).toArray⟩):=(hbr.cell (p:=⟨d,off2+k,none⟩) hd).trans (HCY.o k hlt)
      have hki:(k:Int)<(n:Int):=by omega
      have HNE:Hid (Al xs k≠Al ys k→¬ xs=ys):=fun h e=>h (by rw [e])
      obtain ⟨s,hxk⟩:∃ x,Al xs k=x:=⟨_,rfl⟩;obtain ⟨t,hyk⟩:∃ y,Al ys k=y:=⟨_,rfl⟩;rw [hxk] at e1;rw [hyk] at e3;have HXK:Hid (Al xs k=s):=hxk;have HYK:Hid (Al ys k=t):=hyk;clear hxk hyk;have hne:=K0 wr;have g1:=As e1;have g3:=As e3
      by_cases hs1:s=t
      ·subst hs1
       have HY2:Hid (Al xs k=Al ys k):=by rw [Hid,HXK.o,HYK.o]
       have hss:(s == s)=true:=by simp
       clear HNE;go_wp2
       refine B6 (by kernel_rfl) (by kernel_rfl) ?_
       repeat (go_big_quiet_step (fail))
       refine wpQuiet_nil ?_;rintro _ ⟨⟨w2,b2⟩,hw2⟩;subst hw2;go_wp2
       go_roundw
       case rel=>exact ⟨k+1,by omega,by go_num,fun j hj=>by rcases (show j<k∨j=k from by omega) with h | rfl;exact HS.o j h;exact HY2.o,hbr.trans (b2.mono hbr.size)⟩
       case measure=>simp [intOf];omega
      ·have hs2:(s == t)=false:=by simpa using hs1
       have HN:Hid (¬ xs=ys):=HNE.o (by rw [HXK.o,HYK.o];exact hs1)
       clear HNE hs1;go_wp2
       refine B6 (by kernel_rfl) (by kernel_rfl) ?_
       repeat (go_big_quiet_step (fail))
       refine wpQuiet_nil ?_;rintro _ ⟨⟨w2,b2⟩,hw2⟩;subst hw2;go_wp2;go_ret
       exact ⟨Aa (by rw [decide_eq_false HN.o]),hbr.trans (b2.mono hbr.size)⟩
     ·have HE:Hid (xs=ys):=by
        apply List.ext_getElem (by rw [HX.o,HY.o])
        intro i g1 g2
        have:=HS.o i (by rw [HX.o] at g1;omega)
        simpa [Al,List.getD_eq_getElem?_getD,g1,g2] using this
      go_wp2;go_ret
      exact ⟨Aa (by rw [decide_eq_true HE.o]),hbr⟩
 ·have hne:((xs.length:Int) != (ys.length:Int))=true:=by simp;omega
  have HE:Hid (¬ xs=ys):=fun e=>hl (by rw [e])
  go_enter func17,ntmps17
  go_wp2;go_ret
  exact ⟨Aa (by rw [decide_eq_false HE.o]),bR⟩
theorem uN (ao bo:Option Addr) (c1 c2:Nat) (xs ys:Be) (w:World) (hx:Bh w ao xs) (hy:Bh w bo ys) (h1:xs.length≤1099511627776) (h2:ys.length≤1099511627776) :
  Calls prog 42 #[.slice ao xs.length c1,.slice bo ys.length c2] w fun e w'=>e=.returned (.bool (decide (xs=ys)))∧BW w w':=by
 by_cases hl:xs.length=ys.length
 ·rcases hx with rfl | ⟨b,off,rfl,hb,hcx⟩
  ·have hy0:ys=[]:=List.eq_nil_of_length_eq_zero hl.symm
   subst hy0
   go_enter func42,ntmps42
   go_wp2;refine wp_loop_rounds 1 ?_;rw [rounds_succ];go_wp2;go_ret;exact ⟨rfl,bR⟩
  ·rcases hy with rfl | ⟨d,off2,rfl,hd,hcy⟩
   ·have hx0:xs=[]:=List.eq_nil_of_length_eq_zero hl
    subst hx0
    go_enter func42,ntmps42
    go_wp2;refine wp_loop_rounds 1 ?_;rw [rounds_succ];go_wp2;go_ret;exact ⟨rfl,bR⟩
   ·obtain ⟨n,hn⟩:∃ n,xs.length=n:=⟨_,rfl⟩
    have hn2:ys.length=n:=by omega
    rw [hn] at hcx h1 ⊢;rw [hn2] at hcy ⊢;have HX:Hid (xs.length=n):=hn;have HY:Hid (ys.length=n):=hn2;have HCX:Hid (∀ i,i<n→w.cell? ⟨b,off+i,none⟩=some (.string ⟨(Al xs i).toArray⟩)):=hcx;have HCY:Hid (∀ i,i<n→w.cell? ⟨d,off2+i,none⟩=some (.string ⟨(Al ys i).toArray⟩)):=hcy;clear hl hn hn2 hcx hcy
    go_enter func42,ntmps42
    go_wp2
    go_loopw [5] (fun i wr=>∃ k:Nat,k≤n∧i=.int .i64 k∧(∀ j,j<k→Al xs j=Al ys j)∧BW w wr) (fun i _=>n - (intOf i).toNat)
    case atStart=>exact ⟨0,Nat.zero_le _,rfl,fun j hj=>by omega,bR⟩
    case round =>
     obtain ⟨k,hk,rfl,hsame,hbr⟩:=hrel;have HS:Hid (∀ j,j<k→Al xs j=Al ys j):=hsame;clear hsame
     by_cases hlt:k<n
     ·have e1:wr.cell? ⟨b,off+k,none⟩=some (.string ⟨(Al xs k).toArray⟩):=(hbr.cell (p:=⟨b,off+k,none⟩) hb).trans (HCX.o k hlt)
      have e3:wr.cell? ⟨d,off2+k,none⟩=some (.string ⟨(Al ys k).toArray⟩):=(hbr.cell (p:=⟨d,off2+k,none⟩) hd).trans (HCY.o k hlt)
      have hki:(k:Int)<(n:Int):=by omega
      have HNE:Hid (Al xs k≠Al ys k→¬ xs=ys):=fun h e=>h (by rw [e])
      obtain ⟨s,hxk⟩:∃ x,Al xs k=x:=⟨_,rfl⟩;obtain ⟨t,hyk⟩:∃ y,Al ys k=y:=⟨_,rfl⟩;rw [hxk] at e1;rw [hyk] at e3;have HXK:Hid (Al xs k=s):=hxk;have HYK:Hid (Al ys k=t):=hyk;clear hxk hyk;have hne:=K0 wr;have g1:=As e1;have g3:=As e3
      by_cases hs1:s=t
      ·subst hs1
       have HY2:Hid (Al xs k=Al ys k):=by rw [Hid,HXK.o,HYK.o]
       have hss:(s == s)=true:=by simp
       clear HNE;go_wp2
       refine B6 (by kernel_rfl) (by kernel_rfl) ?_
       repeat (go_big_quiet_step (fail))
       refine wpQuiet_nil ?_;rintro _ ⟨⟨w2,b2⟩,hw2⟩;subst hw2;go_wp2
       go_roundw
       case rel=>exact ⟨k+1,by omega,by go_num,fun j hj=>by rcases (show j<k∨j=k from by omega) with h | rfl;exact HS.o j h;exact HY2.o,hbr.trans (b2.mono hbr.size)⟩
       case measure=>simp [intOf];omega
      ·have hs2:(s == t)=false:=by simpa using hs1
       have HN:Hid (¬ xs=ys):=HNE.o (by rw [HXK.o,HYK.o];exact hs1)
       clear HNE hs1;go_wp2
       refine B6 (by kernel_rfl) (by kernel_rfl) ?_
       repeat (go_big_quiet_step (fail))
       refine wpQuiet_nil ?_;rintro _ ⟨⟨w2,b2⟩,hw2⟩;subst hw2;go_wp2;go_ret
       exact ⟨Aa (by rw [decide_eq_false HN.o]),hbr.trans (b2.mono hbr.size)⟩
     ·have HE:Hid (xs=ys):=by
        apply List.ext_getElem (by rw [HX.o,HY.o])
        intro i g1 g2
        have:=HS.o i (by rw [HX.o] at g1;omega)
        simpa [Al,List.getD_eq_getElem?_getD,g1,g2] using this
      go_wp2;go_ret
      exact ⟨Aa (by rw [decide_eq_true HE.o]),hbr⟩
 ·have hne:((xs.length:Int) != (ys.length:Int))=true:=by simp;omega
  have HE:Hid (¬ xs=ys):=fun e=>hl (by rw [e])
  go_enter func42,ntmps42
  go_wp2;go_ret
  exact ⟨Aa (by rw [decide_eq_false HE.o]),bR⟩
def Aw (w:World) (ao:Option Addr) (zs:List Int):Prop :=
 zs=[]∨∃ b off,ao=some ⟨b,off,none⟩∧b<w.heap.size∧∀ i,i<zs.length→w.cell? ⟨b,off+i,none⟩=some (.int .i64 (zs.getD i 0))
theorem Aw.below {w w':World} {ao:Option Addr} {zs:List Int} (h:Aw w ao zs) (hb:BW w w'):Aw w' ao zs:=by
 rcases h with h | ⟨b,off,h1,h2,h3⟩
 ·exact .inl h
 ·exact .inr ⟨b,off,h1,Nat.lt_of_lt_of_le h2 hb.size,fun i hi=>(hb.cell (p:=⟨b,off+i,none⟩) h2).trans (h3 i hi)⟩
theorem Vr {w:World} {base g n cap:Nat} {zs:List Int} (h:w.ownsRow base 3 1 (.slice (some ⟨g,0,none⟩) n cap) n (zs.map (Value.int .i64))):Aw w (some ⟨g,0,none⟩) zs:=by
 by_cases h0:zs=[]
 ·exact .inl h0
 ·have hl:zs.length=n:=by simpa using h.1
  have hp:0<zs.length:=List.length_pos_iff.2 h0
  have hc:∀ i,i<zs.length→w.cell? ⟨g,0+i,none⟩=some (.int .i64 (zs.getD i 0)):=by
   intro i hi
   rw [Nat.zero_add,h.cellAt i (by omega)]
   simp [List.getD_eq_getElem?_getD,hi]
  exact .inr ⟨g,0,rfl,World.block_lt_of_cell? w _ (hc 0 hp),hc⟩
theorem pQ:(prog.info? 3).map (fun i=>(i.zero,i.size,i.bytes))=some (some (.int .i64 0),1,8):=by kernel_rfl
theorem Z3 {xs ys:List Int} (hl:xs.length=ys.length) (h:∀ j,j<xs.length→xs.getD j 0=ys.getD j 0):xs=ys:=by
 apply List.ext_getElem hl;intro i h1 h2
 have:=h i h1
 simpa [List.getD_eq_getElem?_getD,h1,h2] using this
theorem aU (ao bo:Option Addr) (c1 c2:Nat) (xs ys:List Int) (w:World) (hx:Aw w ao xs) (hy:Aw w bo ys) (h1:xs.length≤1099511627776) (h2:ys.length≤1099511627776) :
  Calls prog 16 #[.slice ao xs.length c1,.slice bo ys.length c2] w fun e w'=>e=.returned (.bool (decide (xs=ys)))∧BW w w':=by
 by_cases hl:xs.length=ys.length
 ·rcases hx with rfl | ⟨b,off,rfl,hb,hcx⟩
  ·have hy0:ys=[]:=List.eq_nil_of_length_eq_zero hl.symm
   subst hy0
   go_enter func16,ntmps16
   go_wp2;refine wp_loop_rounds 1 ?_;rw [rounds_succ];go_wp2;go_ret;exact ⟨rfl,bR⟩
  ·rcases hy with rfl | ⟨d,off2,rfl,hd,hcy⟩
   ·have hx0:xs=[]:=List.eq_nil_of_length_eq_zero hl
    subst hx0
    go_enter func16,ntmps16
    go_wp2;refine wp_loop_rounds 1 ?_;rw [rounds_succ];go_wp2;go_ret;exact ⟨rfl,bR⟩
   ·obtain ⟨n,hn⟩:∃ n,xs.length=n:=⟨_,rfl⟩
    have hn2:ys.length=n:=by omega
    rw [hn] at hcx h1 ⊢;rw [hn2] at hcy ⊢;have HX:Hid (xs.length=n):=hn;have HY:Hid (ys.length=n):=hn2;clear hl hn hn2
    go_enter func16,ntmps16
    go_wp2
    go_loopw [5] (fun i wr=>∃ k:Nat,k≤n∧i=.int .i64 k∧(∀ j,j<k→xs.getD j 0=ys.getD j 0)∧BW w wr) (fun i _=>n - (intOf i).toNat)
    case atStart=>exact ⟨0,Nat.zero_le _,rfl,fun j hj=>by omega,bR⟩
    case round =>
     obtain ⟨k,hk,rfl,hsame,hbr⟩:=hrel;have HS:Hid (∀ j,j<k→xs.getD j 0=ys.getD j 0):=hsame;clear hsame
     by_cases hlt:k<n
     ·have e1:wr.cell? ⟨b,off+k,none⟩=some (.int .i64 (xs.getD k 0)):=(hbr.cell (p:=⟨b,off+k,none⟩) hb).trans (hcx k hlt)
      have e2:wr.cell? ⟨d,off2+k,none⟩=some (.int .i64 (ys.getD k 0)):=(hbr.cell (p:=⟨d,off2+k,none⟩) hd).trans (hcy k hlt)
      have hki:(k:Int)<(n:Int):=by omega
      obtain ⟨x,hxk⟩:∃ x,xs.getD k 0=x:=⟨_,rfl⟩;obtain ⟨y,hyk⟩:∃ y,ys.getD k 0=y:=⟨_,rfl⟩;rw [hxk] at e1;rw [hyk] at e2;have HXK:Hid (xs.getD k 0=x):=hxk;have HYK:Hid (ys.getD k 0=y):=hyk;clear hxk hyk hcx hcy
      cases hne:(x != y)
      ·have HE:Hid (xs.getD k 0=ys.getD k 0):=by rw [Hid,HXK.o,HYK.o];simpa using hne
       go_wp2
       go_quiet (fail)
       go_wp2
       go_roundw
       case rel=>exact ⟨k+1,by omega,by go_num,fun j hj=>by rcases (show j<k∨j=k from by omega) with h | rfl;exact HS.o j h;exact HE.o,below_drewN hbr _⟩
       case measure=>simp [intOf];omega
      ·have HE:Hid (¬ xs=ys):=fun e=>by subst e;rw [← HXK.o,← HYK.o] at hne;simp at hne
       go_wp2
       go_quiet (fail)
       go_wp2;go_ret
       exact ⟨Aa (by simpa using HE.o),below_drewN hbr _⟩
     ·have HE:Hid (xs=ys):=Z3 (by rw [HX.o,HY.o]) (fun j hj=>HS.o j (by rw [HX.o] at hj;omega))
      clear hcx hcy;go_wp2;go_ret
      exact ⟨Aa (by simpa using HE.o),hbr⟩
 ·have hne:((xs.length:Int) != (ys.length:Int))=true:=by simp;omega
  have HE:Hid (¬ xs=ys):=fun e=>hl (by rw [e])
  go_enter func16,ntmps16
  go_wp2;go_ret
  exact ⟨Aa (by simpa using HE.o),bR⟩
theorem tW (ao bo:Option Addr) (c1 c2:Nat) (xs ys:List Int) (w:World) (hx:Aw w ao xs) (hy:Aw w bo ys) (h1:xs.length≤1099511627776) (h2:ys.length≤1099511627776) :
  Calls prog 33 #[.slice ao xs.length c1,.slice bo ys.length c2] w fun e w'=>e=.returned (.bool (decide (xs=ys)))∧BW w w':=by
 by_cases hl:xs.length=ys.length
 ·rcases hx with rfl | ⟨b,off,rfl,hb,hcx⟩
  ·have hy0:ys=[]:=List.eq_nil_of_length_eq_zero hl.symm
   subst hy0
   go_enter func33,ntmps33
   go_wp2;refine wp_loop_rounds 1 ?_;rw [rounds_succ];go_wp2;go_ret;exact ⟨rfl,bR⟩
  ·rcases hy with rfl | ⟨d,off2,rfl,hd,hcy⟩
   ·have hx0:xs=[]:=List.eq_nil_of_length_eq_zero hl
    subst hx0
    go_enter func33,ntmps33
    go_wp2;refine wp_loop_rounds 1 ?_;rw [rounds_succ];go_wp2;go_ret;exact ⟨rfl,bR⟩
   ·obtain ⟨n,hn⟩:∃ n,xs.length=n:=⟨_,rfl⟩
    have hn2:ys.length=n:=by omega
    rw [hn] at hcx h1 ⊢;rw [hn2] at hcy ⊢;have HX:Hid (xs.length=n):=hn;have HY:Hid (ys.length=n):=hn2;clear hl hn hn2
    go_enter func33,ntmps33
    go_wp2
    go_loopw [5] (fun i wr=>∃ k:Nat,k≤n∧i=.int .i64 k∧(∀ j,j<k→xs.getD j 0=ys.getD j 0)∧BW w wr) (fun i _=>n - (intOf i).toNat)
    case atStart=>exact ⟨0,Nat.zero_le _,rfl,fun j hj=>by omega,bR⟩
    case round =>
     obtain ⟨k,hk,rfl,hsame,hbr⟩:=hrel;have HS:Hid (∀ j,j<k→xs.getD j 0=ys.getD j 0):=hsame;clear hsame
     by_cases hlt:k<n
     ·have e1:wr.cell? ⟨b,off+k,none⟩=some (.int .i64 (xs.getD k 0)):=(hbr.cell (p:=⟨b,off+k,none⟩) hb).trans (hcx k hlt)
      have e2:wr.cell? ⟨d,off2+k,none⟩=some (.int .i64 (ys.getD k 0)):=(hbr.cell (p:=⟨d,off2+k,none⟩) hd).trans (hcy k hlt)
      have hki:(k:Int)<(n:Int):=by omega
      obtain ⟨x,hxk⟩:∃ x,xs.getD k 0=x:=⟨_,rfl⟩;obtain ⟨y,hyk⟩:∃ y,ys.getD k 0=y:=⟨_,rfl⟩;rw [hxk] at e1;rw [hyk] at e2;have HXK:Hid (xs.getD k 0=x):=hxk;have HYK:Hid (ys.getD k 0=y):=hyk;clear hxk hyk hcx hcy
      cases hne:(x != y)
      ·have HE:Hid (xs.getD k 0=ys.getD k 0):=by rw [Hid,HXK.o,HYK.o];simpa using hne
       go_wp2
       go_quiet (fail)
       go_wp2
       go_roundw
       case rel=>exact ⟨k+1,by omega,by go_num,fun j hj=>by rcases (show j<k∨j=k from by omega) with h | rfl;exact HS.o j h;exact HE.o,below_drewN hbr _⟩
       case measure=>simp [intOf];omega
      ·have HE:Hid (¬ xs=ys):=fun e=>by subst e;rw [← HXK.o,← HYK.o] at hne;simp at hne
       go_wp2
       go_quiet (fail)
       go_wp2;go_ret
       exact ⟨Aa (by simpa using HE.o),below_drewN hbr _⟩
     ·have HE:Hid (xs=ys):=Z3 (by rw [HX.o,HY.o]) (fun j hj=>HS.o j (by rw [HX.o] at hj;omega))
      clear hcx hcy;go_wp2;go_ret
      exact ⟨Aa (by simpa using HE.o),hbr⟩
 ·have hne:((xs.length:Int) != (ys.length:Int))=true:=by simp;omega
  have HE:Hid (¬ xs=ys):=fun e=>hl (by rw [e])
  go_enter func33,ntmps33
  go_wp2;go_ret
  exact ⟨Aa (by simpa using HE.o),bR⟩
theorem Pc (cs:List Cs) (c:Cs):∀ k,k<cs.length→(((((((((((((Aj cs).set (k*12) (.int .i64 c.iss)).set (k*12+1) (.int .i64 c.acq)).set (k*12+2) (.int .i64 c.cur)).set (k*12+3) (.int .i64 c.am)).set (k*12+4) (.int .i64 c.st)).set (k*12+5) (.int .i64 c.rsn)).set (k*12+6) (.int .i64 c.cl)).set (k*12+7) (.int .i64 c.bk)).set (k*12+8) (.int .i64 c.fee)).set (k*12+9) (.bool c.cop)).set (k*12+10) (.int .i64 c.sta)).set (k*12+11) (.int .i64 c.due))=Aj (cs.set k c):=by
 induction cs with
 | nil=>intro k h;simp at h
 | cons g r ih =>
  intro k h
  cases k with
  | zero=>rfl
  | succ k =>
   have:=ih k (by simpa using h)
   have e:Aj (g::r)=.int .i64 g.iss::.int .i64 g.acq::.int .i64 g.cur::.int .i64 g.am::.int .i64 g.st::.int .i64 g.rsn::.int .i64 g.cl::.int .i64 g.bk::.int .i64 g.fee::.bool g.cop::.int .i64 g.sta::.int .i64 g.due::Aj r:=rfl
   rw [e,show (k+1) * 12=k*12+1+1+1+1+1+1+1+1+1+1+1+1 by omega,show k*12+1+1+1+1+1+1+1+1+1+1+1+1+1=(k*12+1)+1+1+1+1+1+1+1+1+1+1+1+1 by omega,show k*12+1+1+1+1+1+1+1+1+1+1+1+1+2=(k*12+2)+1+1+1+1+1+1+1+1+1+1+1+1 by omega,show k*12+1+1+1+1+1+1+1+1+1+1+1+1+3=(k*12+3)+1+1+1+1+1+1+1+1+1+1+1+1 by omega,show k*12+1+1+1+1+1+1+1+1+1+1+1+1+4=(k*12+4)+1+1+1+1+1+1+1+1+1+1+1+1 by omega,show k*12+1+1+1+1+1+1+1+1+1+1+1+1+5=(k*12+5)+1+1+1+1+1+1+1+1+1+1+1+1 by omega,show k*12+1+1+1+1+1+1+1+1+1+1+1+1+6=(k*12+6)+1+1+1+1+1+1+1+1+1+1+1+1 by omega,show k*12+1+1+1+1+1+1+1+1+1+1+1+1+7=(k*12+7)+1+1+1+1+1+1+1+1+1+1+1+1 by omega,show k*12+1+1+1+1+1+1+1+1+1+1+1+1+8=(k*12+8)+1+1+1+1+1+1+1+1+1+1+1+1 by omega,show k*12+1+1+1+1+1+1+1+1+1+1+1+1+9=(k*12+9)+1+1+1+1+1+1+1+1+1+1+1+1 by omega,show k*12+1+1+1+1+1+1+1+1+1+1+1+1+10=(k*12+10)+1+1+1+1+1+1+1+1+1+1+1+1 by omega,show k*12+1+1+1+1+1+1+1+1+1+1+1+1+11=(k*12+11)+1+1+1+1+1+1+1+1+1+1+1+1 by omega]
   simp only [List.set_cons_succ,this]
   rfl
theorem pU:(prog.info? 61).map (fun i=>(i.zero,i.size,i.bytes))=some (some (.agg #[.int .i64 0,.int .i64 0,.int .i64 0,.int .i64 0,.int .i64 0,.int .i64 0,.int .i64 0,.int .i64 0,.int .i64 0,.bool false,.int .i64 0,.int .i64 0]),12,96):=by kernel_rfl
theorem kG {w:World} {base:Nat} {v:Value} {zs:List Int} (h:w.ownsRow base 3 1 v zs.length (zs.map (Value.int .i64))) :
  ∃ ao cap,v=.slice ao zs.length cap∧Aw w ao zs:=by
 rcases h.2 with ⟨rfl,h0⟩ | ⟨g,cap,uV,rfl,hrest⟩
 ·have:zs=[]:=List.eq_nil_of_length_eq_zero h0
  subst this;exact ⟨none,0,rfl,.inl rfl⟩
 ·exact ⟨_,cap,rfl,Vr h⟩
theorem Fz {w:World} {base m:Nat} {v:Value} {xs:List Value} (h:w.ownsRow base 3 1 v m xs):∃ ao cap,v=.slice ao m cap:=by
 rcases h.2 with ⟨rfl,rfl⟩ | ⟨g,cap,uV,rfl,hrest⟩
 ·exact ⟨none,0,rfl⟩
 ·exact ⟨_,cap,rfl⟩
theorem Hq {w:World} {base n cap:Nat} {ao:Option Addr} {zs:List Int} (h:w.ownsRow base 3 1 (.slice ao n cap) n (zs.map (Value.int .i64))):Aw w ao zs:=by
 have hl:zs.length=n:=by simpa using h.1
 subst hl;obtain ⟨ao',c,hv,hz⟩:=kG h
 obtain ⟨rfl,_⟩:ao=ao'∧cap=c:=by simpa using hv
 exact hz
theorem Aaa {w:World} {base g n:Nat} {v:Value} {xs:List Value} (h:w.ownsRow base 3 1 v n xs) (hg:g<base):v.ownBlock=none∨v.ownBlock≠some g:=by
 right;intro e;have:=(h.lt g e).1;omega
theorem aF {w:World} {b off:Nat} {xs:List Cs} (h:A0 w (some ⟨b,off,none⟩) xs):∀ j u,(Aj xs)[j]?=some u→w.cell? ((⟨b,off,none⟩:Addr).add j)=some u:=by
 intro j u hj
 have hlt:j<xs.length*12:=by
  rw [← Ge];exact (List.getElem?_eq_some_iff.1 hj).1
 rcases h with rfl | ⟨b',off',hq,hb,hc⟩
 ·simp at hlt
 ·obtain ⟨rfl,rfl⟩:b=b'∧off=off':=by simpa using hq
  have e:((⟨b,off,none⟩:Addr).add j)=⟨b,off+j,none⟩:=by unfold Addr.add;split <;> simp_all
  obtain ⟨k0,k1,k2,k3,k4,k5,k6,k7,k8,k9,k10,k11⟩:=hc (j / 12) (by omega)
  have hat:=E6 xs (j / 12) (j % 12) (by omega) (by omega)
  rw [show j / 12*12+j % 12=j by omega,hj] at hat
  rw [e]
  rcases (show j % 12=0∨j % 12=1∨j % 12=2∨j % 12=3∨j % 12=4∨j % 12=5∨j % 12=6∨j % 12=7∨j % 12=8∨j % 12=9∨j % 12=10∨j % 12=11 by omega) with e | e | e | e | e | e | e | e | e | e | e | e
  ·rw [e] at hat
   rw [show off+j=off+j / 12*12 by omega,k0]
   exact hat.symm
  ·rw [e] at hat
   rw [show off+j=off+j / 12*12+1 by omega,k1]
   exact hat.symm
  ·rw [e] at hat
   rw [show off+j=off+j / 12*12+2 by omega,k2]
   exact hat.symm
  ·rw [e] at hat
   rw [show off+j=off+j / 12*12+3 by omega,k3]
   exact hat.symm
  ·rw [e] at hat
   rw [show off+j=off+j / 12*12+4 by omega,k4]
   exact hat.symm
  ·rw [e] at hat
   rw [show off+j=off+j / 12*12+5 by omega,k5]
   exact hat.symm
  ·rw [e] at hat
   rw [show off+j=off+j / 12*12+6 by omega,k6]
   exact hat.symm
  ·rw [e] at hat
   rw [show off+j=off+j / 12*12+7 by omega,k7]
   exact hat.symm
  ·rw [e] at hat
   rw [show off+j=off+j / 12*12+8 by omega,k8]
   exact hat.symm
  ·rw [e] at hat
   rw [show off+j=off+j / 12*12+9 by omega,k9]
   exact hat.symm
  ·rw [e] at hat
   rw [show off+j=off+j / 12*12+10 by omega,k10]
   exact hat.symm
  ·rw [e] at hat
   rw [show off+j=off+j / 12*12+11 by omega,k11]
   exact hat.symm
theorem Ix (w:World) (base:Nat) (ty:TypeId) (v:Value) (n:Nat) (xs:List Value) (hown:w.ownsRow base 61 12 v n xs) (ao:Option Addr) (c:Nat) (az:List Cs) (hz:A0 w ao az)
  (hn:n+az.length≤5000000) (hbase:base≤w.heap.size) :
  ∃ v' w',(Builtin.append_ #[26,26] ty #[v,.slice ao az.length c]).run prog w=.ok v' w'∧w'.ownsRow base 61 12 v' (n+az.length) (xs++Aj az)∧w.grownBy w' v.ownBlock ∧
   (v≠.slice none 0 0→v'≠.slice none 0 0):=by
 obtain ⟨i0,hi,hz0,hz1,hz2⟩:=info_parts pU
 cases ao with
 | none =>
  have hf:az=[]:=by
   rcases hz with h | ⟨b,off,h,_⟩
   ·exact h
   ·cases h
  subst hf
  refine ⟨v,w,?_,by simpa [Aj] using hown,⟨rfl,rfl,rfl,nL,fun _ _ _=>rfl⟩,id⟩
  have hu:=underlying26
  rcases hown.2 with ⟨rfl,rfl⟩ | ⟨g,cap,uV,rfl,hbg,hg,hnc,hcm,hcs,htake⟩
  ·simp [Builtin.append_,run_underlying hu,sizeOf,typeInfo,hi,Builtin.lenOf,Builtin.firstCells]
  ·simp [Builtin.append_,run_underlying hu,sizeOf,typeInfo,hi,Builtin.lenOf,Builtin.firstCells,loadCells,hnc,storeCells]
 | some a =>
  have hnews:∀ j u,(Aj az)[j]?=some u→w.cell? (a.add j)=some u:=by
   rcases hz with rfl | ⟨b,off,hq,hb,hc⟩
   ·intro j u hj;simp [Aj] at hj
   ·obtain rfl:a=⟨b,off,none⟩:=by simpa using hq
    exact aF (.inr ⟨b,off,rfl,hb,hc⟩)
  obtain ⟨v',w',h1,h2,h3,h4,_⟩:=run_append_own_at (P:=prog) w base 26 ty 61 i0 _ 12 96 underlying26 hi hz0 hz1 hz2 rfl (by decide) v n xs hown a az.length c (Aj az) (Ge az) hnews (Vx az) (by unfold maxLen;omega) (by omega) hbase
  exact ⟨v',w',h1,h2,h3,fun hne h=>hne (h4.1 h).1⟩
theorem Eh {ops:Array Oper} {rest:List Oper} {o:Oper} {a:Act} {Q:Exit→Act→World→Prop} (w:World) (hgd:o.guard=none) (s x:Operand)
  (ho:o.op=.call { callee:=.builtin .append,args:=#[s,x],argTypes:=#[26,26] }) (base:Nat) (v:Value) (n:Nat) (xs:List Value) (hs:a.eval s=v) (hown:w.ownsRow base 61 12 v n xs)
  (ao:Option Addr) (c:Nat) (az:List Cs) (hx:a.eval x=.slice ao az.length c) (hz:A0 w ao az) (hn:n+az.length≤5000000) (hbase:base≤w.heap.size)
  (h:∀ v' w',w'.ownsRow base 61 12 v' (n+az.length) (xs++Aj az)→w.grownBy w' v.ownBlock→(v≠.slice none 0 0→v'≠.slice none 0 0)→wpList prog ops Q rest (a.put o.dst v') w'):wpList prog ops Q (o::rest) a w:=by
 obtain ⟨v',w',hr,h1,h2,h3⟩:=Ix w base o.type v n xs hown ao c az hz hn hbase;exact Lib.wpList_append_run w hgd s x _ _ ho _ _ hs hx v' w' hr (h v' w' h1 h2 h3)
theorem mM (w:World):(w.alloc (.cells #[] 61)).ownsRow w.heap.size 61 12 (.slice (some ⟨w.heap.size,0,none⟩) 0 0) 0 []:=World.ownsRow_lit w #[] 0 nL (by unfold maxLen;omega) rfl
theorem Yq {w:World} {b off:Nat} {xs:List Au} (h:Ar w (some ⟨b,off,none⟩) xs):∀ j u,(Ah xs)[j]?=some u→w.cell? ((⟨b,off,none⟩:Addr).add j)=some u:=by
 intro j u hj
 have hlt:j<xs.length*6:=by
  rw [← E2];exact (List.getElem?_eq_some_iff.1 hj).1
 rcases h with rfl | ⟨b',off',hq,hb,hc⟩
 ·simp at hlt
 ·obtain ⟨rfl,rfl⟩:b=b'∧off=off':=by simpa using hq
  have e:((⟨b,off,none⟩:Addr).add j)=⟨b,off+j,none⟩:=by unfold Addr.add;split <;> simp_all
  obtain ⟨k0,k1,k2,k3,k4,k5⟩:=hc (j / 6) (by omega)
  obtain ⟨f0,f1,f2,f3,f4,f5⟩:=De xs (j / 6) (by omega)
  rw [e]
  rcases (show j % 6=0∨j % 6=1∨j % 6=2∨j % 6=3∨j % 6=4∨j % 6=5 by omega) with e | e | e | e | e | e
  ·rw [show j=j / 6*6 by omega,f0] at hj
   rw [show off+j=off+j / 6*6 by omega,k0]
   exact hj
  ·rw [show j=j / 6*6+1 by omega,f1] at hj
   rw [show off+j=off+j / 6*6+1 by omega,k1]
   exact hj
  ·rw [show j=j / 6*6+2 by omega,f2] at hj
   rw [show off+j=off+j / 6*6+2 by omega,k2]
   exact hj
  ·rw [show j=j / 6*6+3 by omega,f3] at hj
   rw [show off+j=off+j / 6*6+3 by omega,k3]
   exact hj
  ·rw [show j=j / 6*6+4 by omega,f4] at hj
   rw [show off+j=off+j / 6*6+4 by omega,k4]
   exact hj
  ·rw [show j=j / 6*6+5 by omega,f5] at hj
   rw [show off+j=off+j / 6*6+5 by omega,k5]
   exact hj
theorem Nt (w:World) (base:Nat) (ty:TypeId) (v:Value) (n:Nat) (xs:List Value) (hown:w.ownsRow base 107 6 v n xs) (ao:Option Addr) (c:Nat) (az:List Au) (hz:Ar w ao az)
  (hn:n+az.length≤5000000) (hbase:base≤w.heap.size) :
  ∃ v' w',(Builtin.append_ #[25,25] ty #[v,.slice ao az.length c]).run prog w=.ok v' w'∧w'.ownsRow base 107 6 v' (n+az.length) (xs++Ah az)∧w.grownBy w' v.ownBlock ∧
   (v≠.slice none 0 0→v'≠.slice none 0 0):=by
 obtain ⟨i0,hi,hz0,hz1,hz2⟩:=info_parts cF
 cases ao with
 | none =>
  have hf:az=[]:=by
   rcases hz with h | ⟨b,off,h,_⟩
   ·exact h
   ·cases h
  subst hf
  refine ⟨v,w,?_,by simpa [Ah] using hown,⟨rfl,rfl,rfl,nL,fun _ _ _=>rfl⟩,id⟩
  have hu:=underlying25
  rcases hown.2 with ⟨rfl,rfl⟩ | ⟨g,cap,uV,rfl,hbg,hg,hnc,hcm,hcs,htake⟩
  ·simp [Builtin.append_,run_underlying hu,sizeOf,typeInfo,hi,Builtin.lenOf,Builtin.firstCells]
  ·simp [Builtin.append_,run_underlying hu,sizeOf,typeInfo,hi,Builtin.lenOf,Builtin.firstCells,loadCells,hnc,storeCells]
 | some a =>
  have hnews:∀ j u,(Ah az)[j]?=some u→w.cell? (a.add j)=some u:=by
   rcases hz with rfl | ⟨b,off,hq,hb,hc⟩
   ·intro j u hj;simp [Ah] at hj
   ·obtain rfl:a=⟨b,off,none⟩:=by simpa using hq
    exact Yq (.inr ⟨b,off,rfl,hb,hc⟩)
  obtain ⟨v',w',h1,h2,h3,h4,_⟩:=run_append_own_at (P:=prog) w base 25 ty 107 i0 _ 6 56 underlying25 hi hz0 hz1 hz2 rfl (by decide) v n xs hown a az.length c (Ah az) (E2 az) hnews (aN az) (by unfold maxLen;omega) (by omega) hbase
  exact ⟨v',w',h1,h2,h3,fun hne h=>hne (h4.1 h).1⟩
theorem Bu {ops:Array Oper} {rest:List Oper} {o:Oper} {a:Act} {Q:Exit→Act→World→Prop} (w:World) (hgd:o.guard=none) (s x:Operand)
  (ho:o.op=.call { callee:=.builtin .append,args:=#[s,x],argTypes:=#[25,25] }) (base:Nat) (v:Value) (n:Nat) (xs:List Value) (hs:a.eval s=v) (hown:w.ownsRow base 107 6 v n xs)
  (ao:Option Addr) (c:Nat) (az:List Au) (hx:a.eval x=.slice ao az.length c) (hz:Ar w ao az) (hn:n+az.length≤5000000) (hbase:base≤w.heap.size)
  (h:∀ v' w',w'.ownsRow base 107 6 v' (n+az.length) (xs++Ah az)→w.grownBy w' v.ownBlock→(v≠.slice none 0 0→v'≠.slice none 0 0)→wpList prog ops Q rest (a.put o.dst v') w'):wpList prog ops Q (o::rest) a w:=by
 obtain ⟨v',w',hr,h1,h2,h3⟩:=Nt w base o.type v n xs hown ao c az hz hn hbase;exact Lib.wpList_append_run w hgd s x _ _ ho _ _ hs hx v' w' hr (h v' w' h1 h2 h3)
theorem kV (w:World):(w.alloc (.cells #[] 107)).ownsRow w.heap.size 107 6 (.slice (some ⟨w.heap.size,0,none⟩) 0 0) 0 []:=World.ownsRow_lit w #[] 0 nL (by unfold maxLen;omega) rfl
theorem dI {w:World} {base n:Nat} {v:Value} {xs:List Value} (h:w.ownsRow base 107 6 v n xs):∃ ao cap,v=.slice ao n cap:=by
 rcases h.2 with ⟨rfl,rfl⟩ | ⟨g,c,uV,rfl,_⟩
 ·exact ⟨none,0,rfl⟩
 ·exact ⟨_,c,rfl⟩
theorem Oe {w:World} {base n:Nat} {v:Value} {xs:List Value} (h:w.ownsRow base 107 6 v n xs) (hv:v≠.slice none 0 0):∃ g c,v=.slice (some ⟨g,0,none⟩) n c:=by
 rcases h.2 with ⟨h,_⟩ | ⟨g,c,uV,h,_⟩
 ·exact absurd h hv
 ·exact ⟨g,c,h⟩
def Pi (u:World) (L:List Au) (q:Bool) (e:Ending) (u':World):Prop :=
 ∃ ao cap,e=.returned (.tuple #[.slice ao L.length cap,.bool q])∧u'.ownsRow u.heap.size 107 6 (.slice ao L.length cap) L.length (Ah L)∧BW u u'
def pA (u:World) (L:List Au) (e:Ending) (u':World):Prop :=
 ∃ ao cap,e=.returned (.slice ao L.length cap)∧u'.ownsRow u.heap.size 107 6 (.slice ao L.length cap) L.length (Ah L)∧BW u u'
theorem eP {w:World} {a:Addr} {rs:Be} (h:Bh w (some a) rs):∀ j u,(Am rs)[j]?=some u→w.cell? (a.add j)=some u:=by
 intro j u hj
 have hl:j<rs.length:=by
  rcases Nat.lt_or_ge j rs.length with h' | h'
  ·exact h'
  ·rw [List.getElem?_eq_none (by rw [L7];exact h')] at hj;cases hj
 rcases h with h | ⟨b,off,h1,h2,h3⟩
 ·rw [h] at hl;simp at hl
 ·injection h1 with h1
  subst h1;have e:=h3 j hl
  have hu:u=.string ⟨(Al rs j).toArray⟩:=by
   rw [Hd rs j hl] at hj;exact (Option.some.inj hj).symm
  rw [hu]
  by_cases e0:j=0
  ·subst e0;rw [Addr.add,if_pos rfl];exact e
  ·rw [Addr.add,if_neg e0];exact e
theorem Ie (w:World) (base:Nat) (ty:TypeId) (v:Value) (n:Nat) (cs:List Value) (hown:w.ownsRow base 9 1 v n cs) (ao:Option Addr) (c:Nat) (rs:Be) (hz:Bh w ao rs)
  (hn:n+rs.length≤4000000) (hbase:base≤w.heap.size) :
  ∃ v' w',(Builtin.append_ #[23,23] ty #[v,.slice ao rs.length c]).run prog w=.ok v' w'∧w'.ownsRow base 9 1 v' (n+rs.length) (cs++Am rs)∧w.grownBy w' v.ownBlock:=by
 obtain ⟨i0,hi,hz0,hz1,hz2⟩:=info_parts S1
 cases ao with
 | none =>
  have hf:rs=[]:=by
   rcases hz with h | ⟨b,off,h,_⟩
   ·exact h
   ·cases h
  subst hf
  refine ⟨v,w,?_,by simpa [Am] using hown,⟨rfl,rfl,rfl,nL,fun _ _ _=>rfl⟩⟩
  have hu:=underlying23
  rcases hown.2 with ⟨rfl,rfl⟩ | ⟨g,cap,uV,rfl,hbg,hg,hnc,hcm,hcs,htake⟩
  ·simp [Builtin.append_,run_underlying hu,sizeOf,typeInfo,hi,Builtin.lenOf,Builtin.firstCells]
  ·simp [Builtin.append_,run_underlying hu,sizeOf,typeInfo,hi,Builtin.lenOf,Builtin.firstCells,loadCells,hnc,storeCells]
 | some a =>
  obtain ⟨v',w',h1,h2,h3,_,_⟩:=run_append_own_at (P:=prog) w base 23 ty 9 i0 _ 1 16 underlying23 hi hz0 hz1 hz2 rfl (by decide) v n cs hown a rs.length c (Am rs) (by simp [L7]) (eP hz) (Zv rs) (by unfold maxLen;omega) (by omega) hbase
  exact ⟨v',w',h1,h2,h3⟩
theorem Kh {ops:Array Oper} {rest:List Oper} {o:Oper} {a:Act} {Q:Exit→Act→World→Prop} (w:World) (hgd:o.guard=none) (s x:Operand)
  (ho:o.op=.call { callee:=.builtin .append,args:=#[s,x],argTypes:=#[23,23] }) (base:Nat) (v:Value) (n:Nat) (cs:List Value) (hs:a.eval s=v) (hown:w.ownsRow base 9 1 v n cs)
  (ao:Option Addr) (c:Nat) (rs:Be) (hx:a.eval x=.slice ao rs.length c) (hz:Bh w ao rs) (hn:n+rs.length≤4000000) (hbase:base≤w.heap.size)
  (h:∀ v' w',w'.ownsRow base 9 1 v' (n+rs.length) (cs++Am rs)→w.grownBy w' v.ownBlock→wpList prog ops Q rest (a.put o.dst v') w') :
  wpList prog ops Q (o::rest) a w:=by
 refine wpList_plain hgd fun K hK=>?_
 obtain ⟨v',w',hr,h2,h3⟩:=Ie w base o.type v n cs hown ao c rs hz hn hbase;unfold Oper.wp execOp
 simp only [ho,resolve,invoke,builtin,Sem.run_bind,Sem.run_pure,Result.andThen_ok,List.map_toArray,List.map_cons,List.map_nil,hs,hx,hr]
 exact hK _ _ (h v' w' h2 h3)
theorem dQ {w:World} {a:Addr} {zs:List Int} (h:Aw w (some a) zs):∀ j u,(zs.map (Value.int .i64))[j]?=some u→w.cell? (a.add j)=some u:=by
 intro j u hj
 have hl:j<zs.length:=by
  rcases Nat.lt_or_ge j zs.length with h' | h'
  ·exact h'
  ·rw [List.getElem?_eq_none (by simpa using h')] at hj;cases hj
 rcases h with h | ⟨b,off,h1,h2,h3⟩
 ·rw [h] at hl;simp at hl
 ·injection h1 with h1
  subst h1;have e:=h3 j hl
  have hu:u=.int .i64 (zs.getD j 0):=by
   rw [List.getElem?_map,List.getElem?_eq_getElem hl] at hj
   simp at hj
   rw [← hj]
   simp [List.getD_eq_getElem?_getD,hl]
  rw [hu]
  by_cases e0:j=0
  ·subst e0;rw [Addr.add,if_pos rfl];exact e
  ·rw [Addr.add,if_neg e0];exact e
theorem lH (zs:List Int):∀ u ∈ zs.map (Value.int .i64),u.oneCell'=true:=by
 intro u hu
 simp at hu
 obtain ⟨x,_,rfl⟩:=hu
 rfl
theorem Mc (w:World) (base:Nat) (ty:TypeId) (v:Value) (n:Nat) (cs:List Value) (hown:w.ownsRow base 3 1 v n cs) (ao:Option Addr) (c:Nat) (zs:List Int) (hz:Aw w ao zs)
  (hn:n+zs.length≤4000000) (hbase:base≤w.heap.size) :
  ∃ v' w',(Builtin.append_ #[22,22] ty #[v,.slice ao zs.length c]).run prog w=.ok v' w'∧w'.ownsRow base 3 1 v' (n+zs.length) (cs++zs.map (Value.int .i64))∧w.grownBy w' v.ownBlock:=by
 obtain ⟨i0,hi,hz0,hz1,hz2⟩:=info_parts pQ
 cases ao with
 | none =>
  have hf:zs=[]:=by
   rcases hz with h | ⟨b,off,h,_⟩
   ·exact h
   ·cases h
  subst hf
  refine ⟨v,w,?_,by simpa using hown,⟨rfl,rfl,rfl,nL,fun _ _ _=>rfl⟩⟩
  have hu:=underlying22
  rcases hown.2 with ⟨rfl,rfl⟩ | ⟨g,cap,uV,rfl,hbg,hg,hnc,hcm,hcs,htake⟩
  ·simp [Builtin.append_,run_underlying hu,sizeOf,typeInfo,hi,Builtin.lenOf,Builtin.firstCells]
  ·simp [Builtin.append_,run_underlying hu,sizeOf,typeInfo,hi,Builtin.lenOf,Builtin.firstCells,loadCells,hnc,storeCells]
 | some a =>
  obtain ⟨v',w',h1,h2,h3,_,_⟩:=run_append_own_at (P:=prog) w base 22 ty 3 i0 _ 1 8 underlying22 hi hz0 hz1 hz2 rfl (by decide) v n cs hown a zs.length c (zs.map (Value.int .i64)) (by simp) (dQ hz) (lH zs) (by unfold maxLen;omega) (by omega) hbase
  exact ⟨v',w',h1,h2,h3⟩
theorem Gf {ops:Array Oper} {rest:List Oper} {o:Oper} {a:Act} {Q:Exit→Act→World→Prop} (w:World) (hgd:o.guard=none) (s x:Operand)
  (ho:o.op=.call { callee:=.builtin .append,args:=#[s,x],argTypes:=#[22,22] }) (base:Nat) (v:Value) (n:Nat) (cs:List Value) (hs:a.eval s=v) (hown:w.ownsRow base 3 1 v n cs)
  (ao:Option Addr) (c:Nat) (zs:List Int) (hx:a.eval x=.slice ao zs.length c) (hz:Aw w ao zs) (hn:n+zs.length≤4000000) (hbase:base≤w.heap.size)
  (h:∀ v' w',w'.ownsRow base 3 1 v' (n+zs.length) (cs++zs.map (Value.int .i64))→w.grownBy w' v.ownBlock→wpList prog ops Q rest (a.put o.dst v') w') :
  wpList prog ops Q (o::rest) a w:=by
 refine wpList_plain hgd fun K hK=>?_
 obtain ⟨v',w',hr,h2,h3⟩:=Mc w base o.type v n cs hown ao c zs hz hn hbase;unfold Oper.wp execOp
 simp only [ho,resolve,invoke,builtin,Sem.run_bind,Sem.run_pure,Result.andThen_ok,List.map_toArray,List.map_cons,List.map_nil,hs,hx,hr]
 exact hK _ _ (h v' w' h2 h3)
theorem fC (g:Nat) (ao:Option Addr) (cap:Nat) (zs:List Int) (w:World) (hc:w.cell? ⟨g,0,none⟩=some (.slice ao zs.length cap)) (hz:Aw w ao zs) (hn:zs.length≤1048577) :
  Calls prog 101 #[.slice (some ⟨g,0,none⟩) 1 1] w fun e w'=>∃ a2 k2,e=.returned (.slice a2 zs.length k2) ∧
   w'.ownsRow w.heap.size 3 1 (.slice a2 zs.length k2) zs.length (zs.map (Value.int .i64))∧BW w w':=by
 have HZ:Hid (Aw w ao zs):=hz;clear hz
 go_enter func101,ntmps101
 go_wp2;refine wp_loop_rounds 2 ?_;rw [rounds_succ]
 go_wp2_with (at_builtin;refine Gf _ rfl (.tmp 12) (.tmp 13) rfl w.heap.size _ 0 [] rfl (World.ownsRow_nil _ _ _ _) ao cap zs rfl HZ.o (by omega) nL ?_;intro v2 w2 o2 g2)
 have q2:BW w w2:=bR.grown g2 nL (fun k hk=>by cases hk)
 rw [Nat.zero_add,List.nil_append] at o2;obtain ⟨a2,k2,hv2⟩:=Fz o2;subst hv2;have HO2:Hid (w2.ownsRow w.heap.size 3 1 (.slice a2 zs.length k2) zs.length (zs.map (Value.int .i64))):=o2;clear o2 g2 HZ hc;go_wp2;rw [rounds_succ];go_wp2;go_ret;exact ⟨a2,k2,rfl,HO2.o,q2⟩
theorem Ro (a:Int) (w:World) :
  Calls prog 216 #[.int .i64 a] w fun e w'=>e=.returned (.bool (Cb a))∧w'=w:=by
 go_enter func216,ntmps216
 go_wp2_with fail
 refine (Dl _ _ _ _).mono ?_;rintro e w1 ⟨rfl,hw⟩;rw [hw];go_wp2;go_ret;exact ⟨rfl,rfl⟩
theorem Do {a:Int} {q:Bool} (h:Cb a=q) (w:World):Calls prog 216 #[.int .i64 a] w fun e w'=>e=.returned (.bool q)∧w'=w:=by rw [← h];exact Ro a w
theorem dT (a b c m:Int) (w:World) :
  Calls prog 265 #[.agg #[.int .i64 a,.int .i64 b,.int .i64 c,.int .i64 m]] w fun e w'=>e=.returned (.agg #[.int .i64 b,.int .i64 a,.int .i64 c,.int .i64 m])∧BW w w':=by
 go_enter func265,ntmps265
 go_wp2
 go_returns
 refine ⟨rfl,?_⟩
 go_grown
theorem Jf {c:Int} (w:World) (d:Int) (h:Dc c=d):Calls prog 217 #[.int .i64 c] w fun e w'=>e=.returned (.int .i64 d)∧BW w w':=by rw [← h];exact Ga c w
theorem Nf (a b c m:Int) (w:World) :
  Calls prog 261 #[.agg #[.int .i64 a,.int .i64 b,.int .i64 c,.int .i64 m]] w fun e w'=>e=.returned (.bool (Bt (a,b,c,m)))∧BW w w':=by
 have bel:Below w.heap.size w (w.alloc (.cells #[.int .i64 a,.int .i64 b,.int .i64 c,.int .i64 m] 269)):=by go_grown
 cases h1:Cb a
 ·have HE:Hid (Bt (a,b,c,m)=false):=by simp [Hid,Bt,h1]
  have H1:Hid _:=h1;clear h1
  go_enter func261,ntmps261
  go_wp2_with fail
  refine (Do H1.o _).mono ?_;rintro e w1 ⟨rfl,hw⟩;rw [hw];clear hw;go_wp2;go_ret;exact ⟨Aa HE.o.symm,bel⟩
 have H1:Hid _:=h1
 cases h2:Cb b
 ·have HE:Hid (Bt (a,b,c,m)=false):=by simp [Hid,Bt,h2]
  have H2:Hid _:=h2;clear h1 h2
  go_enter func261,ntmps261
  go_wp2_with fail
  refine (Do H1.o _).mono ?_;rintro e w1 ⟨rfl,hw⟩;rw [hw];clear hw;go_wp2_with fail
  refine (Do H2.o _).mono ?_;rintro e w2 ⟨rfl,hw⟩;rw [hw];clear hw;go_wp2;go_ret;exact ⟨Aa HE.o.symm,bel⟩
 have H2:Hid _:=h2
 by_cases h3:a=b
 ·have HE:Hid (Bt (a,b,c,m)=false):=by simp [Hid,Bt,h3]
  have h3':(a != b)=false:=by simpa using h3
  clear h1 h2 h3
  go_enter func261,ntmps261
  go_wp2_with fail
  refine (Do H1.o _).mono ?_;rintro e w1 ⟨rfl,hw⟩;rw [hw];clear hw;go_wp2_with fail
  refine (Do H2.o _).mono ?_;rintro e w2 ⟨rfl,hw⟩;rw [hw];clear hw;go_wp2;go_ret;exact ⟨Aa HE.o.symm,bel⟩
 have h3':(a != b)=true:=by simpa using h3
 have hx:∀ q:Bool,(decide (0≤Dc c) && decide (1≤m∧m≤1000000000000))=q→Bt (a,b,c,m)=q:=by
  intro q hq
  simp only [Bt,h1,h2,Bool.true_and,decide_eq_true h3]
  exact hq
 obtain ⟨d,hd⟩:∃ d,Dc c=d:=⟨_,rfl⟩;have HD:Hid _:=hd
 by_cases h4:0≤d
 ·have HE:Hid (Bt (a,b,c,m)=Gk m 1 1000000000000):=hx _ (by rw [hd,decide_eq_true h4];rfl)
  clear hx hd h3 h1 h2
  go_enter func261,ntmps261
  go_wp2_with fail
  refine (Do H1.o _).mono ?_;rintro e w1 ⟨rfl,hw⟩;rw [hw];clear hw;go_wp2_with fail
  refine (Do H2.o _).mono ?_;rintro e w2 ⟨rfl,hw⟩;rw [hw];clear hw;go_wp2_with fail
  refine (Jf _ d HD.o).mono ?_;rintro e w3 ⟨rfl,b3⟩
  have x3:=(b3.cell (p:=⟨w.heap.size,3,none⟩) (by simp)).trans (show _=some (.int .i64 m) by simp)
  have q3:=bel.trans (b3.mono bel.size);clear b3 bel;go_wp2_with fail
  refine (Dl _ _ _ _).mono ?_;rintro e w4 ⟨rfl,hw⟩;rw [hw];clear hw;obtain ⟨q,hq⟩:∃ q,Gk m 1 1000000000000=q:=⟨_,rfl⟩;rw [hq];have HQ:Hid _:=hq;clear hq;go_wp2;go_ret
  exact ⟨Aa (by rw [HE.o,HQ.o]),q3⟩
 ·have HE:Hid (Bt (a,b,c,m)=false):=hx _ (by rw [hd,decide_eq_false h4];rfl)
  clear hx hd h3 h1 h2
  go_enter func261,ntmps261
  go_wp2_with fail
  refine (Do H1.o _).mono ?_;rintro e w1 ⟨rfl,hw⟩;rw [hw];clear hw;go_wp2_with fail
  refine (Do H2.o _).mono ?_;rintro e w2 ⟨rfl,hw⟩;rw [hw];clear hw;go_wp2_with fail
  refine (Jf _ d HD.o).mono ?_;rintro e w3 ⟨rfl,b3⟩;have q3:=bel.trans (b3.mono bel.size);clear b3 bel;go_wp2;go_ret;exact ⟨Aa HE.o.symm,q3⟩
def B0 (l:List UInt8):Nat→Be×Nat
 | 0=>([],0)
 | i+1=>if l.getD i 0=32 then ((B0 l i).1++[(l.drop (B0 l i).2).take (i - (B0 l i).2)],i+1) else B0 l i
def Ab (l:List UInt8):Be:=(B0 l l.length).1++[l.drop (B0 l l.length).2]
theorem Mo (l:List UInt8):∀ i,(B0 l i).2≤i∧(B0 l i).1.length≤i
 | 0=>⟨nL,nL⟩
 | i+1=>by
  have:=Mo l i
  unfold B0
  split
  ·refine ⟨nL,?_⟩
   simp;omega
  ·omega
theorem Kw {l:List UInt8} {i:Nat} (h:l.getD i 0=32):B0 l (i+1)=((B0 l i).1++[(l.drop (B0 l i).2).take (i - (B0 l i).2)],i+1):=by rw [B0,if_pos h]
theorem J7 {l:List UInt8} {i:Nat} (h:l.getD i 0≠32):B0 l (i+1)=B0 l i:=by rw [B0,if_neg h]
theorem Fy (l:List UInt8):1≤(Ab l).length∧(Ab l).length≤l.length+1:=by
 have:=Mo l l.length
 rw [Ab,List.length_append];simp;omega
theorem Jw (l:List UInt8):∀ i,∀ r ∈ (B0 l i).1,r.length≤l.length
 | 0=>fun r h=>by cases h
 | i+1=>fun r h=>by
  unfold B0 at h
  split at h
  ·rcases List.mem_append.1 h with h | h
   ·exact Jw l i r h
   ·rw [List.mem_singleton.1 h];simp;omega
  ·exact Jw l i r h
theorem Ee (l:List UInt8):∀ r ∈ Ab l,r.length≤l.length:=by
 intro r h
 rcases List.mem_append.1 h with h | h
 ·exact Jw l _ r h
 ·rw [List.mem_singleton.1 h];simp
theorem I8 (l:List UInt8) (w:World) (hl:l.length≤1048576) :
  Calls prog 139 #[.string ⟨l.toArray⟩] w fun e w'=>∃ a k,e=.returned (.slice a (Ab l).length k)∧w'.ownsRow w.heap.size 9 1 (.slice a (Ab l).length k) (Ab l).length (Am (Ab l))∧BW w w':=by
 obtain ⟨i0,hi,hz0,hz1,hz2⟩:=info_parts S1
 have HO0:Hid ((w.alloc (.cells #[] 9)).ownsRow w.heap.size 9 1 (.slice (some ⟨w.heap.size,0,none⟩) 0 0) 0 (Am [])):=by
  have h:=World.ownsRow_lit (base:=w.heap.size) (e:=9) (size:=1) w #[] 0 nL (by unfold maxLen;omega) rfl
  rw [Hid];simpa [Am] using h
 have HBA:Hid (Below w.heap.size w (w.alloc (.cells #[] 9))):=bR.alloc nL _;have HWE:Hid (Ab l=(B0 l l.length).1++[l.drop (B0 l l.length).2]):=rfl;obtain ⟨WW,hWW⟩:∃ x,Ab l=x:=⟨_,rfl⟩;rw [hWW] at HWE ⊢;clear hWW
 go_enter func139,ntmps139
 go_wp2
 go_loopw [3,4,5] (fun s f i wr=>∃ (v:Value) (k:Nat),v=s∧k≤l.length∧i=.int .i64 (k:Int)∧f=.int .i64 ((B0 l k).2:Int)∧wr.ownsRow w.heap.size 9 1 v (B0 l k).1.length (Am (B0 l k).1)∧BW w wr) (fun _ _ i _=>l.length - (intOf i).toNat)
 case atStart=>exact ⟨_,0,rfl,Nat.zero_le _,rfl,rfl,HO0.o,HBA.o⟩
 case round =>
  obtain ⟨v,k,hvs,hk,rfl,rfl,hown,hbr⟩:=hrel;subst hvs;have HBR:Hid (BW w wr):=hbr;have HSZ:Hid (w.heap.size≤wr.heap.size):=hbr.size
  have HLT:Hid (∀ j,v.ownBlock=some j→w.heap.size≤j):=fun j hj=>(hown.lt j hj).1
  have hsc:=Mo l k
  by_cases hlt:k<l.length
  ·have hki:(k:Int)<(l.length:Int):=by omega
   have HY:Hid _:=@Kw l k;have HN:Hid _:=@J7 l k
   obtain ⟨c,hc⟩:∃ c,(⟨l.toArray⟩:ByteArray)[k]'(by rw [Fo];exact hlt)=c:=⟨_,rfl⟩
   rw [(Je l k hlt).trans hc] at HY HN;obtain ⟨R,hR⟩:∃ x,(B0 l k).1=x:=⟨_,rfl⟩;obtain ⟨f,hf⟩:∃ x,(B0 l k).2=x:=⟨_,rfl⟩;rw [hR,hf] at HY;rw [hR] at hown hsc;rw [hf] at hsc ⊢;have HO:Hid (wr.ownsRow w.heap.size 9 1 v R.length (Am R)):=hown;have HRF:Hid ((B0 l k).1=R∧(B0 l k).2=f):=⟨hR,hf⟩;clear hR hf hown hbr HO0 HBA
   by_cases h32:c=32
   ·subst h32
    have hx:(⟨l.toArray⟩:ByteArray).extract f k=⟨((l.drop f).take (k - f)).toArray⟩:=Qo l f k;have HNX:Hid (B0 l (k+1)=(R++[(l.drop f).take (k - f)],k+1)):=HY.o rfl;obtain ⟨r,hr⟩:∃ x,(l.drop f).take (k - f)=x:=⟨_,rfl⟩;rw [hr] at hx HNX
    have hfk:(f:Int)≤(k:Int):=by omega
    clear HY HN hr
    go_wp2_with (at_builtin;refine wpList_append_own _ rfl (.tmp 17) (.tmp 22) 23 rfl w.heap.size 9 i0 (.string ⟨#[]⟩) 1 16 underlying23 hi hz0 hz1 hz2 rfl (by decide) _ _ _ rfl (HO.o.alloc _) ⟨wr.heap.size,0,none⟩ 1 1 [.string ⟨r.toArray⟩] rfl rfl (World.news_of_block (heap_alloc_new wr _)) (Rf _) (by unfold maxLen;omega) (by omega) (by simp;have:=HSZ.o;omega) ?_;intro v5 w5 o5 g5 _)
    have q5:BW w w5:=(HBR.o.alloc (by have:=HSZ.o;omega) _).grown g5 (by have:=HSZ.o;simp;omega) HLT.o
    have HR5:Hid (w5.ownsRow w.heap.size 9 1 v5 (B0 l (k+1)).1.length (Am (B0 l (k+1)).1)):=by
     rw [Hid,HNX.o];simp only [List.length_append,F6];exact o5
    have HF5:Hid ((B0 l (k+1)).2=k+1):=by rw [Hid,HNX.o]
    clear o5 g5 hx;go_wp2
    go_roundw
    case rel=>exact ⟨_,k+1,rfl,by omega,by go_num,by rw [HF5.o];go_num,HR5.o,q5⟩
    case measure=>simp [intOf];omega
   ·have HNX:Hid (B0 l (k+1)=B0 l k):=HN.o h32
    have hcb:((c.toNat:Int) == 32)=false:=by
     simp only [beq_eq_false_iff_ne,ne_eq]
     intro e;apply h32;apply UInt8.toNat_inj.1
     show c.toNat=32
     omega
    have HR5:Hid (wr.ownsRow w.heap.size 9 1 v (B0 l (k+1)).1.length (Am (B0 l (k+1)).1)):=by
     rw [Hid,HNX.o,HRF.o.1];exact HO.o
    have HF5:Hid ((B0 l (k+1)).2=f):=by rw [Hid,HNX.o,HRF.o.2]
    clear HY HN;go_wp2
    go_roundw
    case rel=>exact ⟨_,k+1,rfl,by omega,by go_num,by rw [HF5.o],HR5.o,HBR.o⟩
    case measure=>simp [intOf];omega
  ·have hke:k=l.length:=by omega
   subst hke
   have hki:¬ (l.length:Int)<(l.length:Int):=by omega
   obtain ⟨R,hR⟩:∃ x,(B0 l l.length).1=x:=⟨_,rfl⟩;obtain ⟨f,hf⟩:∃ x,(B0 l l.length).2=x:=⟨_,rfl⟩;rw [hR,hf] at HWE;rw [hR] at hown hsc;rw [hf] at hsc ⊢;have HO:Hid (wr.ownsRow w.heap.size 9 1 v R.length (Am R)):=hown
   have hx:(⟨l.toArray⟩:ByteArray).extract f l.length=⟨(l.drop f).toArray⟩:=by rw [Qo,List.take_of_length_le (by simp)]
   obtain ⟨r,hr⟩:∃ x,l.drop f=x:=⟨_,rfl⟩;rw [hr] at hx HWE
   have hfk:(f:Int)≤(l.length:Int):=by omega
   clear hR hf hown hbr HO0 HBA hr
   go_wp2_with (at_builtin;refine wpList_append_own _ rfl (.tmp 26) (.tmp 30) 23 rfl w.heap.size 9 i0 (.string ⟨#[]⟩) 1 16 underlying23 hi hz0 hz1 hz2 rfl (by decide) _ _ _ rfl (HO.o.alloc _) ⟨wr.heap.size,0,none⟩ 1 1 [.string ⟨r.toArray⟩] rfl rfl (World.news_of_block (heap_alloc_new wr _)) (Rf _) (by unfold maxLen;omega) (by omega) (by simp;have:=HSZ.o;omega) ?_;intro v5 w5 o5 g5 _)
   have q5:BW w w5:=(HBR.o.alloc (by have:=HSZ.o;omega) _).grown g5 (by have:=HSZ.o;simp;omega) HLT.o
   have HR5:Hid (w5.ownsRow w.heap.size 9 1 v5 WW.length (Am WW)):=by
    rw [Hid,HWE.o,List.length_append,F6];exact o5
   obtain ⟨a,cp,hv,-,-⟩:=Ov HR5.o;subst hv;clear o5 g5 hx;go_wp2;go_ret;exact ⟨a,cp,rfl,HR5.o,q5⟩
def Ae (s:List UInt8):Int:=if s=[]∨15<s.length then -1 else if Dr s<0∨Lib.decDigits (Dr s).toNat≠s then -1 else Dr s
theorem rK:Ae [] = -1:=by simp [Ae]
theorem jY {s:List UInt8} (h:15<s.length):Ae s = -1:=if_pos (.inr h)
theorem qC {s:List UInt8} (h0:s≠[]) (h1:¬ 15<s.length) (h:Dr s<0):Ae s = -1:=by rw [Ae,if_neg (by rintro (h | h);exact h0 h;exact h1 h),if_pos (.inl h)]
theorem rC {s:List UInt8} (h0:s≠[]) (h1:¬ 15<s.length) (h:Lib.decDigits (Dr s).toNat≠s):Ae s = -1:=by rw [Ae,if_neg (by rintro (h | h);exact h0 h;exact h1 h),if_pos (.inr h)]
theorem kY {s:List UInt8} (h0:s≠[]) (h1:¬ 15<s.length) (h2:¬ Dr s<0) (h:Lib.decDigits (Dr s).toNat=s):Ae s=Dr s:=by rw [Ae,if_neg (by rintro (h | h);exact h0 h;exact h1 h),if_neg (by rintro (h' | h');exact h2 h';exact h' h)]
theorem Ib (s:List UInt8):-1≤Ae s∧Ae s<1000000000000000000:=by
 have:=Qj s
 unfold Ae
 split
 ·omega
 ·split
  ·omega
  ·omega
theorem Ha (s:List UInt8) (w:World) (hl:s.length≤1048576) :
  Calls prog 140 #[.string ⟨s.toArray⟩] w fun e w'=>e=.returned (.int .i64 (Ae s))∧w'=w:=by
 by_cases h0:s=[]
 ·subst h0
  have HE:Hid _:=rK
  go_enter func140,ntmps140
  go_wp2;go_ret;exact ⟨Af HE.o.symm,rfl⟩
 have hie:s.isEmpty=false:=by cases s with
  | nil=>exact absurd rfl h0
  | cons a t=>rfl
 by_cases h1:15<s.length
 ·have HE:Hid _:=jY h1
  have h1':(15:Int)<(s.length:Int):=by omega
  go_enter func140,ntmps140
  go_wp2;go_ret;exact ⟨Af HE.o.symm,rfl⟩
 have h1':¬ (15:Int)<(s.length:Int):=by omega
 have HN:Hid (∀ u,Calls prog 177 #[.string ⟨s.toArray⟩] u fun e w'=>e=.returned (.int .i64 (Dr s))∧w'=u):=fun u=>Tg.sNumOf_any s u (by omega)
 have hbd:=Qj s
 by_cases h2:Dr s<0
 ·have HE:Hid _:=qC h0 h1 h2
  obtain ⟨n,hn⟩:∃ n,Dr s=n:=⟨_,rfl⟩;rw [hn] at HN h2 hbd;clear hn h1
  go_enter func140,ntmps140
  go_wp2_with (go_at_call 177;refine (HN.o _).mono ?_;rintro e w' ⟨rfl,rfl⟩)
  go_ret;exact ⟨Af HE.o.symm,rfl⟩
 obtain ⟨m,hm⟩:=Int.eq_ofNat_of_zero_le (show 0≤Dr s by omega)
 have HD:Hid (∀ u,Calls prog 72 #[.int .i64 (m:Int)] u fun e w'=>e=.returned (.string ⟨(Lib.decDigits m).toArray⟩)∧w'=u):=fun u=>Tg.dec_up m u (by omega)
 by_cases h3:Lib.decDigits m=s
 ·have HE:Hid (Ae s=(m:Int)):=by rw [Hid,kY h0 h1 h2 (by rw [hm];exact h3),hm]
  rw [hm] at HN h2 hbd;rw [h3] at HD;clear h1 h3
  have hmm:¬ (m:Int)<0:=by omega
  go_enter func140,ntmps140
  go_wp2_with (first | (go_at_call 177;refine (HN.o _).mono ?_;rintro e w' ⟨rfl,rfl⟩) | (go_at_call 72;refine (HD.o _).mono ?_;rintro e w' ⟨rfl,rfl⟩))
  go_ret;exact ⟨Af HE.o.symm,rfl⟩
 ·have HE:Hid (Ae s = -1):=rC h0 h1 (by rw [hm];exact h3)
  rw [hm] at HN h2 hbd;clear h1;obtain ⟨D,hD⟩:∃ D,Lib.decDigits m=D:=⟨_,rfl⟩;rw [hD] at HD h3
  have hds:(D == s)=false:=by simpa using h3
  clear hD
  have hmm:¬ (m:Int)<0:=by omega
  go_enter func140,ntmps140
  go_wp2_with (first | (go_at_call 177;refine (HN.o _).mono ?_;rintro e w' ⟨rfl,rfl⟩) | (go_at_call 72;refine (HD.o _).mono ?_;rintro e w' ⟨rfl,rfl⟩))
  go_ret;exact ⟨Af HE.o.symm,rfl⟩
def Ap (rs:Be):Bool:=rs.all fun r=>decide (0≤Ae r)
def A7 (rs:Be):List Int:=if Ap rs=true then rs.map Ae else []
theorem S0 {rs:Be} {k:Nat} (h:k<rs.length) (hn:Ae (Al rs k)<0):Ap rs=false:=by
 cases e:Ap rs
 ·rfl
 ·have h1:=List.all_eq_true.1 e (Al rs k) (F7 h)
  have h2:0≤Ae (Al rs k):=by simpa using h1
  omega
theorem Qe {rs:Be} (h:∀ k,k<rs.length→0≤Ae (Al rs k)):Ap rs=true:=by
 refine List.all_eq_true.2 fun r hr=>?_
 obtain ⟨k,hk,rfl⟩:=List.getElem_of_mem hr
 have:=h k hk
 simpa [Al,List.getD_eq_getElem?_getD,hk] using this
theorem Tm (rs:Be) (k:Nat) (h:k<rs.length):(rs.take (k+1)).map Ae=(rs.take k).map Ae++[Ae (Al rs k)]:=by
 have e:Al rs k=rs[k]:=by simp [Al,List.getD_eq_getElem?_getD,h]
 rw [List.take_succ_eq_append_getElem h,List.map_append,e];rfl
theorem mG:(prog.info? 3).map (fun i=>(i.zero,i.size,i.bytes))=some (some (.int .i64 0),1,8):=by kernel_rfl
theorem cJ (x:Int):∀ u ∈ [Value.int .i64 x],u.oneCell'=true:=by
 intro u hu
 rw [List.mem_singleton.1 hu];rfl
theorem Nw (ao:Option Addr) (cap:Nat) (rs:Be) (w:World) (hz:Bh w ao rs) (hn:rs.length≤1048576) (hd:∀ r ∈ rs,r.length≤1048576) :
  Calls prog 142 #[.slice ao rs.length cap] w fun e w'=>∃ a k,e=.returned (.tuple #[.slice a (A7 rs).length k,.bool (Ap rs)])∧w'.ownsRow w.heap.size 3 1 (.slice a (A7 rs).length k) (A7 rs).length ((A7 rs).map (Value.int .i64))∧BW w w':=by
 obtain ⟨i0,hi,hz0,hz1,hz2⟩:=info_parts mG
 have HO0:Hid ((w.alloc (.cells #[] 3)).ownsRow w.heap.size 3 1 (.slice (some ⟨w.heap.size,0,none⟩) 0 0) 0 ((([]:Be).map Ae).map (Value.int .i64))):=by
  have h:=World.ownsRow_lit (base:=w.heap.size) (e:=3) (size:=1) w #[] 0 nL (by unfold maxLen;omega) rfl
  rw [Hid];simpa using h
 have HBA:Hid (Below w.heap.size w (w.alloc (.cells #[] 3))):=bR.alloc nL _;have HX:Hid (Bh w ao rs):=hz
 have HD:Hid (∀ k,k<rs.length→(Al rs k).length≤1048576):=fun k hk=>hd _ (F7 hk)
 clear hz hd
 go_enter func142,ntmps142
 go_wp2
 go_loopw [4,5] (fun s i wr=>∃ (v:Value) (k:Nat),v=s∧k≤rs.length∧i=.int .i64 (k:Int)∧(∀ j,j<k→0≤Ae (Al rs j))∧wr.ownsRow w.heap.size 3 1 v ((rs.take k).map Ae).length (((rs.take k).map Ae).map (Value.int .i64))∧BW w wr) (fun _ i _=>rs.length - (intOf i).toNat)
 case atStart=>exact ⟨_,0,rfl,Nat.zero_le _,rfl,fun j hj=>absurd hj (Nat.not_lt_zero _),HO0.o,HBA.o⟩
 case round =>
  obtain ⟨v,k,hvs,hk,rfl,hall,hown,hbr⟩:=hrel;subst hvs;have HBR:Hid (BW w wr):=hbr;have HALL:Hid (∀ j,j<k→0≤Ae (Al rs j)):=hall;have HSZ:Hid (w.heap.size≤wr.heap.size):=hbr.size
  have HLT:Hid (∀ j,v.ownBlock=some j→w.heap.size≤j):=fun j hj=>(hown.lt j hj).1
  have hml:((rs.take k).map Ae).length≤1048576:=by simp;omega
  by_cases hlt:k<rs.length
  ·have hki:(k:Int)<(rs.length:Int):=by omega
   obtain ⟨gb,off,rfl,hgb,hcell⟩:∃ gb off,ao=some ⟨gb,off,none⟩∧gb<wr.heap.size∧wr.cell? ⟨gb,off+k,none⟩=some (.string ⟨(Al rs k).toArray⟩):=by
    rcases HX.o.below hbr with h | ⟨gb,off,h1,h2,h3⟩
    ·rw [h] at hlt;simp at hlt
    ·exact ⟨gb,off,h1,h2,h3 k hlt⟩
   have HNX:Hid _:=Tm rs k hlt;have hrl:=HD.o k hlt;have hnb:=Ib (Al rs k);have HNO:Hid _:=@S0 rs k hlt
   have HNM:Hid (∀ u,Calls prog 140 #[.string ⟨(Al rs k).toArray⟩] u fun e w'=>e=.returned (.int .i64 (Ae (Al rs k)))∧w'=u):=fun u=>Ha _ u hrl
   have HAL2:Hid (0≤Ae (Al rs k)→∀ j,j<k+1→0≤Ae (Al rs j)):=fun h j hj=>by
    rcases (show j<k∨j=k by omega) with hj | rfl
    ·exact HALL.o j hj
    ·exact h
   obtain ⟨L,hL⟩:∃ L,(rs.take k).map Ae=L:=⟨_,rfl⟩;rw [hL] at HNX hown hml;obtain ⟨x,hx⟩:∃ x,Ae (Al rs k)=x:=⟨_,rfl⟩;rw [hx] at HNX HNM hnb HNO HAL2;obtain ⟨r,hr⟩:∃ r,Al rs k=r:=⟨_,rfl⟩;rw [hr] at hcell HNM hrl;have HO:Hid (wr.ownsRow w.heap.size 3 1 v L.length (L.map (Value.int .i64))):=hown;clear hL hx hr hown hbr hall HO0 HBA
   by_cases hxn:x<0
   ·have HE:Hid (Ap rs=false):=HNO.o hxn
    have HE2:Hid (A7 rs=[]):=if_neg (by rw [HE.o];decide)
    go_wp2_with (go_at_call 140;refine (HNM.o _).mono ?_;rintro e w' ⟨rfl,hw'⟩;replace hw':=hw'.symm;subst hw')
    go_ret2;rw [HE.o,HE2.o]
    exact ⟨_,_,rfl,by simpa using World.ownsRow_lit (base:=w.heap.size) (e:=3) (size:=1) wr #[] 0 HSZ.o (by unfold maxLen;omega) rfl,HBR.o.alloc HSZ.o _⟩
   ·go_wp2_with (first
      | (go_at_call 140;refine (HNM.o _).mono ?_;rintro e w' ⟨rfl,hw'⟩;replace hw':=hw'.symm;subst hw')
      | (at_builtin;refine wpList_append_own _ rfl (.tmp 22) (.tmp 24) 22 rfl w.heap.size 3 i0 (.int .i64 0) 1 8 underlying22 hi hz0 hz1 hz2 rfl (by decide) _ _ _ rfl (HO.o.alloc _) ⟨wr.heap.size,0,none⟩ 1 1 [.int .i64 x] rfl rfl (World.news_of_block (heap_alloc_new wr _)) (cJ _) (by unfold maxLen;omega) (by omega) (by simp;have:=HSZ.o;omega) ?_;intro v5 w5 o5 g5 _))
    have q5:BW w w5:=(HBR.o.alloc (by have:=HSZ.o;omega) _).grown g5 (by have:=HSZ.o;simp;omega) HLT.o
    have HR5:Hid (w5.ownsRow w.heap.size 3 1 v5 ((rs.take (k+1)).map Ae).length (((rs.take (k+1)).map Ae).map (Value.int .i64))):=by
     rw [Hid,HNX.o,List.length_append,List.map_append];exact o5
    clear o5 g5 hcell;go_wp2
    go_roundw
    case rel=>exact ⟨_,k+1,rfl,by omega,by go_num,HAL2.o (by omega),HR5.o,q5⟩
    case measure=>simp [intOf];omega
  ·have hke:k=rs.length:=by omega
   subst hke
   have hki:¬ (rs.length:Int)<(rs.length:Int):=by omega
   have HE:Hid (Ap rs=true):=Qe HALL.o;have HE2:Hid (A7 rs=rs.map Ae):=if_pos HE.o;rw [List.take_length] at hown;obtain ⟨L,hL⟩:∃ L,rs.map Ae=L:=⟨_,rfl⟩;rw [hL] at hown HE2;clear hL hml;obtain ⟨va,vk,hva⟩:=Fz hown;subst hva;have HO:Hid _:=hown;clear hbr hown hall;go_wp2;go_ret2;rw [HE.o,HE2.o];exact ⟨va,vk,rfl,HO.o,HBR.o⟩
def Dm:Be:=[[97,115,107],[103,105,118,101],[99,104,97,114,103,101],[97,110,115,119,101,114],[115,101,99,111,110,100],[97,99,99,101,112,116],[114,101,102,117,115,101],[114,117,108,101],[101,120,112,105,114,101],[99,108,111,115,101]]
def Dh (s:List UInt8):Be→Nat→Int
 | [],_=>-1
 | r::t,k=>if r=s then (k:Int) else Dh s t (k+1)
def Bz (s:List UInt8):Int:=Dh s Dm 0
theorem Sz (s:List UInt8) (rs:Be) (k:Nat) (h:k<rs.length):Dh s (rs.drop k) k=if Al rs k=s then (k:Int) else Dh s (rs.drop (k+1)) (k+1):=by
 have e:Al rs k=rs[k]:=by simp [Al,List.getD_eq_getElem?_getD,h]
 rw [List.drop_eq_getElem_cons h,e];rfl
theorem Ol (s:List UInt8):∀ (rs:Be) (k:Nat),-1≤Dh s rs k∧Dh s rs k<(k+rs.length:Nat)
 | [],k=>by simp [Dh];omega
 | r::t,k=>by
  have:=Ol s t (k+1)
  unfold Dh
  split
  ·simp;omega
  ·simp at this ⊢;omega
theorem lS (s:List UInt8):-1≤Bz s∧Bz s<10:=Ol s Dm 0
theorem dL (w:World) :
  Calls prog 135 #[] w fun e w'=>e=.returned (.slice (some ⟨w.heap.size,0,none⟩) 10 10)∧(∀ k,k<10→w'.cell? ⟨w.heap.size,k,none⟩=some (.string ⟨(Al Dm k).toArray⟩))∧BW w w':=by
 go_enter func135,ntmps135
 go_wp2;go_ret
 refine ⟨rfl,fun k hk=>?_,bR.alloc nL _⟩
 rcases (show k=0∨k=1∨k=2∨k=3∨k=4∨k=5∨k=6∨k=7∨k=8∨k=9 by omega) with rfl | rfl | rfl | rfl | rfl | rfl | rfl | rfl | rfl | rfl <;> simp [Al,Dm]
theorem Tl (s:List UInt8) (w:World) (hl:s.length≤1048576) :
  Calls prog 145 #[.string ⟨s.toArray⟩] w fun e w'=>e=.returned (.int .i64 (Bz s))∧BW w w':=by
 have HK:Hid (Bz s=Dh s (Dm.drop 0) 0):=rfl
 go_enter func145,ntmps145
 go_wp2
 go_loopw [3] (fun i wr=>∃ (k:Nat),k≤10∧i=.int .i64 (k:Int)∧Bz s=Dh s (Dm.drop k) k∧BW w wr) (fun i _=>10 - (intOf i).toNat)
 case atStart=>exact ⟨0,Nat.zero_le _,rfl,HK.o,bR⟩
 case round =>
  obtain ⟨k,hk,rfl,hkw,hbr⟩:=hrel;have HBR:Hid (BW w wr):=hbr
  by_cases hlt:k<10
  ·have hki:(k:Int)<10:=by omega
   have hst:=Sz s Dm k hlt
   have HA:Hid (Calls prog 135 #[] wr fun e w'=>e=.returned (.slice (some ⟨wr.heap.size,0,none⟩) 10 10)∧w'.cell? ⟨wr.heap.size,k,none⟩=some (.string ⟨(Al Dm k).toArray⟩)∧BW wr w'):=(dL wr).mono fun e w' h=>⟨h.1,h.2.1 k hlt,h.2.2⟩
   obtain ⟨r,hr⟩:∃ r,Al Dm k=r:=⟨_,rfl⟩;rw [hr] at hst HA;clear hr hbr HK
   by_cases hrs:r=s
   ·subst hrs
    rw [if_pos rfl] at hst;have HE:Hid (Bz r=(k:Int)):=hkw.trans hst;clear hst hkw;go_wp2_with fail
    refine HA.o.mono ?_;rintro e w2 ⟨rfl,c2,b2⟩;have HB2:Hid (BW w w2):=next HBR.o b2;clear b2 HA;go_wp2;go_ret;exact ⟨Af HE.o.symm,HB2.o⟩
   ·rw [if_neg hrs] at hst
    have HE:Hid (Bz s=Dh s (Dm.drop (k+1)) (k+1)):=hkw.trans hst
    have hds:(r == s)=false:=by simpa using hrs
    clear hst hkw;go_wp2_with fail
    refine HA.o.mono ?_;rintro e w2 ⟨rfl,c2,b2⟩;have HB2:Hid (BW w w2):=next HBR.o b2;clear b2 HA;go_wp2
    go_roundw
    case rel=>exact ⟨k+1,by omega,by go_num,HE.o,HB2.o⟩
    case measure=>simp [intOf];omega
  ·have hke:k=10:=by omega
   subst hke;have HE:Hid (Bz s = -1):=hkw;clear hbr hkw;go_wp2;go_ret;exact ⟨Af HE.o.symm,HBR.o⟩
theorem G3 {w:World} {g k g' k':Nat} {v u:Value} (h:g=g'→k≠k') (hc:w.cell? ⟨g',k',none⟩=some u):(w.setCell ⟨g,k,none⟩ v).cell? ⟨g',k',none⟩=some u:=by
 rw [World.cell?_setCell_other w ⟨g,k,none⟩ v (b:=⟨g',k',none⟩) (fun e=>by injection e with e1 e2;exact h e1 e2)];exact hc
theorem tU {w:World} {g k:Nat} {v u:Value} (hc:w.cell? ⟨g,k,none⟩=some u):(w.setCell ⟨g,k,none⟩ v).cell? ⟨g,k,none⟩=some v:=World.cell?_setCell_same w ⟨g,k,none⟩ v hc
theorem O9 {w:World} {a b:Addr} {v:Value} (h:w.frozen? b=false):(w.setCell a v).frozen? b=false:=by simp [h]
def cT (B:Nat) (w:World) (g:Nat) (ao:Option Addr) (n:Nat):Prop :=
 n=0∨∃ b off,ao=some ⟨b,off,none⟩∧b≠g∧b<B∧∀ j,j<n→∃ v:Int,0≤v∧v≤255∧w.cell? ⟨b,off+j,none⟩=some (.int .u8 v)
def A2 (B:Nat) (w:World) (g:Nat):Prop :=
 ∃ (ao:Option Addr) (n cap:Nat) (i h:Int),0≤i∧i≤n∧n≤1048576∧(g<B∧B≤w.heap.size)∧w.cell? ⟨g,0,none⟩=some (.slice ao n cap)∧w.cell? ⟨g,1,none⟩=some (.int .i64 i) ∧
  w.cell? ⟨g,2,none⟩=some (.int .i64 h)∧w.frozen? ⟨g,1,none⟩=false∧w.frozen? ⟨g,2,none⟩=false∧cT B w g ao n
theorem wO (n:Nat) (h:n≤1073741823):IntKind.i64.wrap (n:Int)=n:=by
 simp [IntKind.wrap,IntKind.bits,IntKind.signed];omega
theorem yQ (a:Int) (m:Nat) (hm:m≤1073741823):0≤bits .and .i64 a (m:Int)∧bits .and .i64 a (m:Int)≤m:=by
 have h:(BitVec.ofInt 64 a &&& BitVec.ofInt 64 (m:Int)).toNat≤m:=by
  rw [BitVec.toNat_and];refine Nat.le_trans Nat.and_le_right ?_;rw [BitVec.toNat_ofInt]
  omega
 have e:bits .and .i64 a (m:Int)=IntKind.i64.wrap (((BitVec.ofInt 64 a &&& BitVec.ofInt 64 (m:Int)).toNat:Nat):Int):=rfl
 rw [e,wO _ (by omega)]
 omega
theorem vA (a:Int):0≤bits .and .i64 a 255∧bits .and .i64 a 255≤255:=yQ a 255 (by omega)
theorem uB (w:World) (g k:Nat) (v:Value):w.grownBy (w.setCell ⟨g,k,none⟩ v) (some g) :=
 ⟨rfl,rfl,rfl,by simp,fun j _ hj=>Below.heap_setCell _ _ _ _ (fun e=>hj (by rw [e]))⟩
theorem Z9 {w w':World} {row:Option Nat} (h:w.grownBy w' row) (n:Nat):w.grownBy (w'.drewN n) row:=⟨h.os,h.tape,h.output,h.size,h.block⟩
theorem uQ {B:Nat} {w:World} {g k n:Nat} {v:Value} {ao:Option Addr} (h:cT B w g ao n):cT B (w.setCell ⟨g,k,none⟩ v) g ao n:=by
 rcases h with h | ⟨b,off,h1,h2,h3,h4⟩
 ·exact .inl h
 ·refine .inr ⟨b,off,h1,h2,h3,fun j hj=>?_⟩
  obtain ⟨x,x0,x1,hx⟩:=h4 j hj
  exact ⟨x,x0,x1,G3 (fun e=>absurd e.symm h2) hx⟩
theorem vL {B:Nat} {w:World} {g:Nat} (hc:A2 B w g) (H:Int):A2 B (w.setCell ⟨g,2,none⟩ (.int .i64 H)) g:=by
 obtain ⟨ao,n,cap,i,h,h1,h2,h3,hg,c0,c1,c2,f1,f2,hb⟩:=hc
 exact ⟨ao,n,cap,i,H,h1,h2,h3,by simpa using hg,G3 (by omega) c0,G3 (by omega) c1,tU c2,O9 f1,O9 f2,uQ hb⟩
theorem yI {B:Nat} {w:World} {g n cap:Nat} {ao:Option Addr} (hc:A2 B w g) (h0:w.cell? ⟨g,0,none⟩=some (.slice ao n cap)) (j:Int) (j0:0≤j) (j1:j≤n):A2 B (w.setCell ⟨g,1,none⟩ (.int .i64 j)) g:=by
 obtain ⟨ao',n',cap',i,h,h1,h2,h3,hg,c0,c1,c2,f1,f2,hb⟩:=hc;rw [h0] at c0
 obtain ⟨rfl,rfl,rfl⟩:ao=ao'∧n=n'∧cap=cap':=by simpa using c0
 exact ⟨ao,n,cap,j,h,j0,j1,h3,by simpa using hg,G3 (by omega) h0,tU c1,G3 (by omega) c2,O9 f1,O9 f2,uQ hb⟩
theorem B9 {B:Nat} {w w':World} {g:Nat} (hc:A2 B w g) (hb:Below B w w'):A2 B w' g:=by
 obtain ⟨ao,n,cap,i,h,h1,h2,h3,hg,c0,c1,c2,f1,f2,hy⟩:=hc;have hl:=hg.1;refine ⟨ao,n,cap,i,h,h1,h2,h3,⟨hg.1,Nat.le_trans hg.2 hb.size⟩,(hb.cell hl).trans c0,(hb.cell hl).trans c1,(hb.cell hl).trans c2,(hb.frozen hl).trans f1,(hb.frozen hl).trans f2,?_⟩
 rcases hy with hy | ⟨b,off,y1,y2,y3,y4⟩
 ·exact .inl hy
 ·refine .inr ⟨b,off,y1,y2,y3,fun j hj=>?_⟩
  obtain ⟨x,x0,x1,hx⟩:=y4 j hj;exact ⟨x,x0,x1,(hb.cell (p:=⟨b,off+j,none⟩) y3).trans hx⟩
theorem K6 {B:Nat} {w:World} {g:Nat} (hc:A2 B w g):g<B∧B≤w.heap.size:=by
 obtain ⟨_,_,_,_,_,_,_,_,hg,_⟩:=hc;exact hg
theorem A4 {B:Nat} {w w':World} {g:Nat} (hc:A2 B w g) (hb:BW w w'):A2 B w' g:=B9 hc (hb.mono (K6 hc).2)
theorem V8 {B:Nat} (g:Nat) (w:World) (hc:A2 B w g) :
  Calls prog 129 #[.pointer (some ⟨g,0,none⟩)] w fun e w'=>∃ x:Int,e=.returned (.int .i64 x)∧0≤x∧x≤255∧A2 B w' g∧w.grownBy w' (some g):=by
 have HC:Hid (A2 B w g):=hc;obtain ⟨ao,n,cap,i,h,h1,h2,h3,hg,c0,c1,c2,f1,f2,hy⟩:=hc
 by_cases hlt:i<n
 ·rcases hy with hy | ⟨b,off,rfl,y2,y3,y4⟩
  ·omega
  ·obtain ⟨v,v0,v1,cb⟩:=y4 i.toNat (by omega)
   clear y4
   go_enter func129,ntmps129
   go_wp2
   generalize wrap64 (wrap64 (h*6364136223846793005)+1442695040888963407)=H
   obtain ⟨W,hW⟩:∃ W,w.setCell ⟨g,2,none⟩ (.int .i64 H)=W:=⟨_,rfl⟩
   have d0:W.cell? ⟨g,0,none⟩=some (.slice (some ⟨b,off,none⟩) n cap):=hW ▸ G3 (by omega) c0
   have d1:W.cell? ⟨g,1,none⟩=some (.int .i64 i):=hW ▸ G3 (by omega) c1
   have d2:W.cell? ⟨g,2,none⟩=some (.int .i64 H):=hW ▸ tU c2
   have db:W.cell? ⟨b,off+i.toNat,none⟩=some (.int .u8 v):=hW ▸ G3 (by omega) cb
   have e1:W.frozen? ⟨g,1,none⟩=false:=hW ▸ O9 f1;have HR:Hid (A2 B W g∧w.grownBy W (some g)):=hW ▸ ⟨vL HC.o H,uB w g 2 _⟩;rw [hW];clear hW c0 c1 c2 f1 f2 cb
   go_quiet (fail)
   go_wp2
   go_quiet (fail)
   go_wp2
   go_quiet (fail)
   go_wp2;go_ret
   exact ⟨_,rfl,(vA _).1,(vA _).2,yI HR.o.1 d0 _ (by omega) (by omega),Z9 (HR.o.2.trans (uB _ _ _ _)) _⟩
 ·go_enter func129,ntmps129
  go_wp2
  generalize wrap64 (wrap64 (h*6364136223846793005)+1442695040888963407)=H
  obtain ⟨W,hW⟩:∃ W,w.setCell ⟨g,2,none⟩ (.int .i64 H)=W:=⟨_,rfl⟩
  have d0:W.cell? ⟨g,0,none⟩=some (.slice ao n cap):=hW ▸ G3 (by omega) c0
  have d1:W.cell? ⟨g,1,none⟩=some (.int .i64 i):=hW ▸ G3 (by omega) c1
  have d2:W.cell? ⟨g,2,none⟩=some (.int .i64 H):=hW ▸ tU c2;have HR:Hid (A2 B W g∧w.grownBy W (some g)):=hW ▸ ⟨vL HC.o H,uB w g 2 _⟩;rw [hW];clear hW c0 c1 c2 f1 f2 hy
  go_quiet (fail)
  go_wp2
  go_quiet (fail)
  go_wp2;go_ret;exact ⟨_,rfl,(vA _).1,(vA _).2,HR.o.1,Z9 (Z9 HR.o.2 _) _⟩
theorem G4 {B:Nat} (g:Nat) (n:Int) (w:World) (hc:A2 B w g) (hn:n≤1099511627776) :
  Calls prog 79 #[.pointer (some ⟨g,0,none⟩),.int .i64 n] w fun e w'=>∃ x:Int,e=.returned (.int .i64 x)∧0≤x∧(1≤n→x<n)∧A2 B w' g∧w.grownBy w' (some g):=by
 by_cases h1:n≤0
 ·go_enter func79,ntmps79
  go_wp2;go_ret
  exact ⟨0,rfl,by omega,by omega,hc,World.grownBy.refl _ _⟩
 ·have hne:(n == 0)=false:=by simp;omega
  by_cases h2:n≤256
  ·go_enter func79,ntmps79
   go_wp2_with fail
   refine (V8 _ _ hc).mono ?_;rintro e w1 ⟨x,rfl,x0,x1,c1,g1⟩;go_wp2;go_ret
   exact ⟨_,rfl,Int.emod_nonneg _ (by omega),fun _=>Int.emod_lt_of_pos _ (by omega),c1,g1⟩
  ·go_enter func79,ntmps79
   go_wp2_with fail
   refine (V8 _ _ hc).mono ?_;rintro e w1 ⟨x,rfl,x0,x1,c1,g1⟩;go_wp2_with fail
   refine (V8 _ _ c1).mono ?_;rintro e w2 ⟨y,rfl,y0,y1,c2,g2⟩;go_wp2_with fail
   refine (V8 _ _ c2).mono ?_;rintro e w3 ⟨z,rfl,z0,z1,c3,g3⟩;go_wp2_with fail
   refine (V8 _ _ c3).mono ?_;rintro e w4 ⟨u,rfl,u0,u1,c4,g4⟩;go_wp2;go_ret
   exact ⟨_,rfl,Int.emod_nonneg _ (by omega),fun _=>Int.emod_lt_of_pos _ (by omega),c4,((g1.trans g2).trans g3).trans g4⟩
theorem Y7 {B:Nat} (g:Nat) (n:Int) (w:World) (hc:A2 B w g) (hn:n≤1099511627776) :
  Calls prog 97 #[.pointer (some ⟨g,0,none⟩),.int .i64 n] w fun e w'=>∃ x:Bool,e=.returned (.bool x)∧A2 B w' g∧w.grownBy w' (some g):=by
 go_enter func97,ntmps97
 go_wp2_with fail
 refine (G4 _ _ _ hc hn).mono ?_;rintro e w1 ⟨x,rfl,x0,x1,c1,g1⟩;go_wp2;go_ret;exact ⟨_,rfl,c1,g1⟩
theorem uX {w:World} {a:Option Addr} {len cap g:Nat} {zs:List Int} (h:pZ .u8 w a len cap zs) (hg:w.heap.size≤g):cT g w g a len:=by
 rcases h with ⟨rfl,rfl,rfl,rfl⟩ | ⟨x,rfl,hl,hm,hz,hcell,hwz⟩
 ·exact .inl rfl
 ·by_cases h0:len=0
  ·exact .inl h0
  ·obtain ⟨b,off,spot⟩:=x
   have hc:=hcell 0 (by omega)
   have hspot:spot=none:=by simpa [Addr.add] using World.cell?_spot hc
   subst hspot;have hlt:=World.block_lt_of_cell? w _ hc
   refine .inr ⟨b,off,rfl,by simp [Addr.add] at hlt;omega,by simp [Addr.add] at hlt;omega,fun j hj=>?_⟩
   have hj':=hcell j (by omega)
   have hwf:=hwz (zs.getD j 0) (by
    have:j<zs.length:=by omega
    simp [List.getD_eq_getElem?_getD,this])
   have hbd:0≤zs.getD j 0∧zs.getD j 0≤255:=by simpa [Lit.wf,IntKind.min,IntKind.max,IntKind.signed,IntKind.bits] using hwf
   refine ⟨zs.getD j 0,hbd.1,hbd.2,?_⟩
   by_cases e:j=0
   ·subst e;simpa [Addr.add] using hj'
   ·simpa [Addr.add,e] using hj'
theorem nE {w:World} {ao:Option Addr} {n cap:Nat} (h:Int) (t:TypeId) (hb:cT w.heap.size w w.heap.size ao n) (hn:n≤1048576) :
  A2 (w.heap.size+1) (w.alloc (.cells #[.slice ao n cap,.int .i64 0,.int .i64 h] t)) w.heap.size:=by
 refine ⟨ao,n,cap,0,h,by omega,by omega,hn,⟨by omega,by simp⟩,by simp,by simp,by simp,by simp,by simp,?_⟩
 rcases hb with hb | ⟨b,off,y1,y2,y3,y4⟩
 ·exact .inl hb
 ·refine .inr ⟨b,off,y1,y2,by omega,fun j hj=>?_⟩
  obtain ⟨x,x0,x1,hx⟩:=y4 j hj
  exact ⟨x,x0,x1,by rw [World.cell?_alloc_lt _ _ _ (by exact y3)];exact hx⟩
theorem zK (a:Option Addr) (len cap:Nat) (zs:List Int) (w:World) (hr:pZ .u8 w a len cap zs) (hn:len≤1048576) :
  Calls prog 77 #[.slice a len cap] w fun e w'=>e=.returned (.pointer (some ⟨w.heap.size,0,none⟩))∧A2 (w.heap.size+1) w' w.heap.size∧BW w w':=by
 have hb:=uX (g:=w.heap.size) hr nL;clear hr;have HB:Hid (cT w.heap.size w w.heap.size a len):=hb
 rcases hb with rfl | ⟨b,off,rfl,hbg,hbl,hbytes⟩
 ·go_enter func77,ntmps77
  go_wp2;refine wp_loop_rounds 1 ?_;rw [rounds_succ];go_wp2;go_ret;exact ⟨rfl,nE _ _ HB.o hn,bR.alloc nL _⟩
 ·go_enter func77,ntmps77
  go_wp2
  go_loop [3,4] (fun c i=>∃ (k:Nat) (H:Int),k≤len∧i=.int .i64 k∧c=.int .i64 H) (fun _ i=>len - (intOf i).toNat)
  case atStart=>exact ⟨0,_,Nat.zero_le _,rfl,rfl⟩
  case round =>
   obtain ⟨k,H,hk,rfl,rfl⟩:=hrel
   by_cases hlt:k<len
   ·have hki:(k:Int)<(len:Int):=by omega
    by_cases h4:(k:Int)<4000
    ·obtain ⟨v,v0,v1,cb⟩:=hbytes k hlt
     clear hbytes;go_wp2
     go_round
     case rel=>exact ⟨k+1,_,by omega,by go_num,rfl⟩
     case measure=>simp [intOf];omega
    ·clear hbytes
     go_wp2;go_ret;exact ⟨rfl,nE _ _ HB.o hn,bR.alloc nL _⟩
   ·clear hbytes
    go_wp2;go_ret;exact ⟨rfl,nE _ _ HB.o hn,bR.alloc nL _⟩
theorem tX (w:World) (zs:List Int) (arr:Array Value) (h:arr=(zs.map (Value.int .i64)).toArray) :
  ∀ i,i<zs.length→(w.alloc (.cells arr 3)).cell? ⟨w.heap.size,i,none⟩=some (.int .i64 (zs.getD i 0)):=by
 intro i hi;subst h
 simp [List.getD_eq_getElem?_getD,hi]
theorem R5 {B:Nat} {w:World} {g:Nat} (hc:A2 B w g):w.heap.size≠g:=by
 have:=K6 hc;omega
theorem A3 {B:Nat} {w:World} {g:Nat} (hc:A2 B w g) (o:Obj):A2 B (w.alloc o) g:=A4 hc (bR.alloc nL _)
theorem R2 {B:Nat} (g b cap:Nat) (zs:List Int) (w:World) (hc:A2 B w g) (hbg:b≠g) (hz:∀ i,i<zs.length→w.cell? ⟨b,i,none⟩=some (.int .i64 (zs.getD i 0))) (h1:1≤zs.length) (h2:zs.length≤1000) :
  Calls prog 131 #[.pointer (some ⟨g,0,none⟩),.slice (some ⟨b,0,none⟩) zs.length cap] w fun e w'=>∃ x:Int,e=.returned (.int .i64 x)∧x ∈ zs∧A2 B w' g∧w.grownBy w' (some g):=by
 go_enter func131,ntmps131
 go_wp2_with fail
 refine (G4 _ _ _ hc (by omega)).mono ?_
 rintro e w1 ⟨x,rfl,x0,x1,c1,g1⟩
 have hx:=x1 (by omega)
 obtain ⟨k,rfl⟩:=Int.eq_ofNat_of_zero_le x0
 have hk:k<zs.length:=by omega
 have cb:w1.cell? ⟨b,k,none⟩=some (.int .i64 (zs.getD k 0)):=g1.cell (a:=⟨b,k,none⟩) (hz k hk) (by simpa using hbg)
 have hm:zs.getD k 0 ∈ zs:=by simp [List.getD_eq_getElem?_getD,hk]
 generalize zs.getD k 0=z at cb hm
 clear hz x1;go_wp2;go_ret;exact ⟨z,rfl,hm,c1,g1⟩
theorem wZ {k:IntKind} {w w':World} {a:Option Addr} {len cap:Nat} {zs:List Int} (h:pZ k w a len cap zs) (hb:BW w w'):pZ k w' a len cap zs:=by
 rcases h with h | ⟨x,h1,h2,h3,h4,h5,h6⟩
 ·exact .inl h
 ·exact .inr ⟨x,h1,h2,h3,h4,fun i hi=>(hb.cell (World.block_lt_of_cell? w _ (h5 i hi))).trans (h5 i hi),h6⟩
theorem wP (a:Option Addr) (len cap:Nat) (w:World) :
  Calls prog 28 #[.slice a len cap] w fun e w'=>e=.returned (.bool (decide ((1048576:Int)<(len:Int))))∧w'=w:=by
 go_enter func28,ntmps28
 go_wp2;go_ret;exact ⟨rfl,rfl⟩
theorem Pp (ao:Option Addr) (c:Nat) (zs:List Int) (w:World) (hx:Aw w ao zs) (h1:zs.length≤1099511627776) :
  Calls prog 100 #[.slice ao zs.length c] w fun e w'=>e=.returned (.bool (Ct zs))∧w'=w:=by
 by_cases hbig:400<zs.length
 ·have HN:Hid _:=cP hbig
  have hbi:(400:Int)<(zs.length:Int):=by omega
  clear hbig
  go_enter func100,ntmps100
  go_wp2;go_ret;exact ⟨Aa HN.o.symm,rfl⟩
 ·have hbi:¬ (400:Int)<(zs.length:Int):=by omega
  have hb4:zs.length≤400:=by omega
  clear hbig
  rcases hx with rfl | ⟨b,off,rfl,hb,hcx⟩
  ·go_enter func100,ntmps100
   go_wp2;refine wp_loop_rounds 1 ?_;rw [rounds_succ];go_wp2;go_ret;exact ⟨rfl,rfl⟩
  ·go_enter func100,ntmps100
   go_wp2
   go_loop [3,5,11] (fun l _ i=>∃ (k:Nat) (p:Int),k≤zs.length∧i=.int .i64 k∧l=.int .i64 p∧Er (-1) zs=Er p (zs.drop k)) (fun _ _ i=>zs.length - (intOf i).toNat)
   case atStart=>exact ⟨0,-1,Nat.zero_le _,rfl,rfl,rfl⟩
   case round =>
    obtain ⟨k,p,hk,rfl,rfl,ht⟩:=hrel
    by_cases hlt:k<zs.length
    ·have e1:=hcx k hlt
     have hs:=Wj zs k p hlt;obtain ⟨x,hxk⟩:∃ x,zs.getD k 0=x:=⟨_,rfl⟩;rw [hxk] at e1 hs;have HK:Hid (Er (-1) zs=(decide (p<x∧0≤x∧x≤80000) && Er x (zs.drop (k+1)))):=ht.trans hs
     have hki:(k:Int)<(zs.length:Int):=by omega
     clear hcx hxk ht hs
     by_cases hp:p<x
     ·cases hd:Dn x
      ·have HN:Hid (Ct zs=false):=Mg (by rw [HK.o,decide_eq_false (fun hh=>by rw [Nq hh.2.1 hh.2.2] at hd;cases hd)];rfl)
       go_wp2_with (go_at_call 99;refine (Bm _ _).mono ?_;rintro e w' ⟨rfl,rfl⟩)
       go_ret;exact ⟨Aa HN.o.symm,rfl⟩
      ·have hb2:=Ei hd
       have HY:Hid (Er (-1) zs=Er x (zs.drop (k+1))):=by rw [Hid,HK.o,decide_eq_true ⟨hp,hb2.1,hb2.2⟩];rfl
       go_wp2_with (go_at_call 99;refine (Bm _ _).mono ?_;rintro e w' ⟨rfl,rfl⟩)
       go_round
       case rel=>exact ⟨k+1,x,by omega,by go_num,rfl,HY.o⟩
       case measure=>simp [intOf];omega
     ·have hp':x≤p:=by omega
      have HN:Hid (Ct zs=false):=Mg (by rw [HK.o,decide_eq_false (fun hh=>hp hh.1)];rfl)
      go_wp2_with fail
      go_ret;exact ⟨Aa HN.o.symm,rfl⟩
    ·have HE:Hid (Ct zs=true):=cG hb4 (by rw [ht,List.drop_of_length_le (by omega)];rfl)
     have hki:¬ (k:Int)<(zs.length:Int):=by omega
     clear hcx ht;go_wp2;go_ret;exact ⟨Aa HE.o.symm,rfl⟩
def Ng (zs:List Int) (k:Nat):Int:=if k=0 then -1 else zs.getD (k - 1) 0
theorem Rk (ao:Option Addr) (c:Nat) (zs:List Int) (w:World) (hx:Aw w ao zs) (h1:zs.length≤1099511627776) :
  Calls prog 103 #[.slice ao zs.length c] w fun e w'=>e=.returned (.bool (Ct zs))∧BW w w':=by
 rcases hx with rfl | ⟨b,off,rfl,hb,hcx⟩
 ·go_enter func103,ntmps103
  go_wp2;refine wp_loop_rounds 1 ?_;rw [rounds_succ];go_wp2;go_ret;exact ⟨rfl,bR⟩
 ·go_enter func103,ntmps103
  go_wp2
  go_loopw [3] (fun i wr=>∃ (k:Nat),k≤zs.length∧i=.int .i64 k∧Er (-1) zs=Er (Ng zs k) (zs.drop k)∧BW w wr) (fun i _=>zs.length - (intOf i).toNat)
  case atStart=>exact ⟨0,Nat.zero_le _,rfl,rfl,bR⟩
  case round =>
   obtain ⟨k,hk,rfl,ht,hbr⟩:=hrel
   by_cases hlt:k<zs.length
   ·have e1:wr.cell? ⟨b,off+k,none⟩=some (.int .i64 (zs.getD k 0)):=(hbr.cell (p:=⟨b,off+k,none⟩) hb).trans (hcx k hlt)
    have hs:=Wj zs k (Ng zs k) hlt
    have hnext:Ng zs (k+1)=zs.getD k 0:=by simp [Ng]
    have hki:(k:Int)<(zs.length:Int):=by omega
    by_cases hk0:k=0
    ·subst hk0
     obtain ⟨x,hxk⟩:∃ x,zs.getD 0 0=x:=⟨_,rfl⟩;rw [hxk] at e1 hs hnext;rw [Nat.add_zero] at e1;have HK:Hid (Er (-1) zs=(decide ((-1:Int)<x∧0≤x∧x≤80000) && Er x (zs.drop (0+1)))):=ht.trans hs;have HX:Hid _:=hnext;clear hcx hxk ht hs hnext
     cases hd:Dn x
     ·have HN:Hid (Ct zs=false):=Mg (by rw [HK.o,decide_eq_false (fun hh=>by rw [Nq hh.2.1 hh.2.2] at hd;cases hd)];rfl)
      go_wp2
      go_quiet (exact Calls.quiet_of_same (A9 _ _))
      go_wp2;go_ret;exact ⟨Aa HN.o.symm,below_drewN hbr _⟩
     ·have hb2:=Ei hd
      have HY:Hid (Er (-1) zs=Er x (zs.drop (0+1))):=by rw [Hid,HK.o,decide_eq_true ⟨by omega,hb2.1,hb2.2⟩];rfl
      go_wp2
      go_quiet (exact Calls.quiet_of_same (A9 _ _))
      go_wp2
      go_roundw
      case rel=>exact ⟨1,by omega,by go_num,by rw [HX.o];exact HY.o,below_drewN hbr _⟩
      case measure=>simp [intOf];omega
    ·obtain ⟨j,rfl⟩:∃ j,k=j+1:=⟨k - 1,by omega⟩
     have e2:wr.cell? ⟨b,off+j,none⟩=some (.int .i64 (zs.getD j 0)):=(hbr.cell (p:=⟨b,off+j,none⟩) hb).trans (hcx j (by omega))
     have hpv:Ng zs (j+1)=zs.getD j 0:=by simp [Ng]
     rw [hpv] at ht hs;obtain ⟨x,hxk⟩:∃ x,zs.getD (j+1) 0=x:=⟨_,rfl⟩;obtain ⟨y,hyk⟩:∃ y,zs.getD j 0=y:=⟨_,rfl⟩;rw [hxk] at e1 hs hnext;rw [hyk] at e2 ht hs;have HK:Hid (Er (-1) zs=(decide (y<x∧0≤x∧x≤80000) && Er x (zs.drop (j+1+1)))):=ht.trans hs;have HX:Hid _:=hnext;clear hcx hxk hyk ht hs hnext hpv
     cases hd:Dn x
     ·have HN:Hid (Ct zs=false):=Mg (by rw [HK.o,decide_eq_false (fun hh=>by rw [Nq hh.2.1 hh.2.2] at hd;cases hd)];rfl)
      go_wp2
      go_quiet (exact Calls.quiet_of_same (A9 _ _))
      go_wp2;go_ret;exact ⟨Aa HN.o.symm,below_drewN hbr _⟩
     ·have hb2:=Ei hd
      by_cases hp:y<x
      ·have HY:Hid (Er (-1) zs=Er x (zs.drop (j+1+1))):=by rw [Hid,HK.o,decide_eq_true ⟨hp,hb2.1,hb2.2⟩];rfl
       go_wp2
       go_quiet (exact Calls.quiet_of_same (A9 _ _))
       go_wp2
       go_roundw
       case rel=>exact ⟨j+1+1,by omega,by go_num,by rw [HX.o];exact HY.o,below_drewN hbr _⟩
       case measure=>simp [intOf];omega
      ·have hp':x≤y:=by omega
       have HN:Hid (Ct zs=false):=Mg (by rw [HK.o,decide_eq_false (fun hh=>hp hh.1)];rfl)
       go_wp2
       go_quiet (exact Calls.quiet_of_same (A9 _ _))
       go_wp2;go_ret;exact ⟨Aa HN.o.symm,below_drewN hbr _⟩
   ·have hasc:Er (-1) zs=true:=by rw [ht,List.drop_of_length_le (by omega)];rfl
    have HE:Hid (Ct zs=decide ((zs.length:Int)≤400)):=by
     by_cases h4:zs.length≤400
     ·rw [Hid,cG h4 hasc,decide_eq_true (by omega)]
     ·rw [Hid,cP (by omega),decide_eq_false (by omega)]
    have hki:¬ (k:Int)<(zs.length:Int):=by omega
    clear hcx ht hasc;go_wp2;go_ret;exact ⟨Aa HE.o.symm,hbr⟩
theorem sZ {zs:List Int} {d:Int} (h:d ∈ zs):wk zs d=false:=by simp [wk,h]
theorem jT {zs:List Int} {d:Int} (h:d ∉ zs):wk zs d=decide ((d+5) % 7<5):=by simp [wk,h]
theorem qF {zs:List Int} {d:Int} (h:∀ j,j<zs.length→zs.getD j 0≠d):d ∉ zs:=fun hm=>by
 obtain ⟨k,hk,e⟩:=List.mem_iff_getElem.1 hm
 exact h k hk (by simp [List.getD_eq_getElem?_getD,hk,e])
theorem Oh (d:Int) (ao:Option Addr) (c:Nat) (zs:List Int) (w:World) (hx:Aw w ao zs) (h1:zs.length≤1099511627776) (hd:Dn d=true) :
  Calls prog 303 #[.int .i64 d,.slice ao zs.length c] w fun e w'=>e=.returned (.bool (wk zs d))∧w'=w:=by
 have hwd:=Pt hd;have hdb:=Ei hd
 rcases hx with rfl | ⟨b,off,rfl,hb,hcx⟩
 ·have HV:Hid (wk [] d=decide ((d+5) % 7<5)):=jT (by simp)
  go_enter func303,ntmps303
  go_wp2;refine wp_loop_rounds 1 ?_;rw [rounds_succ]
  go_wp2_with (go_at_call 326;refine (M6 _ _).mono ?_;rintro e w' ⟨rfl,rfl⟩;rw [hwd])
  go_ret;exact ⟨Aa HV.o.symm,rfl⟩
 ·go_enter func303,ntmps303
  go_wp2
  go_loop [5] (fun i=>∃ k:Nat,k≤zs.length∧i=.int .i64 k∧∀ j,j<k→zs.getD j 0≠d) (fun i=>zs.length - (intOf i).toNat)
  case atStart=>exact ⟨0,Nat.zero_le _,rfl,fun j hj=>by omega⟩
  case round =>
   obtain ⟨k,hk,rfl,hno⟩:=hrel;have HN:Hid _:=hno;clear hno
   by_cases hlt:k<zs.length
   ·have e1:=hcx k hlt
    have hmem:zs.getD k 0 ∈ zs:=by simp [List.getD_eq_getElem?_getD,hlt]
    obtain ⟨x,hxk⟩:∃ x,zs.getD k 0=x:=⟨_,rfl⟩;rw [hxk] at e1 hmem;have HX:Hid _:=hxk
    have hki:(k:Int)<(zs.length:Int):=by omega
    clear hcx hxk
    cases he:(x == d)
    ·have hne:x≠d:=by simpa using he
     have HR:Hid (∀ j,j<k+1→zs.getD j 0≠d):=fun j hj=>by
      rcases (show j<k∨j=k from by omega) with h | rfl
      ·exact HN.o j h
      ·rw [HX.o];exact hne
     clear hmem hne;go_wp2
     go_round
     case rel=>exact ⟨k+1,by omega,by go_num,HR.o⟩
     case measure=>simp [intOf];omega
    ·have hxd:x=d:=by simpa using he
     have HV:Hid (wk zs d=false):=sZ (hxd ▸ hmem);clear hmem hxd;go_wp2;go_ret;exact ⟨Aa HV.o.symm,rfl⟩
   ·have HV:Hid (wk zs d=decide ((d+5) % 7<5)):=jT (qF (fun j hj=>HN.o j (by omega)))
    have hki:¬ (k:Int)<(zs.length:Int):=by omega
    clear hcx
    go_wp2_with (go_at_call 326;refine (M6 _ _).mono ?_;rintro e w' ⟨rfl,rfl⟩;rw [hwd])
    go_ret;exact ⟨Aa HV.o.symm,rfl⟩
theorem Xi (x:Int) (w:World):Calls prog 361 #[.int .i64 x] w fun e w'=>e=.returned (.bool false)∧w'=w:=by
 have h:(x != x)=false:=by simp
 go_enter func361,ntmps361
 go_wp2;go_ret
 exact ⟨Aa (by simp),rfl⟩
theorem lL (x:Int) (w:World):Calls prog 187 #[.int .i64 x] w fun e w'=>e=.returned (.bool false)∧w'=w:=by
 go_enter func187,ntmps187
 go_wp2;go_ret
 exact ⟨Aa (by simp),rfl⟩
theorem Wp (x y:Int) (w:World):Calls prog 360 #[.int .i64 x,.int .i64 y] w fun e w'=>e=.returned (.bool (decide (x<y)))∧w'=w:=by
 go_enter func360,ntmps360
 go_wp2_with (go_at_call 187;refine (lL _ _).mono ?_;rintro e w' ⟨rfl,rfl⟩)
 go_ret;exact ⟨rfl,rfl⟩
theorem bB (t:Int) (b off c:Nat) (zs:List Int) (w:World) (hcx:∀ i,i<zs.length→w.cell? ⟨b,off+i,none⟩=some (.int .i64 (zs.getD i 0))) (h1:zs.length≤400) (ha:Er (-1) zs=true) :
  Calls prog 359 #[.slice (some ⟨b,off,none⟩) zs.length c,.int .i64 t] w fun e w'=>(∃ i:Int,e=.returned (.tuple #[.int .i64 i,.bool (decide (t ∈ zs))]))∧w'=w:=by
 have HA:Hid _:=ha;clear ha
 go_enter func359,ntmps359
 go_wp2
 go_loop [7,8,9] (fun i j _=>∃ (m n:Nat),m≤n∧n≤zs.length∧i=.int .i64 m∧j=.int .i64 n∧(∀ k,k<m→zs.getD k 0<t)∧(∀ k,n≤k→k<zs.length→t≤zs.getD k 0)) (fun i j _=>(intOf j - intOf i).toNat)
 case atStart=>exact ⟨0,zs.length,Nat.zero_le _,nL,rfl,rfl,fun k hk=>by omega,fun k h1 h2=>by omega⟩
 case round =>
  obtain ⟨m,n,hmn,hn,rfl,rfl,hlo,hhi⟩:=hrel;have HL:Hid _:=hlo;have HH:Hid _:=hhi;clear hlo hhi
  by_cases hlt:m<n
  ·have hlti:(m:Int)<(n:Int):=by omega
   have e1:=hcx ((m+n) / 2) (by omega)
   obtain ⟨x,hxk⟩:∃ x,zs.getD ((m+n) / 2) 0=x:=⟨_,rfl⟩;rw [hxk] at e1;have HX:Hid _:=hxk;clear hxk hcx
   by_cases hxt:x<t
   ·have HL2:Hid (∀ k,k<(m+n) / 2+1→zs.getD k 0<t):=fun k hk=>by
      rcases (show k<(m+n) / 2∨k=(m+n) / 2 from by omega) with h | h
      ·have:=Ye zs _ HA.o k ((m+n) / 2) h (by omega)
       rw [HX.o] at this;omega
      ·rw [h,HX.o];exact hxt
    go_wp2_with (go_at_call 360;refine (Wp _ _ _).mono ?_;rintro e w' ⟨rfl,rfl⟩)
    go_round
    case rel=>exact ⟨(m+n) / 2+1,n,by omega,hn,by go_num,rfl,HL2.o,HH.o⟩
    case measure=>simp [intOf];omega
   ·have hxt':t≤x:=by omega
    have HH2:Hid (∀ k,(m+n) / 2≤k→k<zs.length→t≤zs.getD k 0):=fun k hk hkl=>by
     rcases (show (m+n) / 2<k∨k=(m+n) / 2 from by omega) with h | h
     ·have:=Ye zs _ HA.o ((m+n) / 2) k h hkl
      rw [HX.o] at this;omega
     ·rw [h,HX.o];exact hxt'
    go_wp2_with (go_at_call 360;refine (Wp _ _ _).mono ?_;rintro e w' ⟨rfl,rfl⟩)
    go_round
    case rel=>exact ⟨m,(m+n) / 2,by omega,by omega,rfl,by go_num,HL.o,HH2.o⟩
    case measure=>simp [intOf];omega
  ·have hmn':m=n:=by omega
   subst hmn';have HE:Hid _:=Yl HA.o HL.o HH.o
   by_cases hml:m<zs.length
   ·have hmli:(m:Int)<(zs.length:Int):=by omega
    have e1:=hcx m hml;obtain ⟨x,hxk⟩:∃ x,zs.getD m 0=x:=⟨_,rfl⟩;rw [hxk] at e1;have HX:Hid _:=hxk;clear hxk hcx
    cases he:(x == t)
    ·have HR:Hid (decide (t ∈ zs)=false):=decide_eq_false (fun hm=>by
       have:=(HE.o.1 hm).2
       rw [HX.o] at this;subst this;simp at he)
     go_wp2_with (go_at_call 361;refine (Xi _ _).mono ?_;rintro e w' ⟨rfl,rfl⟩)
     go_ret2;exact ⟨⟨m,Ji rfl HR.o.symm⟩,rfl⟩
    ·have HR:Hid (decide (t ∈ zs)=true):=decide_eq_true (HE.o.2 ⟨hml,by rw [HX.o];simpa using he⟩)
     go_wp2_with (go_at_call 361;refine (Xi _ _).mono ?_;rintro e w' ⟨rfl,rfl⟩)
     go_ret2;exact ⟨⟨m,Ji rfl HR.o.symm⟩,rfl⟩
   ·have hmli:¬ (m:Int)<(zs.length:Int):=by omega
    have HR:Hid (decide (t ∈ zs)=false):=decide_eq_false (fun hm=>hml (HE.o.1 hm).1)
    clear hcx;go_wp2_with fail
    go_ret2;exact ⟨⟨m,Ji rfl HR.o.symm⟩,rfl⟩
theorem Y6 (t:Int) (ao:Option Addr) (c:Nat) (w:World) :
  Calls prog 359 #[.slice ao 0 c,.int .i64 t] w fun e w'=>(∃ i:Int,e=.returned (.tuple #[.int .i64 i,.bool false]))∧w'=w:=by
 go_enter func359,ntmps359
 go_wp2;refine wp_loop_rounds 1 ?_;rw [rounds_succ];go_wp2;go_ret2;exact ⟨⟨0,Ji rfl rfl⟩,rfl⟩
theorem cI (d:Int) (ao:Option Addr) (c:Nat) (zs:List Int) (w:World) (hx:Aw w ao zs) (h1:zs.length≤400) (ha:Er (-1) zs=true) :
  Calls prog 356 #[.slice ao zs.length c,.int .i64 d] w fun e w'=>e=.returned (.bool (decide (d ∈ zs)))∧w'=w:=by
 rcases hx with rfl | ⟨b,off,rfl,hb,hcx⟩
 ·go_enter func356,ntmps356
  go_wp2_with fail
  refine (Y6 _ _ _ _).mono ?_;rintro e w' ⟨⟨i,rfl⟩,hw⟩;subst hw;go_wp2;go_ret
  exact ⟨Aa (by simp),rfl⟩
 ·go_enter func356,ntmps356
  go_wp2_with fail
  refine (bB _ _ _ _ zs _ hcx h1 ha).mono ?_;rintro e w' ⟨⟨i,rfl⟩,hw⟩;subst hw;go_wp2;go_ret;exact ⟨rfl,rfl⟩
theorem Jv (x:Int) (w:World) (hd:Dn x=true) :
  Calls prog 355 #[.int .i64 x] w fun e w'=>e=.returned (.bool (!decide ((x+5) % 7<5)))∧w'=w:=by
 have hv:=Pt hd
 have HB:Hid (decide (4<(x+5) % 7) = !decide ((x+5) % 7<5)):=by
  by_cases h:(x+5) % 7<5
  ·rw [Hid,decide_eq_true h,decide_eq_false (by omega)];rfl
  ·rw [Hid,decide_eq_false h,decide_eq_true (by omega)];rfl
 clear hd
 go_enter func355,ntmps355
 go_wp2_with (go_at_call 358;refine (Ur _ _).mono ?_;rintro e w' ⟨rfl,rfl⟩;rw [hv])
 go_ret;exact ⟨Aa HB.o,rfl⟩
end Go.Proofs.YtomiclakhjncbaaGreatDoor
namespace Go.Proofs.YtomiclakhjncbaaGreatDoor
open Go.RowKit Go.Shelf Go.Proofs.Tryz
def Il (N:Nat) (w:World) (ao:Option Addr) (zs:List Int):Prop :=
 zs=[]∨∃ b off,ao=some ⟨b,off,none⟩∧b<N∧∀ i,i<zs.length→w.cell? ⟨b,off+i,none⟩=some (.int .i64 (zs.getD i 0))
theorem Il.keep {N:Nat} {w w':World} {ao:Option Addr} {zs:List Int} (h:Il N w ao zs) (hb:Below N w w'):Il N w' ao zs:=by
 rcases h with h | ⟨b,off,h1,h2,h3⟩
 ·exact .inl h
 ·exact .inr ⟨b,off,h1,h2,fun i hi=>(hb.cell (p:=⟨b,off+i,none⟩) h2).trans (h3 i hi)⟩
theorem Il.at {N:Nat} {w:World} {ao:Option Addr} {zs:List Int} (h:Il N w ao zs) (hN:N≤w.heap.size):Aw w ao zs:=by
 rcases h with h | ⟨b,off,h1,h2,h3⟩
 ·exact .inl h
 ·exact .inr ⟨b,off,h1,by omega,h3⟩
theorem Aw.in {w:World} {ao:Option Addr} {zs:List Int} (h:Aw w ao zs):Il w.heap.size w ao zs:=h
def Vu (N Bo:Nat) (W W':World):Prop:=Below N W W'∧∀ v,W.cell? ⟨Bo,0,none⟩=some v→W'.cell? ⟨Bo,0,none⟩=some v
theorem kS {N Bo:Nat} {A B C:World} (h:Vu N Bo A B) (k:Vu N Bo B C):Vu N Bo A C:=⟨h.1.trans k.1,fun v hv=>k.2 v (h.2 v hv)⟩
theorem rT {N Bo:Nat} {w:World} (hn:N≤w.heap.size) (W:World) (l:Nat) (o o':Obj) (hl:w.heap.size≤l) (h:W.heap[l]?=some o) (hc:o.isCells=false) (hw:o.isWalk=false):Vu N Bo W (W.putObj l o') :=
 ⟨belowK_b hn W l o o' hl h hc hw,fun _ hv=>cell_kept hv (grownBy_putObj' W l o') (fun r e=>by cases e;exact ⟨o,h,hc⟩)⟩
theorem G6 {k:IntKind} {a b:Int} (h:a=b):Value.int k a=Value.int k b:=by rw [h]
theorem rZ (zs:List Int) (y:Int):wk zs y=(decide ((y+5) % 7<5) && !decide (y ∈ zs)):=rfl
theorem fI (n:Nat) (hn:1≤n) (l Bd Bo N c:Nat) (ao:Option Addr) (zs:List Int) (d:Int) (hd:Dn d=true) (ho:Ct zs=true) (J Jx:List Int→World→Prop)
  (hY:∀ pre x W,J pre W→pre.length<(wd zs (80000 - d).toNat).length→YieldAt Fence.wide (n - 1) prog l #[.int .i64 x] W fun e W' =>
   (e=.returned (.bool true)∧J (pre++[x]) W'∧Vu N Bo W W')∨(e=.returned (.bool false)∧Jx (pre++[x]) W'))
  (W:World) (hN:N≤W.heap.size) (cd:W.cell? ⟨Bd,0,none⟩=some (.int .i64 d)) (co:W.cell? ⟨Bo,0,none⟩=some (.slice ao zs.length c)) (hz:Il N W ao zs) (h0:J [] W) :
  CallsIn Fence.wide n prog 354 #[.func (.yield l) #[] #[],.pointer (some ⟨Bd,0,none⟩),.pointer (some ⟨Bo,0,none⟩)] W fun e W'=>(∃ v,e=.returned v) ∧
   ((∃ ys,ys=wd zs (80000 - d).toNat∧J ys W')∨(∃ pre,pre <+: wd zs (80000 - d).toNat∧Jx pre W')):=by
 have hb:=Ei hd;have HL:Hid _:=pF ho;have HA:Hid _:=pD ho;clear hd ho;refine callsIn_of_wp func354 rfl trivial ?_ rfl
 simp only [ntmps354,List.size_toArray,List.length_cons,List.length_nil,Nat.reduceAdd,Nat.reduceSub,Array.replicate_succ,Array.replicate_zero,List.push_toArray,List.append_toArray,List.nil_append,List.cons_append]
 gi_wp2
 gi_loopw [4] (fun p wr=>∃ (f:Nat) (pre:List Int),f≤80000∧p=.int .i64 (80001 - f)∧pre++wd zs f=wd zs (80000 - d).toNat∧J pre wr∧Vu N Bo W wr) (fun p _=>(80001 - intOf p).toNat)
 case atStart=>exact ⟨(80000 - d).toNat,[],by omega,G6 (by omega),rfl,h0,bR,fun _ h=>h⟩
 case round =>
  obtain ⟨f,pre,hf,rfl,hx,hJs,hk⟩:=hrel;have HX:Hid _:=hx;clear hx;obtain ⟨y,hy⟩:∃ y:Int,80001 - (f:Int)=y:=⟨_,rfl⟩;rw [hy];have HY:Hid _:=hy
  by_cases hyl:y≤80000
  ·obtain ⟨g,rfl⟩:∃ g,f=g+1:=⟨f - 1,by omega⟩
   have hyg:80000 - (g:Int)=y:=by omega
   have hyd:Dn y=true:=Nq (by omega) hyl
   have HG:Hid _:=hyg
   have hy0:0≤y:=by omega
   clear hy hyg;have hwe:=rZ zs y;have HW:Hid _:=hwe;clear hwe;have co':wr.cell? ⟨Bo,0,none⟩=some (.slice ao zs.length c):=hk.2 _ co;have HZ:Hid (Aw wr ao zs):=(hz.keep hk.1).at (Nat.le_trans hN hk.1.size);have hn':1≤n:=hn
   by_cases h5:(y+5) % 7<5
   ·have hdec:decide ((y+5) % 7<5)=true:=decide_eq_true h5
    by_cases hin:y ∈ zs
    ·have hdin:decide (y ∈ zs)=true:=decide_eq_true hin
     have HN:Hid (wk zs y=false):=by rw [Hid,HW.o,hdec,hdin];rfl
     clear h5 hin
     gi_wp2_with fail
     refine ⟨trivial,(callsIn_wide.2 (Jv _ _ hyd)).mono ?_⟩;rintro e w1 ⟨rfl,hw1⟩;subst hw1;rw [hdec]
     gi_wp2_with fail
     refine ⟨trivial,(callsIn_wide.2 (cI _ _ _ zs _ HZ.o HL.o HA.o)).mono ?_⟩;rintro e w1 ⟨rfl,hw1⟩;subst hw1;rw [hdin]
     gi_wp2
     go_roundw
     case rel=>exact ⟨g,pre,by omega,G6 (by have:=HG.o;omega),by rw [← HX.o,kN (by rw [HG.o];exact HN.o)],hJs,hk⟩
     case measure=>simp [intOf];have:=HG.o;omega
    ·have hdin:decide (y ∈ zs)=false:=decide_eq_false hin
     have HN:Hid (wk zs y=true):=by rw [Hid,HW.o,hdec,hdin];rfl
     have HX2:Hid (wd zs (80000 - d).toNat=(pre++[y])++wd zs g):=by rw [Hid,← HX.o,mN (by rw [HG.o];exact HN.o),HG.o];simp
     clear h5 hin
     obtain ⟨fn,tmps,assign,body,hyy,hR⟩:=hY pre y wr hJs (by rw [HX2.o];simp)
     gi_wp2_with fail
     refine ⟨trivial,(callsIn_wide.2 (Jv _ _ hyd)).mono ?_⟩;rintro e w1 ⟨rfl,hw1⟩;subst hw1;rw [hdec]
     gi_wp2_with fail
     refine ⟨trivial,(callsIn_wide.2 (cI _ _ _ zs _ HZ.o HL.o HA.o)).mono ?_⟩;rintro e w1 ⟨rfl,hw1⟩;subst hw1;rw [hdin]
     gi_wp2
     refine hR.mono ?_
     rintro e W3 (⟨rfl,hJ3,hk3⟩ | ⟨rfl,hJx3⟩)
     ·gi_wp2
      go_roundw
      case rel=>exact ⟨g,pre++[y],by omega,G6 (by have:=HG.o;omega),HX2.o.symm,hJ3,kS hk hk3⟩
      case measure=>simp [intOf];have:=HG.o;omega
     ·gi_wp2
      refine bodyPost_ret (results_none rfl _ _ _) rfl ?_;exact ⟨⟨_,rfl⟩,.inr ⟨pre++[y],⟨wd zs g,HX2.o.symm⟩,hJx3⟩⟩
   ·have hdec:decide ((y+5) % 7<5)=false:=decide_eq_false h5
    have HN:Hid (wk zs y=false):=by rw [Hid,HW.o,hdec];rfl
    clear h5
    gi_wp2_with fail
    refine ⟨trivial,(callsIn_wide.2 (Jv _ _ hyd)).mono ?_⟩;rintro e w1 ⟨rfl,hw1⟩;subst hw1;rw [hdec]
    gi_wp2
    refine ⟨trivial,?_⟩
    gi_wp2
    go_roundw
    case rel=>exact ⟨g,pre,by omega,G6 (by have:=HG.o;omega),by rw [← HX.o,kN (by rw [HG.o];exact HN.o)],hJs,hk⟩
    case measure=>simp [intOf];have:=HG.o;omega
  ·have hf0:f=0:=by omega
   subst hf0;clear hy
   gi_wp2
   go_end0
   exact ⟨⟨_,rfl⟩,.inl (by rw [← HX.o];simpa [wd] using hJs)⟩
theorem Un (n:Nat) (hn:1≤n) (Bd Bo N c:Nat) (ao:Option Addr) (zs:List Int) (d:Int) (w:World) (hd:Dn d=true) (ho:Ct zs=true) (hBd:Bd<w.heap.size) (hBo:Bo<w.heap.size) (hN:N≤w.heap.size)
  (cd:w.cell? ⟨Bd,0,none⟩=some (.int .i64 d)) (co:w.cell? ⟨Bo,0,none⟩=some (.slice ao zs.length c)) (hz:Il N w ao zs) :
  SeqStopsK Fence.wide n prog 354 #[.pointer (some ⟨Bd,0,none⟩),.pointer (some ⟨Bo,0,none⟩)] (fun x:Int=>#[Value.int .i64 x]) (Vu N Bo)
   (fun ys=>ys=wd zs (80000 - d).toNat) (fun pre=>pre <+: wd zs (80000 - d).toNat) (wd zs (80000 - d).toNat).length w:=fun l J Jx W hW _ _ hY h0 =>
 fI n hn l Bd Bo N c ao zs d hd ho J Jx hY W (Nat.le_trans hN hW.size) ((hW.cell (p:=⟨Bd,0,none⟩) hBd).trans cd) ((hW.cell (p:=⟨Bo,0,none⟩) hBo).trans co) (hz.keep (hW.mono hN)) h0
theorem Re (ao:Option Addr) (m c:Nat) (d:Int) (w:World) :
  Calls prog 348 #[.slice ao m c,.int .i64 d] w fun e w' =>
   e=.returned (.func (.func 354) #[] #[.pointer (some ⟨w.heap.size+1,0,none⟩),.pointer (some ⟨w.heap.size,0,none⟩)]) ∧
   w'=(w.alloc (.cells #[.slice ao m c] 120)).alloc (.cells #[.int .i64 d] 3):=by
 go_enter func348,ntmps348
 go_wp2;go_ret;exact ⟨rfl,rfl⟩
theorem Ps {d n:Int} {zs:List Int} (h:Dn d=false∨n<0∨400<n∨Ct zs=false):Lh d n zs=none:=by
 unfold Lh;rw [if_neg];rintro ⟨a,b,c,e⟩
 rcases h with h | h | h | h
 ·rw [a] at h;cases h
 ·omega
 ·omega
 ·rw [e] at h;cases h
theorem V6 {d n:Int} {zs:List Int} (a:Dn d=true) (b:0≤n) (c:n≤400) (e:Ct zs=true):Lh d n zs=Pk zs (80000 - d).toNat n.toNat:=by
 unfold Lh;rw [if_pos ⟨a,b,c,e⟩]
theorem Si (w:World) (x:Int) (y:Bool):((w.alloc (.cells #[.int .i64 x] 3)).alloc (.cells #[.bool y] 4)).cell? ⟨w.heap.size,0,none⟩=some (.int .i64 x) ∧
  ((w.alloc (.cells #[.int .i64 x] 3)).alloc (.cells #[.bool y] 4)).cell? ⟨w.heap.size+1,0,none⟩=some (.bool y):=by
 refine ⟨?_,?_⟩
 ·rw [World.cell?_alloc_lt _ _ _ (by simp)];simp
 ·rw [← World.size_alloc w (.cells #[.int .i64 x] 3)];simp
theorem Hi (w:World) (o o':Obj):Below w.heap.size w ((w.alloc o).alloc o'):=((Below.refl _ w).alloc nL _).alloc (by simp) _
theorem oH (d n:Int) (ao:Option Addr) (c:Nat) (zs:List Int) (w:World) (hx:Aw w ao zs) (h1:zs.length≤1099511627776) (h:Dn d=false∨n<0∨400<n∨Ct zs=false) :
  Calls prog 338 #[.int .i64 d,.int .i64 n,.slice ao zs.length c] w fun e w'=>e=.returned (.tuple #[.int .i64 0,.bool false])∧BW w w':=by
 have HX:Hid (Aw w ao zs):=hx;clear hx;have tc:=Si w 0 false;have HB:Hid _:=Hi w (.cells #[.int .i64 0] 3) (.cells #[.bool false] 4)
 cases hd:Dn d
 ·go_enter func338,ntmps338
  go_wp2_with fail
  refine (Bm _ _).mono ?_;rintro e w' ⟨rfl,hw⟩;subst hw;go_wp2
  refine bodyPost_ret (v:=.tuple #[.int .i64 0,.bool false]) (by simp [results,Tryz.f338,go_sem]) rfl ⟨rfl,HB.o⟩
 ·by_cases hn0:n<0
  ·go_enter func338,ntmps338
   go_wp2_with fail
   refine (Bm _ _).mono ?_;rintro e w' ⟨rfl,hw⟩;subst hw;go_wp2
   refine bodyPost_ret (v:=.tuple #[.int .i64 0,.bool false]) (by simp [results,Tryz.f338,go_sem]) rfl ⟨rfl,HB.o⟩
  ·by_cases hn4:400<n
   ·go_enter func338,ntmps338
    go_wp2_with fail
    refine (Bm _ _).mono ?_;rintro e w' ⟨rfl,hw⟩;subst hw;go_wp2
    refine bodyPost_ret (v:=.tuple #[.int .i64 0,.bool false]) (by simp [results,Tryz.f338,go_sem]) rfl ⟨rfl,HB.o⟩
   ·have ho:Ct zs=false:=by
      rcases h with h | h | h | h
      ·rw [hd] at h;cases h
      ·omega
      ·omega
      ·exact h
    clear h
    go_enter func338,ntmps338
    go_wp2_with fail
    refine (Bm _ _).mono ?_;rintro e w' ⟨rfl,hw⟩;subst hw;go_wp2_with fail
    refine (Pp _ _ zs _ (Aw.below HX.o HB.o) h1).mono ?_;rintro e w' ⟨rfl,hw⟩;subst hw;go_wp2
    refine bodyPost_ret (v:=.tuple #[.int .i64 0,.bool false]) (by simp [results,Tryz.f338,go_sem]) rfl ⟨rfl,HB.o⟩
theorem gN (d:Int) (ao:Option Addr) (c:Nat) (zs:List Int) (w:World) (hx:Aw w ao zs) (h1:zs.length≤1099511627776) (hd:Dn d=true) (ho:Ct zs=true) :
  Calls prog 338 #[.int .i64 d,.int .i64 0,.slice ao zs.length c] w fun e w'=>e=.returned (.tuple #[.int .i64 d,.bool true])∧BW w w':=by
 have HX:Hid (Aw w ao zs):=hx;clear hx;have tc:=Si w d true;have HB0:Hid _:=Hi w (.cells #[.int .i64 0] 3) (.cells #[.bool false] 4);have HB:Hid _:=Hi w (.cells #[.int .i64 d] 3) (.cells #[.bool true] 4)
 go_enter func338,ntmps338
 go_wp2_with fail
 refine (Bm _ _).mono ?_;rintro e w' ⟨rfl,hw⟩;subst hw;go_wp2_with fail
 refine (Pp _ _ zs _ (Aw.below HX.o HB0.o) h1).mono ?_;rintro e w' ⟨rfl,hw⟩;subst hw;go_wp2
 refine bodyPost_ret (v:=.tuple #[.int .i64 d,.bool true]) (by simp [results,Tryz.f338,go_sem]) rfl ⟨rfl,HB.o⟩
def Cl (W:World) (k:Nat) (v:Value):Prop:=W.cell? ⟨k,0,none⟩=some v∧W.frozen? ⟨k,0,none⟩=false
theorem Cl.kept {W W':World} {row:Option Nat} {k:Nat} {v:Value} (h:Cl W k v) (hg:W.grownBy W' row) (hr:∀ r,row=some r→∃ o:Obj,W.heap[r]?=some o∧o.isCells=false):Cl W' k v :=
 ⟨cell_kept h.1 hg hr,(frozen_kept h.1 hg hr).trans h.2⟩
theorem Cl.new (W:World) (v:Value) (t:TypeId):Cl (W.alloc (.cells #[v] t)) W.heap.size v:=by
 have h:=World.alloc_heap_new W (.cells #[v] t)
 constructor
 ·unfold World.cell?
  simp only [h]
  rfl
 ·unfold World.frozen?
  simp only [h]
  rfl
theorem Cl.alloc {W:World} {k:Nat} {v:Value} (h:Cl W k v) (o:Obj):Cl (W.alloc o) k v:=h.kept (World.grownBy_alloc W o none) (fun r e=>by cases e)
theorem Cl.other {W:World} {k j:Nat} {v u:Value} (h:Cl W k v) (hj:j≠k):Cl (W.setCell ⟨j,0,none⟩ u) k v:=by
 refine ⟨?_,by rw [World.frozen?_setCell];exact h.2⟩
 rw [World.cell?_setCell_other W ⟨j,0,none⟩ u (b:=⟨k,0,none⟩) (fun e=>by injection e with e1;exact hj e1)];exact h.1
theorem Cl.same {W:World} {k:Nat} {v u:Value} (h:Cl W k v):Cl (W.setCell ⟨k,0,none⟩ u) k u :=
 ⟨World.cell?_setCell_same W ⟨k,0,none⟩ u h.1,by rw [World.frozen?_setCell];exact h.2⟩
theorem Cl.put {W:World} {k D:Nat} {v:Value} {o o':Obj} (h:Cl W k v) (hD:W.heap[D]?=some o) (ho:o.isCells=false):Cl (W.putObj D o') k v :=
 h.kept (grownBy_putObj' W D o') (fun r e=>by cases e;exact ⟨_,hD,ho⟩)
theorem Ld {N j:Nat} {w W:World} (h:Below N w W) (hj:N≤j) (u:Value):Below N w (W.setCell ⟨j,0,none⟩ u):=h.setCell (p:=⟨j,0,none⟩) hj u
theorem mF {N Bo j:Nat} (W:World) (u:Value) (hN:N≤j) (hj:j≠Bo):Vu N Bo W (W.setCell ⟨j,0,none⟩ u) :=
 ⟨(Below.refl N W).setCell (p:=⟨j,0,none⟩) hN _,fun v hv=>by
  rw [World.cell?_setCell_other W ⟨j,0,none⟩ u (b:=⟨Bo,0,none⟩) (fun e=>by injection e with e1;exact hj e1)];exact hv⟩
theorem mE {zs:List Int} {f m:Nat} (hm:1≤m) (h:(wd zs f).length<m):Pk zs f m=none:=by
 obtain ⟨k,rfl⟩:∃ k,m=k+1:=⟨m - 1,by omega⟩
 rw [Pk];exact List.getElem?_eq_none (by omega)
theorem nJ {zs:List Int} {f m:Nat} {pre:List Int} {x:Int} (hp:pre++[x] <+: wd zs f) (hm:(pre++[x]).length=m):Pk zs f m=some x:=by
 obtain ⟨t,ht⟩:=hp
 simp at hm
 subst hm
 rw [Pk,← ht];simp
theorem tJ (w:World) (m:Nat) (ao:Option Addr) (k c:Nat) (d:Int):∀ W0,W0=(((((w.alloc (.cells #[.int .i64 0] 3)).alloc (.cells #[.bool false] 4)).alloc (.cells #[.int .i64 m] 3)).alloc (.cells #[.slice ao k c] 120)).alloc (.cells #[.int .i64 d] 3)) →
  W0.heap.size=w.heap.size+5∧BW w W0∧Cl W0 w.heap.size (.int .i64 0)∧Cl W0 (w.heap.size+1) (.bool false)∧Cl W0 (w.heap.size+1+1) (.int .i64 m)∧Cl W0 (w.heap.size+1+1+1) (.slice ao k c)∧Cl W0 (w.heap.size+1+1+1+1) (.int .i64 d):=by
 rintro _ rfl;have z1:=World.size_alloc w (.cells #[.int .i64 0] 3);have z2:=World.size_alloc (w.alloc (.cells #[.int .i64 0] 3)) (.cells #[.bool false] 4);have z3:=World.size_alloc ((w.alloc (.cells #[.int .i64 0] 3)).alloc (.cells #[.bool false] 4)) (.cells #[.int .i64 m] 3);have z4:=World.size_alloc (((w.alloc (.cells #[.int .i64 0] 3)).alloc (.cells #[.bool false] 4)).alloc (.cells #[.int .i64 m] 3)) (.cells #[.slice ao k c] 120);have k1:=Cl.new w (.int .i64 0) 3;have k2:=Cl.new (w.alloc (.cells #[.int .i64 0] 3)) (.bool false) 4;have k3:=Cl.new ((w.alloc (.cells #[.int .i64 0] 3)).alloc (.cells #[.bool false] 4)) (.int .i64 m) 3;have k4:=Cl.new (((w.alloc (.cells #[.int .i64 0] 3)).alloc (.cells #[.bool false] 4)).alloc (.cells #[.int .i64 m] 3)) (.slice ao k c) 120;have k5:=Cl.new ((((w.alloc (.cells #[.int .i64 0] 3)).alloc (.cells #[.bool false] 4)).alloc (.cells #[.int .i64 m] 3)).alloc (.cells #[.slice ao k c] 120)) (.int .i64 d) 3;rw [z4,z3,z2,z1] at k5;rw [z3,z2,z1] at k4;rw [z2,z1] at k3;rw [z1] at k2;refine ⟨?_,?_,(((k1.alloc _).alloc _).alloc _).alloc _,((k2.alloc _).alloc _).alloc _,(k3.alloc _).alloc _,k4.alloc _,k5⟩
 ·rw [World.size_alloc,z4,z3,z2,z1]
 ·exact (((Hi w _ _).alloc (by rw [z2,z1];omega) _).alloc (by rw [z3,z2,z1];omega) _).alloc (by rw [z4,z3,z2,z1];omega) _
theorem gO (d:Int) (m:Nat) (ao:Option Addr) (c:Nat) (zs:List Int) (w:World) (hx:Aw w ao zs) (h1:zs.length≤1099511627776) (hd:Dn d=true) (ho:Ct zs=true) (hm0:1≤m) (hm:m≤400) :
  CallsIn Fence.wide 6 prog 338 #[.int .i64 d,.int .i64 m,.slice ao zs.length c] w fun e w'=>e=.returned (.tuple #[.int .i64 ((Pk zs (80000 - d).toNat m).getD 0),.bool (Pk zs (80000 - d).toNat m).isSome])∧BW w w':=by
 have HX:Hid (Aw w ao zs):=hx;clear hx
 have hm1:¬ (m:Int)<0:=by omega
 have hm2:¬ (400:Int)<(m:Int):=by omega
 have hm3:((m:Int) == 0)=false:=by simp;omega
 refine callsIn_of_wp_marks func338 rfl trivial ?_ rfl
 simp only [ntmps338,List.size_toArray,List.length_cons,List.length_nil,Nat.reduceAdd,Nat.reduceSub,Array.replicate_succ,Array.replicate_zero,List.push_toArray,List.append_toArray,List.nil_append,List.cons_append]
 gi_wp2_with fail
 refine ⟨trivial,(callsIn_wide.2 (Bm _ _)).mono ?_⟩;rintro e w1 ⟨rfl,hw1⟩;subst hw1
 gi_wp2_with fail
 refine ⟨trivial,(callsIn_wide.2 (Pp _ _ zs _ (Aw.below HX.o (Hi w _ _)) h1)).mono ?_⟩;rintro e w1 ⟨rfl,hw1⟩;subst hw1
 gi_wp2_with fail
 refine ⟨trivial,(callsIn_wide.2 (Re _ _ _ _ _)).mono ?_⟩;rintro e w1 ⟨rfl,hw1⟩;subst hw1
 gi_wp2_with fail
 obtain ⟨W0,hW0⟩:∃ W0,(((((w.alloc (.cells #[.int .i64 0] 3)).alloc (.cells #[.bool false] 4)).alloc (.cells #[.int .i64 m] 3)).alloc (.cells #[.slice ao zs.length c] 120)).alloc (.cells #[.int .i64 d] 3))=W0:=⟨_,rfl⟩;obtain ⟨hsz,hB0,k1,k2,k3,k4,k5⟩:=tJ w m ao zs.length c d W0 hW0.symm;rw [hW0];clear hW0;have HZ:Il w.heap.size W0 ao zs:=(Aw.in HX.o).keep hB0
 refine wpIn_rangeFunc_ownF (α:=Int) rfl (by omega) (gf:=354) (lb:=#[.pointer (some ⟨w.heap.size+1+1+1+1,0,none⟩),.pointer (some ⟨w.heap.size+1+1+1,0,none⟩)]) rfl trivial (enters_of func354 (by kernel_rfl) rfl)
  (Un 5 (by omega) (w.heap.size+1+1+1+1) (w.heap.size+1+1+1) w.heap.size c ao zs d W0 hd ho (by omega) (by omega) (by omega) k5.1 k4.1 HZ) kS (rT (by omega)) bR (fun _=>rfl)
  (fun pre W=>(pre.length<m∧Cl W (w.heap.size+1+1) (.int .i64 ((m:Int) - pre.length))∧Cl W w.heap.size (.int .i64 0)∧Cl W (w.heap.size+1) (.bool false))∧BW w W)
  (fun cd pre W=>(cd=.ret∧∃ (p:List Int) (x:Int),pre=p++[x]∧pre.length=m∧Cl W w.heap.size (.int .i64 x)∧Cl W (w.heap.size+1) (.bool true))∧BW w W)
  (OwnFrom.and (Own.from (fun s A B row hs hg hr=>⟨hs.1,hs.2.1.kept hg hr,hs.2.2.1.kept hg hr,hs.2.2.2.kept hg hr⟩) _) (ownFrom_below nL (by omega)))
  (fun cd=>OwnFrom.and (Own.from (fun s A B row hs hg hr=>by obtain ⟨e1,p,x,e2,e3,e4,e5⟩:=hs;exact ⟨e1,p,x,e2,e3,e4.kept hg hr,e5.kept hg hr⟩) _) (ownFrom_below nL (by omega)))
  ⟨⟨by simp;omega,by simpa using k3,k1,k2⟩,hB0⟩
  (fun x=>{ tmps:=#[.int .i64 d,.int .i64 m,.slice ao zs.length c,undef,undef,undef,.pointer (some ⟨w.heap.size,0,none⟩),.pointer (some ⟨w.heap.size+1,0,none⟩),.slice ao zs.length c,.pointer (some ⟨w.heap.size+1+1,0,none⟩),.int .i64 x,.slice ao zs.length c,.int .i64 d,.bool true,.bool false,.bool false,.int .i64 m,.bool (decide ((m:Int)<0)),.bool (decide ((m:Int)<0)),.bool (decide ((m:Int)<0)),.int .i64 m,.bool (decide ((400:Int)<(m:Int))),.bool (decide ((m:Int)<0) || decide ((400:Int)<(m:Int))),.bool (decide ((m:Int)<0) || decide ((400:Int)<(m:Int))),.slice ao zs.length c,.bool true,.bool false,.bool (decide ((m:Int)<0) || decide ((400:Int)<(m:Int))),.int .i64 m,.bool false,undef,.int .i64 m,.slice ao zs.length c,.int .i64 d,.func (.func 354) #[] #[.pointer (some ⟨w.heap.size+1+1+1+1,0,none⟩),.pointer (some ⟨w.heap.size+1+1+1,0,none⟩)],.int .i64 x,undef,undef,undef,undef,undef],defers:=[] }) ?assign ?body ?done ?stop
 case assign =>
  intro l x W K hK;have hsm:=Oper.semAt_some
  gi_wp2
  exact hK
 case body =>
  rintro l pre x W ⟨⟨hlen,kl,ka,kb⟩,hB⟩ _;obtain ⟨v,hv⟩:∃ v:Int,(m:Int) - pre.length=v:=⟨_,rfl⟩;rw [hv] at kl
  have hv1:1≤v:=by omega
  have hv2:v≤400:=by omega
  have HV:Hid _:=hv;have kl1:=kl.1;have kl2:=kl.2;have ka1:=ka.1;have ka2:=ka.2;have kb1:=kb.1;have kb2:=kb.2;clear hv
  cases he:(v - 1 == 0)
  ·have hne:v≠1:=by intro h;subst h;simp at he
   have hsm:=Oper.semAt_some
   gi_wp2
   exact ⟨KeepsOthers.setCell _ _ _,mF W _ (by omega) (by omega),⟨by have:=HV.o;simp;omega,by rw [show (m:Int) - (pre++[x]).length=v - 1 from by have:=HV.o;simp;omega];exact kl.same,ka.other (by omega),kb.other (by omega)⟩,Ld hB (by omega) _⟩
  ·have hve0:v - 1=0:=by simpa using he
   have hve:v=1:=by omega
   have hsm:=Oper.semAt_some
   gi_wp2
   refine ⟨((KeepsOthers.setCell _ _ _).trans (KeepsOthers.setCell _ _ _)).trans (KeepsOthers.setCell _ _ _),⟨rfl,pre,x,rfl,by have:=HV.o;simp;omega,((ka.other (by omega)).same).other (by omega),((kb.other (by omega)).other (by omega)).same⟩,?_⟩
   exact Ld (Ld (Ld hB (by omega) _) nL _) (by omega) _
 case done =>
  rintro D ys W hD rfl ⟨⟨hlen,kl,ka,kb⟩,hB⟩ hK;have HN:Hid _:=mE hm0 hlen;have ka1:=ka.1;have ka2:=ka.2;have kb1:=kb.1;have kb2:=kb.2
  gi_wp2
  have hK':=(KeepsOthers.setCell (W.setCell ⟨w.heap.size,0,none⟩ (.int .i64 0)) ⟨w.heap.size+1,0,none⟩ (.bool false)).same D _ ((KeepsOthers.setCell W ⟨w.heap.size,0,none⟩ (.int .i64 0)).same D _ hK rfl) rfl
  refine ⟨by simp,.inl ⟨_,_,rfl,run_takeDeferred hK',?_⟩⟩
  have qa:=(((ka.same (u:=.int .i64 0)).other (j:=w.heap.size+1) (u:=.bool false) (by omega)).put (o':=.deferred none) hK' rfl).1
  have qb:=(((kb.other (j:=w.heap.size) (u:=.int .i64 0) (by omega)).same (u:=.bool false)).put (o':=.deferred none) hK' rfl).1
  refine ⟨.tuple #[.int .i64 0,.bool false],?_,by rw [HN.o];rfl,(Ld (Ld hB nL _) (by omega) _).trans (belowK_b (w:=w) nL _ D _ _ (by omega) hK' rfl rfl)⟩
  simp [results,Tryz.f338,go_sem,qa,qb]
 case stop =>
  rintro D cd pre W hD hpre ⟨⟨rfl,p,x,rfl,hlen,ka,kb⟩,hB⟩ hK;have HN:Hid _:=nJ hpre hlen
  gi_wp2
  refine ⟨by simp,.inl ⟨_,_,rfl,run_takeDeferred hK,?_⟩⟩
  have qa:=(ka.put (o':=.deferred none) hK rfl).1;have qb:=(kb.put (o':=.deferred none) hK rfl).1
  refine ⟨.tuple #[.int .i64 x,.bool true],?_,by rw [HN.o];rfl,hB.trans (belowK_b (w:=w) nL W D _ _ (by omega) hK rfl rfl)⟩
  simp [results,Tryz.f338,go_sem,qa,qb]
theorem V1 (d n:Int) (ao:Option Addr) (c:Nat) (zs:List Int) (w:World) (hx:Aw w ao zs) (h1:zs.length≤1099511627776) :
  Calls prog 338 #[.int .i64 d,.int .i64 n,.slice ao zs.length c] w fun e w'=>e=.returned (.tuple #[.int .i64 ((Lh d n zs).getD 0),.bool (Lh d n zs).isSome])∧BW w w':=by
 by_cases h:Dn d=false∨n<0∨400<n∨Ct zs=false
 ·rw [Ps h];exact oH d n ao c zs w hx h1 h
 ·have hd:Dn d=true:=by cases e:Dn d;exact absurd (.inl e) h;rfl
  have ho:Ct zs=true:=by cases e:Ct zs;exact absurd (.inr (.inr (.inr e))) h;rfl
  obtain ⟨m,rfl⟩:=Int.eq_ofNat_of_zero_le (show 0≤n by omega)
  rw [V6 hd (by omega) (by omega) ho,show ((m:Int)).toNat=m from by omega]
  cases m with
  | zero =>
   have hb:=Ei hd
   rw [Wb,show 80000 - (((80000 - d).toNat:Nat):Int)=d from by omega]
   exact gN d ao c zs w hx h1 hd ho
  | succ m=>exact callsIn_wide.1 (gO d (m+1) ao c zs w hx h1 hd ho (by omega) (by omega))
end Go.Proofs.YtomiclakhjncbaaGreatDoor
namespace Go.Proofs.YtomiclakhjncbaaGreatDoor
open Go.RowKit Go.Proofs.Tryz
theorem V0 (d n:Int) (ao:Option Addr) (c:Nat) (zs:List Int) (w:World) (hx:Aw w ao zs) (h1:zs.length≤1099511627776) :
  Calls prog 264 #[.int .i64 d,.int .i64 n,.slice ao zs.length c] w fun e w'=>e=.returned (.tuple #[.int .i64 ((Lh d n zs).getD 0),.bool (Lh d n zs).isSome])∧BW w w':=by
 have HX:Hid (Aw w ao zs):=hx;clear hx
 cases hd:Dn d
 ·have HN:Hid _:=Ps (n:=n) (zs:=zs) (.inl hd)
  go_enter func264,ntmps264
  go_wp2_with fail
  refine (A9 _ _).mono ?_;rintro e w' ⟨rfl,hw⟩;subst hw;go_wp2;go_ret2
  exact ⟨Ji (by rw [HN.o];rfl) (by rw [HN.o];rfl),bR⟩
 ·cases hn:Gk n 0 400
  ·have HN:Hid (Lh d n zs=none):=by
     refine Ps ?_
     by_cases h0:n<0
     ·exact .inr (.inl h0)
     ·by_cases h4:400<n
      ·exact .inr (.inr (.inl h4))
      ·rw [Uh (by omega) (by omega)] at hn;cases hn
   go_enter func264,ntmps264
   go_wp2_with fail
   refine (A9 _ _).mono ?_;rintro e w' ⟨rfl,hw⟩;subst hw;go_wp2_with fail
   refine (Dl _ _ _ _).mono ?_;rintro e w' ⟨rfl,hw⟩;subst hw;go_wp2;go_ret2
   exact ⟨Ji (by rw [HN.o];rfl) (by rw [HN.o];rfl),bR⟩
  ·have hnb:0≤n∧n≤400:=by simpa [Gk] using hn
   cases ho:Ct zs
   ·have HN:Hid _:=Ps (d:=d) (n:=n) (.inr (.inr (.inr ho)))
    go_enter func264,ntmps264
    go_wp2_with fail
    refine (A9 _ _).mono ?_;rintro e w' ⟨rfl,hw⟩;subst hw;go_wp2_with fail
    refine (Dl _ _ _ _).mono ?_;rintro e w' ⟨rfl,hw⟩;subst hw;go_wp2_with fail
    refine (Rk _ _ zs _ HX.o h1).mono ?_;rintro e w1 ⟨rfl,b1⟩;go_wp2;go_ret2
    exact ⟨Ji (by rw [HN.o];rfl) (by rw [HN.o];rfl),b1⟩
   ·have HV:Hid _:=V6 hd hnb.1 hnb.2 ho
    have hdb:=Ei hd
    go_enter func264,ntmps264
    go_wp2_with fail
    refine (A9 _ _).mono ?_;rintro e w' ⟨rfl,hw⟩;subst hw;go_wp2_with fail
    refine (Dl _ _ _ _).mono ?_;rintro e w' ⟨rfl,hw⟩;subst hw;go_wp2_with fail
    refine (Rk _ _ zs _ HX.o h1).mono ?_;rintro e w1 ⟨rfl,b1⟩;have HX1:Hid (Aw w1 ao zs):=Aw.below HX.o b1;go_wp2
    go_loop [0,1] (fun p q=>∃ (f m:Nat),f≤80000∧m≤400∧p=.int .i64 (80000 - f)∧q=.int .i64 m∧Pk zs f m=Pk zs (80000 - d).toNat n.toNat) (fun p _=>(80000 - intOf p).toNat)
    case atStart=>exact ⟨(80000 - d).toNat,n.toNat,by omega,by omega,G6 (by omega),G6 (by omega),rfl⟩
    case round =>
     obtain ⟨f,m,hf,hm,rfl,rfl,ht⟩:=hrel;have HT:Hid _:=ht;clear ht;obtain ⟨y,hy⟩:∃ y:Int,80000 - (f:Int)=y:=⟨_,rfl⟩;rw [hy]
     have hy1:0≤y:=by omega
     have hy2:y≤80000:=by omega
     have HY:Hid _:=hy
     cases m with
     | zero =>
      have HE:Hid (Lh d n zs=some y):=by rw [Hid,HV.o,← HT.o,Wb,hy]
      clear hy;go_wp2;go_ret2
      exact ⟨Ji (by rw [HE.o];rfl) (by rw [HE.o];rfl),b1⟩
     | succ m =>
      have hmp:(0:Int)<((m+1:Nat):Int):=by omega
      cases f with
      | zero =>
       have hye:y=80000:=by omega
       have HE:Hid (Lh d n zs=none):=by rw [Hid,HV.o,← HT.o,pC]
       have hdk:Dn (y+1)=false:=pI (by omega)
       clear hy;go_wp2_with fail
       refine (A9 _ _).mono ?_;rintro e w' ⟨rfl,hw⟩;subst hw;go_wp2;go_ret2
       exact ⟨Ji (by rw [HE.o];rfl) (by rw [HE.o];rfl),b1⟩
      | succ f =>
       have HF:Hid (80000 - (f:Int)=y+1):=by rw [Hid];omega
       have hye:y≤79999:=by omega
       have hdk:Dn (y+1)=true:=Nq (by omega) (by omega)
       cases hw2:wk zs (y+1)
       ·have HR:Hid (Pk zs f (m+1)=Pk zs (80000 - d).toNat n.toNat):=by rw [Hid,← HT.o,qO (by rw [HF.o];exact hw2)]
        clear hy;go_wp2_with fail
        refine (A9 _ _).mono ?_;rintro e w' ⟨rfl,hw⟩;subst hw;go_wp2_with fail
        refine (Oh _ _ _ zs _ HX1.o h1 hdk).mono ?_;rintro e w' ⟨rfl,hw⟩;subst hw;go_wp2
        go_round
        case rel=>exact ⟨f,m+1,by omega,hm,G6 HF.o.symm,rfl,HR.o⟩
        case measure=>simp [intOf];omega
       ·have HR:Hid (Pk zs f m=Pk zs (80000 - d).toNat n.toNat):=by rw [Hid,← HT.o,oO (by rw [HF.o];exact hw2)]
        clear hy;go_wp2_with fail
        refine (A9 _ _).mono ?_;rintro e w' ⟨rfl,hw⟩;subst hw;go_wp2_with fail
        refine (Oh _ _ _ zs _ HX1.o h1 hdk).mono ?_;rintro e w' ⟨rfl,hw⟩;subst hw;go_wp2
        go_round
        case rel=>exact ⟨f,m,by omega,by omega,G6 HF.o.symm,G6 (by omega),HR.o⟩
        case measure=>simp [intOf];omega
def C6 (d n:Int) (zs:List Int):Int:=(Lh d n zs).getD (-1)
theorem bO {d n:Int} {zs:List Int} (h:Lh d n zs=none):C6 d n zs = -1:=by rw [C6,h];rfl
theorem Vz {d n y:Int} {zs:List Int} (h:Lh d n zs=some y):C6 d n zs=y:=by rw [C6,h];rfl
theorem Wi (d n:Int) (ao:Option Addr) (c:Nat) (zs:List Int) (w:World) (hx:Aw w ao zs) (h1:zs.length≤1099511627776) :
  Calls prog 330 #[.int .i64 d,.int .i64 n,.slice ao zs.length c] w fun e w'=>e=.returned (.int .i64 (C6 d n zs))∧BW w w':=by
 cases h:Lh d n zs with
 | none =>
  have HV:Hid _:=bO h
  have HC:Hid (Calls prog 338 #[.int .i64 d,.int .i64 n,.slice ao zs.length c] w fun e w'=>e=.returned (.tuple #[.int .i64 0,.bool false])∧BW w w'):=by
   have g:=V1 d n ao c zs w hx h1;rw [h] at g;exact g
  clear hx
  go_enter func330,ntmps330
  go_wp2_with fail
  refine Calls.mono HC.o ?_;rintro e w1 ⟨rfl,b1⟩;go_wp2;go_ret;exact ⟨Af HV.o.symm,b1⟩
 | some y =>
  have HV:Hid _:=Vz h
  have HC:Hid (Calls prog 338 #[.int .i64 d,.int .i64 n,.slice ao zs.length c] w fun e w'=>e=.returned (.tuple #[.int .i64 y,.bool true])∧BW w w'):=by
   have g:=V1 d n ao c zs w hx h1;rw [h] at g;exact g
  clear hx
  go_enter func330,ntmps330
  go_wp2_with fail
  refine Calls.mono HC.o ?_;rintro e w1 ⟨rfl,b1⟩;go_wp2;go_ret;exact ⟨Af HV.o.symm,b1⟩
theorem Ir (d n:Int) (ao:Option Addr) (c:Nat) (zs:List Int) (w:World) (hx:Aw w ao zs) (h1:zs.length≤1099511627776) :
  Calls prog 222 #[.int .i64 d,.int .i64 n,.slice ao zs.length c] w fun e w'=>e=.returned (.int .i64 (C6 d n zs))∧BW w w':=by
 cases h:Lh d n zs with
 | none =>
  have HV:Hid _:=bO h
  have HC:Hid (Calls prog 264 #[.int .i64 d,.int .i64 n,.slice ao zs.length c] w fun e w'=>e=.returned (.tuple #[.int .i64 0,.bool false])∧BW w w'):=by
   have g:=V0 d n ao c zs w hx h1;rw [h] at g;exact g
  clear hx
  go_enter func222,ntmps222
  go_wp2_with fail
  refine Calls.mono HC.o ?_;rintro e w1 ⟨rfl,b1⟩;go_wp2;go_ret;exact ⟨Af HV.o.symm,b1⟩
 | some y =>
  have HV:Hid _:=Vz h
  have HC:Hid (Calls prog 264 #[.int .i64 d,.int .i64 n,.slice ao zs.length c] w fun e w'=>e=.returned (.tuple #[.int .i64 y,.bool true])∧BW w w'):=by
   have g:=V0 d n ao c zs w hx h1;rw [h] at g;exact g
  clear hx
  go_enter func222,ntmps222
  go_wp2_with fail
  refine Calls.mono HC.o ?_;rintro e w1 ⟨rfl,b1⟩;go_wp2;go_ret;exact ⟨Af HV.o.symm,b1⟩
end Go.Proofs.YtomiclakhjncbaaGreatDoor
namespace Go.Proofs.YtomiclakhjncbaaGreatDoor
open Go.Proofs.Tryz
def Bg (c:Cs) (x:Int):List En:=if x=0 then [] else [(c.acq,c.iss,c.cur,x)]
def Dw (c:Cs) (x:Int):List En:=if x=0 then [] else [(c.iss,c.acq,c.cur,x)]
def I5 (c:Cs) (x:Int):Cs:=⟨c.iss,c.acq,c.cur,c.am,7,c.rsn,0,c.bk+x,c.fee,c.cop,c.sta,-1⟩
def Oo (c:Cs) (x:Int):Int:=if c.cl≤2*x then c.acq else c.iss
def Es (c:Cs) (x:Int):Cs:=⟨c.iss,c.acq,c.cur,c.am,7,c.rsn,0,c.bk+x,c.fee+50000,c.cop,c.sta,-1⟩
def Dg (c:Cs) (x:Int):List En:=Bg c x++[(Oo c x,9999,c.cur,50000)]
def J9 (c:Cs):Cs:=⟨c.iss,c.acq,c.cur,c.am,2,c.rsn,c.cl,c.bk,c.fee,true,c.sta,-1⟩
def Dx (st k:Int):Bool :=
 if k=0 then decide (st=0) else if k=1 then decide (st=1) else if k=2 then decide (0≤st∧st≤2) else if k=3 then decide (st=3) else if k=4 then decide (st=4)
 else if k=5 then decide (st=5) else if k=6 then decide (st=5) else if k=7 then decide (st=6) else if k=8 then decide (st=1∨3≤st∧st≤6) else if k=9 then decide (st=0∨st=2) else false
theorem Jt {st k:Int} (h:Dx st k=true):(k=0∧st=0)∨(k=1∧st=1)∨(k=2∧(st=0∨st=1∨st=2))∨(k=3∧st=3)∨(k=4∧st=4)∨(k=5∧st=5)∨(k=6∧st=5)∨(k=7∧st=6)∨(k=8∧(st=1∨st=3∨st=4∨st=5∨st=6))∨(k=9∧(st=0∨st=2)):=by
 unfold Dx at h
 repeat' split at h
 all_goals simp at h
 all_goals omega
def E4 (c:Cs) (t:Int):Bool:=c.cop || (decide (c.st=1) && Bv t c.due)
def Bs (c:Cs) (a:Ac) (t:Int) (zs:List Int):Int :=
 if Oy a.rsn=false∨(E8 a.rsn=true∧E4 c t=false) then 3
 else if ¬ (1≤a.am∧a.am≤c.am)∨(a.am<c.am∧Gb a.rsn=false) then 2
 else if Bv t (C6 c.sta (Fs a.rsn) zs)=true then 4 else 0
def B4 (c:Cs) (a:Ac) (t:Int) (zs:List Int):Int :=
 if a.kind=2 then Bs c a t zs
 else if a.kind=1∨a.kind=6 then (if Bv t c.due=true then 4 else 0)
 else if a.kind=3∨a.kind=4 then (if Bv t c.due=true then 4 else if 1≤a.am∧a.am≤c.cl then 0 else 2)
 else if a.kind=7 then (if 0≤a.am∧a.am≤c.cl then 0 else 2)
 else if a.kind=8 then (if Bv t c.due=true then 0 else 4) else 0
def Cx (c:Cs):Cs:=if c.st=1 then J9 c else if c.st=5 then I5 c c.cl else if c.st=6 then Es c (c.cl / 2) else I5 c 0
def Ck (c:Cs):List En:=if c.st=1 then [] else if c.st=5 then Bg c c.cl else if c.st=6 then Dg c (c.cl / 2) else []
def Bx (c:Cs) (a:Ac) (t:Int) (zs:List Int):Cs :=
 if a.kind=0 then ⟨c.iss,c.acq,c.cur,c.am,1,c.rsn,c.cl,c.bk,c.fee,c.cop,c.sta,C6 t 20 zs⟩
 else if a.kind=1 then J9 c
 else if a.kind=2 then ⟨c.iss,c.acq,c.cur,c.am,3,a.rsn,a.am,a.am,c.fee,c.cop,c.sta,C6 t 30 zs⟩
 else if a.kind=3 then ⟨c.iss,c.acq,c.cur,c.am,4,c.rsn,a.am,c.bk - a.am,c.fee,c.cop,c.sta,C6 t 30 zs⟩
 else if a.kind=4 then ⟨c.iss,c.acq,c.cur,c.am,5,c.rsn,a.am,c.bk,c.fee,c.cop,c.sta,C6 t 15 zs⟩
 else if a.kind=5 then I5 c c.cl
 else if a.kind=6 then ⟨c.iss,c.acq,c.cur,c.am,6,c.rsn,c.cl,c.bk,c.fee,c.cop,c.sta,C6 t 60 zs⟩
 else if a.kind=7 then Es c a.am
 else if a.kind=8 then Cx c
 else ⟨c.iss,c.acq,c.cur,c.am,7,c.rsn,c.cl,c.bk,c.fee,c.cop,c.sta,-1⟩
def Bw (c:Cs) (a:Ac):List En :=
 if a.kind=2 then Bg c a.am else if a.kind=3 then Dw c a.am else if a.kind=5 then Bg c c.cl else if a.kind=7 then Dg c a.am else if a.kind=8 then Ck c else []
def D7 (c:Cs) (t:Int) (zs:List Int):Bool:=Ao c && (Dn t && (decide (c.sta≤t) && Ct zs))
def doV (c:Cs) (a:Ac) (t:Int) (zs:List Int):Int :=
 if D7 c t zs=false then 5 else if Dx c.st a.kind=false then 1 else if B4 c a t zs≠0 then B4 c a t zs else if Ao (Bx c a t zs)=true then 0 else 1
def doC (c:Cs) (a:Ac) (t:Int) (zs:List Int):Cs:=if doV c a t zs=0 then Bx c a t zs else c
def doE (c:Cs) (a:Ac) (t:Int) (zs:List Int):List En:=if doV c a t zs=0 then Bw c a else []
theorem Lc (c:Cs) (n:Int):(Bg c n).length≤1:=by unfold Bg;split <;> simp
theorem Xq (c:Cs) (n:Int):(Dw c n).length≤1:=by unfold Dw;split <;> simp
theorem S3 (c:Cs) (n:Int):(Dg c n).length≤2:=by
 have:=Lc c n
 unfold Dg;simp;omega
theorem Xb (c:Cs):(Ck c).length≤2:=by
 have h1:=Lc c c.cl;have h2:=S3 c (c.cl / 2);unfold Ck
 split
 ·simp
 ·split
  ·omega
  ·split
   ·omega
   ·simp
theorem dZ (c:Cs) (a:Ac):(Bw c a).length≤2:=by
 have h1:=Lc c a.am;have h2:=Xq c a.am;have h3:=Lc c c.cl;have h4:=S3 c a.am;have h5:=Xb c;unfold Bw
 split
 ·omega
 ·split
  ·omega
  ·split
   ·omega
   ·split
    ·omega
    ·split
     ·omega
     ·simp
theorem bM (c:Cs) (a:Ac) (t:Int) (zs:List Int):(doE c a t zs).length≤2:=by
 unfold doE;split
 ·exact dZ c a
 ·simp
def ofC (c:Cs) (x:Int):Prop:=x=c.iss∨x=c.acq∨x=9999
theorem tV {c:Cs} {n:Int} {e:En} (h:e ∈ Bg c n):ofC c e.1∧ofC c e.2.1:=by
 unfold Bg at h
 split at h
 ·cases h
 ·simp at h;subst h;exact ⟨.inr (.inl rfl),.inl rfl⟩
theorem wD {c:Cs} {n:Int} {e:En} (h:e ∈ Dw c n):ofC c e.1∧ofC c e.2.1:=by
 unfold Dw at h
 split at h
 ·cases h
 ·simp at h;subst h;exact ⟨.inl rfl,.inr (.inl rfl)⟩
theorem vK {c:Cs} {n:Int} {e:En} (h:e ∈ Dg c n):ofC c e.1∧ofC c e.2.1:=by
 unfold Dg at h
 rcases List.mem_append.1 h with h | h
 ·exact tV h
 ·simp at h;subst h
  refine ⟨?_,.inr (.inr rfl)⟩
  show ofC c (Oo c n)
  unfold Oo;split
  ·exact .inr (.inl rfl)
  ·exact .inl rfl
theorem wI {c:Cs} {e:En} (h:e ∈ Ck c):ofC c e.1∧ofC c e.2.1:=by
 unfold Ck at h
 split at h
 ·cases h
 ·split at h
  ·exact tV h
  ·split at h
   ·exact vK h
   ·cases h
theorem Aak {c:Cs} {a:Ac} {t:Int} {zs:List Int} {e:En} (h:e ∈ doE c a t zs):ofC c e.1∧ofC c e.2.1:=by
 unfold doE at h
 split at h
 ·unfold Bw at h
  split at h
  ·exact tV h
  ·split at h
   ·exact wD h
   ·split at h
    ·exact tV h
    ·split at h
     ·exact vK h
     ·split at h
      ·exact wI h
      ·cases h
 ·cases h
theorem vW (c:Cs):(Cx c).iss=c.iss∧(Cx c).acq=c.acq:=by
 unfold Cx
 split
 ·exact ⟨rfl,rfl⟩
 ·split
  ·exact ⟨rfl,rfl⟩
  ·split <;> exact ⟨rfl,rfl⟩
theorem yA (c:Cs) (a:Ac) (t:Int) (zs:List Int):(doC c a t zs).iss=c.iss∧(doC c a t zs).acq=c.acq:=by
 unfold doC
 split
 ·unfold Bx
  by_cases h0:a.kind=0
  ·rw [if_pos h0];exact ⟨rfl,rfl⟩
  rw [if_neg h0]
  by_cases h1:a.kind=1
  ·rw [if_pos h1];exact ⟨rfl,rfl⟩
  rw [if_neg h1]
  by_cases h2:a.kind=2
  ·rw [if_pos h2];exact ⟨rfl,rfl⟩
  rw [if_neg h2]
  by_cases h3:a.kind=3
  ·rw [if_pos h3];exact ⟨rfl,rfl⟩
  rw [if_neg h3]
  by_cases h4:a.kind=4
  ·rw [if_pos h4];exact ⟨rfl,rfl⟩
  rw [if_neg h4]
  by_cases h5:a.kind=5
  ·rw [if_pos h5];exact ⟨rfl,rfl⟩
  rw [if_neg h5]
  by_cases h6:a.kind=6
  ·rw [if_pos h6];exact ⟨rfl,rfl⟩
  rw [if_neg h6]
  by_cases h7:a.kind=7
  ·rw [if_pos h7];exact ⟨rfl,rfl⟩
  rw [if_neg h7]
  by_cases h8:a.kind=8
  ·rw [if_pos h8];exact vW c
  rw [if_neg h8];exact ⟨rfl,rfl⟩
 ·exact ⟨rfl,rfl⟩
theorem Zn (c:Cs) (a:Ac) (t:Int) (zs:List Int):0≤Bs c a t zs∧Bs c a t zs≤4:=by
 unfold Bs
 split
 ·omega
 ·split
  ·omega
  ·split <;> omega
theorem iL (c:Cs) (a:Ac) (t:Int) (zs:List Int):0≤B4 c a t zs∧B4 c a t zs≤4:=by
 have h:=Zn c a t zs;unfold B4
 split
 ·exact h
 ·split
  ·split <;> omega
  ·split
   ·split
    ·omega
    ·split <;> omega
   ·split
    ·split <;> omega
    ·split
     ·split <;> omega
     ·omega
theorem kB (c:Cs) (a:Ac) (t:Int) (zs:List Int):0≤doV c a t zs∧doV c a t zs≤5:=by
 have h:=iL c a t zs;unfold doV
 split
 ·omega
 ·split
  ·omega
  ·split
   ·omega
   ·split <;> omega
abbrev Cd:=Int×Int
def Li (x y:Cd):Bool:=decide (x.1<y.1∨(x.1=y.1∧x.2<y.2))
theorem qL (x:Cd):Li x x=false:=by simp only [Li,decide_eq_false_iff_not];omega
theorem nC {x y:Cd} (h:Li x y=true):Li y x=false:=by simp only [Li,decide_eq_true_eq,decide_eq_false_iff_not] at *;omega
theorem V2 {x y z:Cd} (h:Li z y=false) (g:Li y x=false):Li z x=false:=by simp only [Li,decide_eq_false_iff_not] at *;omega
theorem kT {k p j:Cd} (h:Li k p=false) (g:Li j p=true):Li k j=false:=by simp only [Li,decide_eq_true_eq,decide_eq_false_iff_not] at *;omega
def Lp (j:Nat):Nat:=(j - 1) / 2
theorem J0 {j:Nat} (h:0<j):Lp j<j:=by unfold Lp;omega
def lT (f:Nat→Cd) (n:Nat):Prop:=∀ k,0<k→k<n→Li (f k) (f (Lp k))=false
def dH (f:Nat→Cd) (n j:Nat):Prop:=(∀ k,0<k→k<n→k≠j→Li (f k) (f (Lp k))=false)∧(0<j→∀ k,0<k→k<n→Lp k=j→Li (f k) (f (Lp j))=false)
def Me (f:Nat→Cd) (i k:Nat):Nat→Cd:=fun m=>if m=i then f k else if m=k then f i else f m
theorem Px (f:Nat→Cd) (i k:Nat):Me f i k i=f k:=if_pos rfl
theorem La (f:Nat→Cd) (i k:Nat):Me f i k k=f i:=by
 unfold Me
 by_cases h:k=i
 ·rw [if_pos h,h]
 ·rw [if_neg h,if_pos rfl]
theorem Gz (f:Nat→Cd) {i k m:Nat} (h:m≠i) (g:m≠k):Me f i k m=f m:=by unfold Me;rw [if_neg h,if_neg g]
theorem Tt {f:Nat→Cd} {n j:Nat} (h:dH f n j) (hj:j=0∨Li (f j) (f (Lp j))=false):lT f n:=by
 intro k h0 hk
 by_cases e:k=j
 ·subst e
  rcases hj with rfl | hj
  ·omega
  ·exact hj
 ·exact h.1 k h0 hk e
theorem dR {f:Nat→Cd} {n j:Nat} (h:dH f n j) (h0:0<j) (hj:j<n) (hl:Li (f j) (f (Lp j))=true):dH (Me f (Lp j) j) n (Lp j):=by
 have hp:=J0 h0
 refine ⟨fun k k0 kn kp=>?_,fun p0 k k0 kn kp=>?_⟩
 ·by_cases kj:k=j
  ·subst kj
   rw [La,Px];exact nC hl
  ·rw [Gz f kp kj]
   by_cases e1:Lp k=Lp j
   ·rw [e1,Px]
    have:=h.1 k k0 kn kj
    rw [e1] at this;exact kT this hl
   ·by_cases e2:Lp k=j
    ·rw [e2,La]
     exact h.2 h0 k k0 kn e2
    ·rw [Gz f e1 e2]
     exact h.1 k k0 kn kj
 ·have hpp:=J0 p0
  rw [Gz f (show Lp (Lp j)≠Lp j by omega) (show Lp (Lp j)≠j by omega)]
  have hq:=h.1 (Lp j) p0 (by omega) (by omega)
  by_cases kj:k=j
  ·subst kj
   rw [La];exact hq
  ·have hkp:=J0 k0
   rw [Gz f (show k≠Lp j by omega) kj]
   have:=h.1 k k0 kn kj
   rw [kp] at this;exact V2 this hq
theorem iO {f:Nat→Cd} {n:Nat} (h:lT f n):∀ k,k<n→Li (f k) (f 0)=false:=by
 intro k
 induction k using Nat.strongRecOn with
 | _ k ih =>
  intro hk
  by_cases k0:k=0
  ·subst k0;exact qL _
  ·have hp:=J0 (show 0<k by omega)
   exact V2 (h k (by omega) hk) (ih (Lp k) hp (by omega))
def Bc (H:List Cd) (k:Nat):Cd:=H.getD k (0,0)
theorem Md {H:List Cd} {k:Nat} (h:k<H.length):Bc H k=H[k]:=by simp [Bc,List.getD_eq_getElem?_getD,h]
def F1 (H:List Cd):Prop:=lT (Bc H) H.length
def Qr (H:List Cd) (j:Nat):Prop:=dH (Bc H) H.length j
def Cu (H:List Cd) (i k:Nat):List Cd:=(H.set i (Bc H k)).set k (Bc H i)
theorem Hc (H:List Cd) (i k:Nat):(Cu H i k).length=H.length:=by simp [Cu]
theorem Fi {H:List Cd} {i k:Nat} (hi:i<H.length) (hk:k<H.length) (m:Nat):Bc (Cu H i k) m=Me (Bc H) i k m:=by
 unfold Me Cu
 by_cases hm:m<H.length
 ·rw [Md (by simp;exact hm)]
  by_cases e2:m=k
  ·subst e2
   rw [List.getElem_set_self]
   by_cases e1:m=i
   ·rw [if_pos e1,e1]
   ·rw [if_neg e1,if_pos rfl]
  ·rw [List.getElem_set_ne (by omega)]
   by_cases e1:m=i
   ·subst e1
    rw [List.getElem_set_self,if_pos rfl]
   ·rw [List.getElem_set_ne (by omega),if_neg e1,if_neg e2,Md hm]
 ·have e1:m≠i:=by omega
  have e2:m≠k:=by omega
  rw [if_neg e1,if_neg e2]
  simp [Bc,List.getD_eq_getElem?_getD,hm]
theorem gP {H:List Cd} {i k:Nat} (hi:i<H.length) (hk:k<H.length):Bc (Cu H i k)=Me (Bc H) i k:=funext (Fi hi hk)
def Fv (H G:List Cd):Prop:=G.length=H.length∧(∀ i,i<H.length→∃ j,j<H.length∧Bc G i=Bc H j)∧(∀ j,j<H.length→∃ i,i<H.length∧Bc G i=Bc H j)
theorem Fv.refl (H:List Cd):Fv H H:=⟨rfl,fun i hi=>⟨i,hi,rfl⟩,fun j hj=>⟨j,hj,rfl⟩⟩
theorem Fv.trans {H G K:List Cd} (h:Fv H G) (g:Fv G K):Fv H K:=by
 refine ⟨g.1.trans h.1,fun i hi=>?_,fun j hj=>?_⟩
 ·obtain ⟨a,ha,e⟩:=g.2.1 i (by rw [h.1];exact hi)
  obtain ⟨b,hb,e'⟩:=h.2.1 a (by rw [h.1] at ha;exact ha)
  exact ⟨b,hb,e.trans e'⟩
 ·obtain ⟨a,ha,e⟩:=h.2.2 j hj
  obtain ⟨b,hb,e'⟩:=g.2.2 a (by rw [h.1];exact ha)
  exact ⟨b,by rw [h.1] at hb;exact hb,e'.trans e⟩
theorem gQ {H:List Cd} {i k:Nat} (hi:i<H.length) (hk:k<H.length):Fv H (Cu H i k):=by
 refine ⟨Hc H i k,fun m hm=>?_,fun m hm=>?_⟩
 ·rw [Fi hi hk]
  by_cases e1:m=i
  ·exact ⟨k,hk,by rw [e1,Px]⟩
  ·by_cases e2:m=k
   ·exact ⟨i,hi,by rw [e2,La]⟩
   ·exact ⟨m,hm,Gz _ e1 e2⟩
 ·by_cases e1:m=i
  ·exact ⟨k,hk,by rw [Fi hi hk,La,e1]⟩
  ·by_cases e2:m=k
   ·exact ⟨i,hi,by rw [Fi hi hk,Px,e2]⟩
   ·exact ⟨m,hm,by rw [Fi hi hk,Gz _ e1 e2]⟩
theorem Nn {H:List Cd} {x:Cd} {k:Nat} (h:k<H.length):Bc (H++[x]) k=Bc H k:=by
 rw [Md (by simp;omega),Md h,List.getElem_append_left h]
theorem S9 (H:List Cd) (x:Cd):Bc (H++[x]) H.length=x:=by
 rw [Md (by simp)];simp
theorem eK {H:List Cd} (h:F1 H) (x:Cd):Qr (H++[x]) H.length:=by
 refine ⟨fun k k0 kn kj=>?_,fun j0 k k0 kn kp=>?_⟩
 ·have hk:k<H.length:=by simp at kn;omega
  have hp:=J0 k0
  rw [Nn hk,Nn (by omega)]
  exact h k k0 hk
 ·have hp:=J0 k0
  simp at kn
  omega
structure Gu (sc:Nat→Int) (n:Nat) (H:List Cd):Prop where
 heap:F1 H
 only:∀ i,i<H.length→∃ m,m<n∧Bc H i=(sc m,(m:Int))∧0≤sc m
 all:∀ m,m<n→0≤sc m→∃ i,i<H.length∧Bc H i=(sc m,(m:Int))
 le:H.length≤n
theorem Gu.start (sc:Nat→Int):Gu sc 0 []:=⟨fun k _ h=>by simp at h,fun i h=>by simp at h,fun m h=>by omega,nL⟩
theorem Gu.skip {sc:Nat→Int} {n:Nat} {H:List Cd} (h:Gu sc n H) (hs:sc n<0):Gu sc (n+1) H:=by
 refine ⟨h.heap,fun i hi=>?_,fun m hm h0=>?_,Nat.le_succ_of_le h.le⟩
 ·obtain ⟨m,hm,e⟩:=h.only i hi
  exact ⟨m,by omega,e⟩
 ·by_cases e:m=n
  ·subst e;omega
  ·exact h.all m (by omega) h0
theorem Gu.push {sc:Nat→Int} {n:Nat} {H G:List Cd} (h:Gu sc n H) (hs:0≤sc n) (hg:F1 G) (hsame:Fv (H++[(sc n,(n:Int))]) G):Gu sc (n+1) G:=by
 have hl:=hsame.1
 simp at hl
 have hle:=h.le
 refine ⟨hg,fun i hi=>?_,fun m hm h0=>?_,by omega⟩
 ·obtain ⟨j,hj,e⟩:=hsame.2.1 i (by simp;omega)
  rw [e]
  simp at hj
  by_cases ej:j=H.length
  ·subst ej
   rw [S9]
   exact ⟨n,by omega,rfl,hs⟩
  ·rw [Nn (show j<H.length by omega)]
   obtain ⟨m,hm,e2⟩:=h.only j (by omega)
   exact ⟨m,by omega,e2⟩
 ·by_cases e:m=n
  ·subst e
   obtain ⟨i,hi,e2⟩:=hsame.2.2 H.length (by simp)
   rw [S9] at e2
   exact ⟨i,by simp at hi;omega,e2⟩
  ·obtain ⟨j,hj,e2⟩:=h.all m (by omega) h0
   obtain ⟨i,hi,e3⟩:=hsame.2.2 j (by simp;omega)
   rw [Nn hj] at e3
   exact ⟨i,by simp at hi;omega,e3.trans e2⟩
def Io (sc:Nat→Int) (n:Nat) (x:Int):Prop:=(x = -1∧∀ k,k<n→sc k<0)∨∃ i:Nat,i<n∧x=(i:Int)∧0≤sc i∧∀ k,k<n→0≤sc k→(sc i<sc k∨(sc i=sc k∧i≤k))
theorem kD {sc:Nat→Int} {n:Nat} {x y:Int} (h:Io sc n x) (g:Io sc n y):x=y:=by
 rcases h with ⟨rfl,h⟩ | ⟨i,hi,rfl,hs,h⟩
 ·rcases g with ⟨rfl,_⟩ | ⟨k,hk,rfl,gs,_⟩
  ·rfl
  ·have:=h k hk;omega
 ·rcases g with ⟨rfl,g⟩ | ⟨k,hk,rfl,gs,g⟩
  ·have:=g i hi;omega
  ·have h1:=h k hk gs
   have h2:=g i hi hs
   omega
theorem fB {sc:Nat→Int} {n:Nat} {H:List Cd} (h:Gu sc n H) (h0:H.length=0):Io sc n (-1):=by
 refine .inl ⟨rfl,fun k hk=>?_⟩
 by_cases e:sc k<0
 ·exact e
 ·obtain ⟨i,hi,_⟩:=h.all k hk (by omega)
  omega
theorem eB {sc:Nat→Int} {n:Nat} {H:List Cd} (h:Gu sc n H) (h0:0<H.length):Io sc n (Bc H 0).2:=by
 obtain ⟨m,hm,e,hs⟩:=h.only 0 h0
 refine .inr ⟨m,hm,by rw [e],hs,fun k hk ks=>?_⟩
 obtain ⟨i,hi,e2⟩:=h.all k hk ks
 have:=iO h.heap i hi
 rw [e,e2] at this
 simp only [Li,decide_eq_false_iff_not] at this
 omega
theorem gK {sc:Nat→Int} {n:Nat} {x:Int} (h:Io sc n x) (hs:sc n<0):Io sc (n+1) x:=by
 rcases h with ⟨rfl,h⟩ | ⟨i,hi,rfl,h1,h⟩
 ·exact .inl ⟨rfl,fun k hk=>by by_cases e:k=n;subst e;exact hs;exact h k (by omega)⟩
 ·exact .inr ⟨i,by omega,rfl,h1,fun k hk ks=>by by_cases e:k=n;subst e;omega;exact h k (by omega) ks⟩
theorem Yv {sc:Nat→Int} {n:Nat} (h:Io sc n (-1)) (hs:0≤sc n):Io sc (n+1) (n:Int):=by
 refine .inr ⟨n,by omega,rfl,hs,fun k hk ks=>?_⟩
 rcases h with ⟨_,h⟩ | ⟨i,_,e,_⟩
 ·by_cases e:k=n
  ·subst e;omega
  ·have:=h k (by omega);omega
 ·omega
theorem mK {sc:Nat→Int} {n i:Nat} (h:Io sc n (i:Int)) (hs:0≤sc n) (hl:sc n<sc i):Io sc (n+1) (n:Int):=by
 refine .inr ⟨n,by omega,rfl,hs,fun k hk ks=>?_⟩
 rcases h with ⟨e,_⟩ | ⟨j,hj,e,_,h⟩
 ·omega
 ·have ej:j=i:=by omega
  subst ej
  by_cases e:k=n
  ·subst e;omega
  ·have:=h k (by omega) ks;omega
theorem jH {sc:Nat→Int} {n i:Nat} (h:Io sc n (i:Int)) (hl:¬ sc n<sc i):Io sc (n+1) (i:Int):=by
 rcases h with ⟨e,_⟩ | ⟨j,hj,e,h1,h⟩
 ·omega
 ·have ej:j=i:=by omega
  subst ej
  exact .inr ⟨j,by omega,rfl,h1,fun k hk ks=>by by_cases e:k=n;subst e;omega;exact h k (by omega) ks⟩
end Go.Proofs.YtomiclakhjncbaaGreatDoor
namespace Go.Proofs.YtomiclakhjncbaaGreatDoor
open Go.RowKit Go.Proofs.Tryz
theorem dW (a:Int) (w:World) :
  Calls prog 147 #[.int .i64 a] w fun e w'=>e=.returned (.bool (Cb a))∧w'=w:=by
 by_cases h1:1≤a
 ·by_cases h2:a≤9999
  ·have HE:Hid (Cb a=true):=by simp [Hid,Cb,h1,h2]
   go_enter func147,ntmps147
   go_wp2;go_ret;exact ⟨Aa HE.o.symm,rfl⟩
  ·have HE:Hid (Cb a=false):=by simp [Hid,Cb,h1,h2]
   go_enter func147,ntmps147
   go_wp2;go_ret;exact ⟨Aa HE.o.symm,rfl⟩
 ·have HE:Hid (Cb a=false):=by simp [Hid,Cb];omega
  go_enter func147,ntmps147
  go_wp2;go_ret;exact ⟨Aa HE.o.symm,rfl⟩
theorem C9 {a:Int} {q:Bool} (h:Cb a=q) (w:World):Calls prog 147 #[.int .i64 a] w fun e w'=>e=.returned (.bool q)∧w'=w:=by rw [← h];exact dW a w
theorem Rd {c:Int} (w:World) (d:Int) (h:Dc c=d) (hc:(Lit.int .i64 c).wf=true):Calls prog 148 #[.int .i64 c] w fun e w'=>e=.returned (.int .i64 d)∧BW w w':=by rw [← h];exact Eb c w hc
theorem kH (a b c:Int) (w:World) :
  Calls prog 107 #[.agg #[.int .i64 a,.int .i64 b,.int .i64 c]] w fun e w'=>e=.returned (.agg #[.int .i64 a,.int .i64 b])∧BW w w':=by
 go_enter func107,ntmps107
 go_wp2
 go_returns
 refine ⟨rfl,?_⟩
 go_grown
theorem Nm (a b c m:Int) (w:World) (hc:(Lit.int .i64 c).wf=true) :
  Calls prog 313 #[.agg #[.int .i64 a,.int .i64 b,.int .i64 c,.int .i64 m]] w fun e w'=>e=.returned (.bool (Bt (a,b,c,m)))∧BW w w':=by
 have bel:Below w.heap.size w (w.alloc (.cells #[.int .i64 a,.int .i64 b,.int .i64 c,.int .i64 m] 269)):=by go_grown
 have HC:Hid _:=hc;clear hc
 cases h1:Cb a
 ·have HE:Hid (Bt (a,b,c,m)=false):=by simp [Hid,Bt,h1]
  have H1:Hid _:=h1;clear h1
  go_enter func313,ntmps313
  go_wp2_with fail
  refine (C9 H1.o _).mono ?_;rintro e w1 ⟨rfl,hw⟩;rw [hw];clear hw;go_wp2;go_ret;exact ⟨Aa HE.o.symm,bel⟩
 have H1:Hid _:=h1
 cases h2:Cb b
 ·have HE:Hid (Bt (a,b,c,m)=false):=by simp [Hid,Bt,h2]
  have H2:Hid _:=h2;clear h1 h2
  go_enter func313,ntmps313
  go_wp2_with fail
  refine (C9 H1.o _).mono ?_;rintro e w1 ⟨rfl,hw⟩;rw [hw];clear hw;go_wp2_with fail
  refine (C9 H2.o _).mono ?_;rintro e w2 ⟨rfl,hw⟩;rw [hw];clear hw;go_wp2;go_ret;exact ⟨Aa HE.o.symm,bel⟩
 have H2:Hid _:=h2
 by_cases h3:a=b
 ·have HE:Hid (Bt (a,b,c,m)=false):=by simp [Hid,Bt,h3]
  have h3':(a != b)=false:=by simpa using h3
  clear h1 h2 h3
  go_enter func313,ntmps313
  go_wp2_with fail
  refine (C9 H1.o _).mono ?_;rintro e w1 ⟨rfl,hw⟩;rw [hw];clear hw;go_wp2_with fail
  refine (C9 H2.o _).mono ?_;rintro e w2 ⟨rfl,hw⟩;rw [hw];clear hw;go_wp2;go_ret;exact ⟨Aa HE.o.symm,bel⟩
 have h3':(a != b)=true:=by simpa using h3
 have hx:∀ q:Bool,(decide (0≤Dc c) && decide (1≤m∧m≤1000000000000))=q→Bt (a,b,c,m)=q:=by
  intro q hq
  simp only [Bt,h1,h2,Bool.true_and,decide_eq_true h3]
  exact hq
 obtain ⟨d,hd⟩:∃ d,Dc c=d:=⟨_,rfl⟩;have HD:Hid _:=hd
 have HE:Hid (Bt (a,b,c,m)=(decide (0≤d) && decide (1≤m∧m≤1000000000000))):=hx _ (by rw [hd])
 clear hx hd h3 h1 h2
 go_enter func313,ntmps313
 go_wp2_with fail
 refine (C9 H1.o _).mono ?_;rintro e w1 ⟨rfl,hw⟩;rw [hw];clear hw;go_wp2_with fail
 refine (C9 H2.o _).mono ?_;rintro e w2 ⟨rfl,hw⟩;rw [hw];clear hw;go_wp2_with fail
 refine (Rd _ d HD.o HC.o).mono ?_;rintro e w3 ⟨rfl,b3⟩
 have x3:=(b3.cell (p:=⟨w.heap.size,3,none⟩) (by simp)).trans (show _=some (.int .i64 m) by simp)
 have q3:=bel.trans (b3.mono bel.size);clear b3 bel
 by_cases h4:0≤d
 ·by_cases h5:1≤m
  ·by_cases h6:m≤1000000000000
   ·have HX:Hid (Bt (a,b,c,m)=true):=by rw [Hid,HE.o];simp [h4,h5,h6]
    clear HE;go_wp2;go_ret;exact ⟨Aa HX.o.symm,q3⟩
   ·have HX:Hid (Bt (a,b,c,m)=false):=by rw [Hid,HE.o];simp [h6]
    have H6:Hid (decide (m≤1000000000000)=false):=decide_eq_false h6;clear HE;go_wp2;go_ret
    exact ⟨Aa (by rw [HX.o,H6.o]),q3⟩
  ·have HX:Hid (Bt (a,b,c,m)=false):=by rw [Hid,HE.o];simp [h5]
   clear HE;go_wp2;go_ret;exact ⟨Aa HX.o.symm,q3⟩
 ·have HX:Hid (Bt (a,b,c,m)=false):=by rw [Hid,HE.o];simp [h4]
  clear HE;go_wp2;go_ret;exact ⟨Aa HX.o.symm,q3⟩
theorem iQ (l:List UInt8):decide (0≤Lib.indexByte l 32)=l.any (fun c=>c == 32):=by
 induction l with
 | nil=>rfl
 | cons b l ih =>
  have hg:=Lib.indexByte_ge l 32
  by_cases hb:b=32
  ·have h1:(b == 32)=true:=by simp [hb]
   have h0:Lib.indexByte (b::l) 32=0:=by rw [Lib.indexByte,if_pos h1]
   rw [h0,List.any_cons,h1];rfl
  ·have h1:(b == 32)=false:=by simp [hb]
   rw [List.any_cons,h1,Bool.false_or,← ih]
   by_cases h:Lib.indexByte l 32 = -1
   ·have h0:Lib.indexByte (b::l) 32 = -1:=by rw [Lib.indexByte,if_neg (by rw [h1];decide),if_pos (by simp [h])]
    rw [h0,h]
   ·have h0:Lib.indexByte (b::l) 32=Lib.indexByte l 32+1:=by rw [Lib.indexByte,if_neg (by rw [h1];decide),if_neg (by simp [h])]
    rw [h0,decide_eq_true (show 0≤Lib.indexByte l 32+1 by omega),decide_eq_true (show 0≤Lib.indexByte l 32 by omega)]
theorem Y3 (l:List UInt8):A6 33 126 l=(A6 32 126 l && !decide (0≤Lib.indexByte l 32)):=by
 rw [iQ]
 induction l with
 | nil=>rfl
 | cons b l ih =>
  simp only [A6,List.all_cons,List.any_cons] at ih ⊢
  rw [ih]
  by_cases hb:b.toNat=32
  ·have h1:(b == 32)=true:=by
     have:b=32:=UInt8.toNat_inj.1 hb
     simp [this]
   have h2:decide (33≤b.toNat)=false:=by simp [hb]
   rw [h1,h2]
   simp
  ·have h1:(b == 32)=false:=by
     cases h:(b == 32)
     ·rfl
     ·have:b=32:=by simpa using h
      subst this;exact absurd rfl hb
   have h2:decide (33≤b.toNat)=decide (32≤b.toNat):=by
    by_cases h:33≤b.toNat
    ·rw [decide_eq_true h,decide_eq_true (show 32≤b.toNat by omega)]
    ·rw [decide_eq_false h,decide_eq_false (show ¬ 32≤b.toNat by omega)]
   rw [h1,h2,Bool.false_or]
   cases decide (32≤b.toNat) <;> cases decide (b.toNat≤126) <;> simp
theorem lU (l:List UInt8) (w:World) (hl:l.length≤1099511627776) :
  Calls prog 276 #[.string ⟨l.toArray⟩] w fun e w'=>e=.returned (.bool (Kk l))∧w'=w:=by
 by_cases h12:l.length=12
 ·have hq:((l.length:Int) == 12)=true:=by simp [h12]
  have HR:Hid (Kk l=(A6 32 126 l && !decide (0≤Lib.indexByte l 32))):=by rw [Hid,Kk,Y3,decide_eq_true h12,Bool.true_and]
  clear h12
  cases hp:A6 32 126 l
  ·go_enter func276,ntmps276
   go_wp2_with fail
   refine (Lx l _ hl).mono ?_;rintro e w1 ⟨rfl,hw⟩;subst hw;rw [hp];go_wp2;go_ret
   exact ⟨Aa (by rw [HR.o,hp];rfl),rfl⟩
  ·go_enter func276,ntmps276
   go_wp2_with fail
   refine (Lx l _ hl).mono ?_;rintro e w1 ⟨rfl,hw⟩;subst hw;rw [hp];go_wp2_with fail
   refine (strings_Contains_one ⟨l.toArray⟩ 32 _).mono ?_;rintro e w1 ⟨rfl,hw⟩;subst hw;obtain ⟨q,hqq⟩:∃ q,decide (0≤Lib.indexByte (⟨l.toArray⟩:ByteArray).data.toList 32)=q:=⟨_,rfl⟩;rw [hqq];have HQ:Hid (decide (0≤Lib.indexByte l 32)=q):=hqq;clear hqq;go_wp2;go_ret
   exact ⟨Aa (by rw [HR.o,hp,HQ.o];rfl),rfl⟩
 ·have hq:((l.length:Int) == 12)=false:=by simp;omega
  have HR:Hid (Kk l=false):=by rw [Hid,Kk,decide_eq_false h12];rfl
  clear h12
  go_enter func276,ntmps276
  go_wp2;go_ret;exact ⟨Aa HR.o.symm,rfl⟩
theorem Nd {l:List UInt8} {q:Bool} (h:Kk l=q) (w:World) (hl:l.length≤1099511627776):Calls prog 276 #[.string ⟨l.toArray⟩] w fun e w'=>e=.returned (.bool q)∧w'=w:=by rw [← h];exact lU l w hl
theorem Oi (a:Au) (w:World) (hl:a.ref.length≤1099511627776) (hc:Bf a.cur) :
  Calls prog 248 #[Fe a] w fun e w'=>e=.returned (.bool (Gy a))∧BW w w':=by
 obtain ⟨r,i,c,m,d,u⟩:=a
 simp only [Fe] at hl hc ⊢
 have HV:Hid (Gy ⟨r,i,c,m,d,u⟩=(Kk r && (Cb i && (decide (0≤Dc c) && (decide (1≤m∧m≤100000000000) && Dn d))))):=rfl
 have b0:∀ o,Below w.heap.size w (w.alloc o):=fun o=>bR.alloc nL _
 cases hr:Kk r
 ·go_enter func248,ntmps248
  go_wp2_with fail
  refine (Nd hr _ hl).mono ?_;rintro e w1 ⟨rfl,hw⟩;subst hw;go_wp2;go_ret
  exact ⟨Aa (by rw [HV.o,hr];rfl),b0 _⟩
 cases hi:Cb i
 ·go_enter func248,ntmps248
  go_wp2_with fail
  refine (Nd hr _ hl).mono ?_;rintro e w1 ⟨rfl,hw⟩;subst hw;go_wp2_with fail
  refine (C9 hi _).mono ?_;rintro e w1 ⟨rfl,hw⟩;subst hw;go_wp2;go_ret
  exact ⟨Aa (by rw [HV.o,hr,hi];rfl),b0 _⟩
 obtain ⟨W,hW⟩:∃ W,w.alloc (.cells #[.string ⟨r.toArray⟩,.int .i64 i,.int .i64 c,.int .i64 m,.int .i64 d,.bool u] 107)=W:=⟨_,rfl⟩;have bW:BW w W:=hW ▸ b0 _
 have c3:W.cell? ⟨w.heap.size,3,none⟩=some (.int .i64 m):=by rw [← hW];simp
 have c4:W.cell? ⟨w.heap.size,4,none⟩=some (.int .i64 d):=by rw [← hW];simp
 have c2:W.cell? ⟨w.heap.size,2,none⟩=some (.int .i64 c):=by rw [← hW];simp
 have lW:w.heap.size<W.heap.size:=by rw [← hW];simp
 have HW:Hid _:=hW;clear hW
 by_cases hd:0≤Dc c
 ·by_cases hm:1≤m∧m≤100000000000
  ·obtain ⟨hm1,hm2⟩:=hm
   obtain ⟨q,hq⟩:∃ q,Dn d=q:=⟨_,rfl⟩;have HQ:Hid (Dn d=q):=hq;clear hq
   have HVV:Hid (Gy ⟨r,i,c,m,d,u⟩=q):=by rw [Hid,HV.o,hr,hi,decide_eq_true hd,decide_eq_true (show 1≤m∧m≤100000000000 from ⟨hm1,hm2⟩),HQ.o];rfl
   clear HV
   go_enter func248,ntmps248
   go_wp2_with fail
   refine (Nd hr _ hl).mono ?_;rintro e w1 ⟨rfl,hw⟩;subst hw;go_wp2_with fail
   refine (C9 hi _).mono ?_;rintro e w1 ⟨rfl,hw⟩;subst hw;rw [HW.o];go_wp2_with fail
   refine (Eb c _ hc).mono ?_;rintro e w2 ⟨rfl,b2⟩;have e3:w2.cell? ⟨w.heap.size,3,none⟩=some (.int .i64 m):=(b2.cell (p:=⟨w.heap.size,3,none⟩) lW).trans c3;have e4:w2.cell? ⟨w.heap.size,4,none⟩=some (.int .i64 d):=(b2.cell (p:=⟨w.heap.size,4,none⟩) lW).trans c4;have HB:Hid (BW w w2):=bW.trans (b2.mono bW.size)
   generalize Dc c=g at hd
   clear c2 c3 c4 bW b2 HW;go_wp2_with fail
   refine (Bm d _).mono ?_;rintro e w3 ⟨rfl,hw⟩;subst hw;rw [HQ.o];go_wp2;go_ret;exact ⟨Aa HVV.o.symm,HB.o⟩
  ·have HVV:Hid (Gy ⟨r,i,c,m,d,u⟩=false):=by rw [Hid,HV.o,hr,hi,decide_eq_true hd,decide_eq_false hm];rfl
   clear HV
   go_enter func248,ntmps248
   go_wp2_with fail
   refine (Nd hr _ hl).mono ?_;rintro e w1 ⟨rfl,hw⟩;subst hw;go_wp2_with fail
   refine (C9 hi _).mono ?_;rintro e w1 ⟨rfl,hw⟩;subst hw;rw [HW.o];go_wp2_with fail
   refine (Eb c _ hc).mono ?_;rintro e w2 ⟨rfl,b2⟩;have e3:w2.cell? ⟨w.heap.size,3,none⟩=some (.int .i64 m):=(b2.cell (p:=⟨w.heap.size,3,none⟩) lW).trans c3;have HB:Hid (BW w w2):=bW.trans (b2.mono bW.size)
   generalize Dc c=g at hd
   clear c2 c3 c4 bW b2 HW
   by_cases hm1:1≤m
   ·have hm2:100000000000<m:=by omega
    clear hm;go_wp2;go_ret;exact ⟨Aa HVV.o.symm,HB.o⟩
   ·clear hm
    go_wp2;go_ret;exact ⟨Aa HVV.o.symm,HB.o⟩
 ·have HVV:Hid (Gy ⟨r,i,c,m,d,u⟩=false):=by rw [Hid,HV.o,hr,hi,decide_eq_false hd];rfl
  clear HV
  go_enter func248,ntmps248
  go_wp2_with fail
  refine (Nd hr _ hl).mono ?_;rintro e w1 ⟨rfl,hw⟩;subst hw;go_wp2_with fail
  refine (C9 hi _).mono ?_;rintro e w1 ⟨rfl,hw⟩;subst hw;rw [HW.o];go_wp2_with fail
  refine (Eb c _ hc).mono ?_;rintro e w2 ⟨rfl,b2⟩;have HB:Hid (BW w w2):=bW.trans (b2.mono bW.size)
  generalize Dc c=g at hd
  clear c2 c3 c4 bW b2 HW;go_wp2;go_ret;exact ⟨Aa HVV.o.symm,HB.o⟩
structure Jo (b:Nat) (a:Au) (u:World):Prop where
 c0:u.cell? ⟨b,0,none⟩=some (.string ⟨a.ref.toArray⟩)
 c1:u.cell? ⟨b,1,none⟩=some (.int .i64 a.iss)
 c2:u.cell? ⟨b,2,none⟩=some (.int .i64 a.cur)
 c3:u.cell? ⟨b,3,none⟩=some (.int .i64 a.am)
 c4:u.cell? ⟨b,4,none⟩=some (.int .i64 a.day)
 c5:u.cell? ⟨b,5,none⟩=some (.bool a.used)
theorem Jo.lt {b:Nat} {a:Au} {u:World} (x:Jo b a u):b<u.heap.size:=World.block_lt_of_cell? u _ x.c0
theorem Jo.below {b:Nat} {a:Au} {u u':World} (x:Jo b a u) (h:BW u u'):Jo b a u':=by
 have l:=x.lt;exact ⟨(h.cell (p:=⟨b,0,none⟩) l).trans x.c0,(h.cell (p:=⟨b,1,none⟩) l).trans x.c1,(h.cell (p:=⟨b,2,none⟩) l).trans x.c2,(h.cell (p:=⟨b,3,none⟩) l).trans x.c3,(h.cell (p:=⟨b,4,none⟩) l).trans x.c4,(h.cell (p:=⟨b,5,none⟩) l).trans x.c5⟩
theorem Jo.new (w:World) (a:Au) (t:TypeId):Jo w.heap.size a (w.alloc (.cells #[.string ⟨a.ref.toArray⟩,.int .i64 a.iss,.int .i64 a.cur,.int .i64 a.am,.int .i64 a.day,.bool a.used] t)) :=
 ⟨by simp,by simp,by simp,by simp,by simp,by simp⟩
theorem cL {x:Int} (h:(Lit.int .i64 x).wf=true):-9223372036854775808≤x∧x≤9223372036854775807:=by
 simpa [Lit.wf,IntKind.min,IntKind.max,IntKind.signed,IntKind.bits] using h
theorem Vt {a:Au} {iY uV am day:Int} (h:Xr a iY uV am day=false):Co a iY uV am day = -1:=by rw [Co,if_neg (by rw [h];decide)]
theorem Tj {a:Au} {iY uV am day:Int} (h:Xr a iY uV am day=true):Co a iY uV am day=8*Ue (am - a.am)+day - a.day:=by rw [Co,if_pos h]
theorem lP (a:Au) (iY uV am day:Int):Xr a iY uV am day=(Gy a && (!a.used && (decide (a.iss=iY) && (decide (a.cur=uV) && (E9 a day && Ia a am))))):=rfl
theorem pK (x:Int):max x (-x)=Ue x:=by unfold Ue;split <;> omega
theorem eC (a:Au) (day:Int) (w:World) (hd:0≤a.day∧a.day≤80000) (hb:day≤9223372036854775807) :
  Calls prog 279 #[Fe a,.int .i64 day] w fun e w'=>e=.returned (.bool (E9 a day))∧BW w w':=by
 obtain ⟨r,i,c,m,d,u⟩:=a
 simp only [Fe] at hd ⊢
 have b0:∀ o,Below w.heap.size w (w.alloc o):=fun o=>bR.alloc nL _
 by_cases h1:d≤day
 ·by_cases h2:day - d≤7
  ·have HV:Hid (E9 ⟨r,i,c,m,d,u⟩ day=true):=by rw [Hid,E9];exact decide_eq_true (show d≤day∧day≤d+7 by omega)
   go_enter func279,ntmps279
   go_wp2;go_ret;exact ⟨Aa HV.o.symm,b0 _⟩
  ·have HV:Hid (E9 ⟨r,i,c,m,d,u⟩ day=false):=by rw [Hid,E9];exact decide_eq_false (show ¬ (d≤day∧day≤d+7) by omega)
   go_enter func279,ntmps279
   go_wp2;go_ret;exact ⟨Aa HV.o.symm,b0 _⟩
 ·have HV:Hid (E9 ⟨r,i,c,m,d,u⟩ day=false):=by rw [Hid,E9];exact decide_eq_false (show ¬ (d≤day∧day≤d+7) by omega)
  go_enter func279,ntmps279
  go_wp2;go_ret;exact ⟨Aa HV.o.symm,b0 _⟩
theorem jN (a:Au) (am:Int) (w:World) (hd:1≤a.am∧a.am≤100000000000) :
  Calls prog 280 #[Fe a,.int .i64 am] w fun e w'=>e=.returned (.bool (Ia a am))∧BW w w':=by
 obtain ⟨r,i,c,m,d,u⟩:=a
 simp only [Fe] at hd ⊢
 have b0:∀ o,Below w.heap.size w (w.alloc o):=fun o=>bR.alloc nL _
 have hq:m.tdiv 10=m / 10:=Int.tdiv_eq_ediv_of_nonneg (by omega)
 obtain ⟨t,ht⟩:∃ t,m / 10=t:=⟨_,rfl⟩
 have ht1:0≤t∧t≤10000000000:=by omega
 have HV:Hid (Ia ⟨r,i,c,m,d,u⟩ am=decide (1≤am∧am≤m+t)):=by rw [Hid,Ia,ht]
 rw [ht] at hq
 by_cases h1:1≤am
 ·by_cases h2:am≤m+t
  ·have HW:Hid (Ia ⟨r,i,c,m,d,u⟩ am=true):=by rw [Hid,HV.o];exact decide_eq_true ⟨h1,h2⟩
   clear HV
   go_enter func280,ntmps280
   go_wp2;go_ret;exact ⟨Aa HW.o.symm,b0 _⟩
  ·have HW:Hid (Ia ⟨r,i,c,m,d,u⟩ am=false):=by rw [Hid,HV.o];exact decide_eq_false (fun h=>h2 h.2)
   clear HV
   go_enter func280,ntmps280
   go_wp2;go_ret;exact ⟨Aa HW.o.symm,b0 _⟩
 ·have HW:Hid (Ia ⟨r,i,c,m,d,u⟩ am=false):=by rw [Hid,HV.o];exact decide_eq_false (fun h=>h1 h.1)
  clear HV
  go_enter func280,ntmps280
  go_wp2;go_ret;exact ⟨Aa HW.o.symm,b0 _⟩
theorem aV (a:Au) (iY uV am day:Int) (w:World) (hl:a.ref.length≤1099511627776) (hc:Bf a.cur) (_w3:(Lit.int .i64 am).wf=true) (w4:(Lit.int .i64 day).wf=true) :
  Calls prog 251 #[Fe a,.int .i64 iY,.int .i64 uV,.int .i64 am,.int .i64 day] w fun e w'=>e=.returned (.int .i64 (Co a iY uV am day))∧BW w w':=by
 have hday:=cL w4;have HV:=lP a iY uV am day;obtain ⟨q,hq⟩:∃ q,Gy a=q:=⟨_,rfl⟩
 have HO:Hid (∀ u,Calls prog 248 #[Fe a] u fun e w'=>e=.returned (.bool q)∧BW u w'):=fun u=>by rw [← hq];exact Oi a u hl hc
 have HN:Hid (Xr a iY uV am day=false→Co a iY uV am day = -1):=Vt;have HY:Hid (Xr a iY uV am day=true→Co a iY uV am day=8*Ue (am - a.am)+day - a.day):=Tj;obtain ⟨W,hW⟩:∃ W,W=w.alloc (.cells #[.string ⟨a.ref.toArray⟩,.int .i64 a.iss,.int .i64 a.cur,.int .i64 a.am,.int .i64 a.day,.bool a.used] 107):=⟨_,rfl⟩
 have B:Jo w.heap.size a W:=by rw [hW];exact Jo.new w a _
 have HBB:Hid (Jo w.heap.size a W):=B
 have bW:BW w W:=by rw [hW];exact bR.alloc nL _
 have HBW:Hid (BW w W):=bW;clear bW _w3 w4
 cases q
 ·have HE:Hid (Co a iY uV am day = -1):=HN.o (by rw [HV,hq];rfl)
  clear HV HN HY hq HBB;obtain ⟨r,i,c,m,d,u⟩:=a;unfold Fe at HO ⊢
  simp only at hW HO ⊢
  have HW:Hid _:=hW;obtain ⟨f0,f1,f2,f3,f4,f5⟩:=B;clear hW
  go_enter func251,ntmps251
  go_upto_region 1 with fail
  rw [← HW.o];go_wp2_with fail
  refine (HO.o _).mono ?_;rintro e u1 ⟨rfl,b1⟩;have HB1:Hid (BW w u1):=next HBW.o b1;clear b1 f0 f1 f2 f3 f4 f5;go_wp2;go_ret;exact ⟨Af HE.o.symm,HB1.o⟩
 obtain ⟨-,-,-,hmm,hdd⟩:=L0 hq;have hdb:=Ei hdd
 have HT:Hid (∀ u,Calls prog 279 #[Fe a,.int .i64 day] u fun e w'=>e=.returned (.bool (E9 a day))∧BW u w'):=fun u=>eC a day u hdb hday.2
 have HS:Hid (∀ u,Calls prog 280 #[Fe a,.int .i64 am] u fun e w'=>e=.returned (.bool (Ia a am))∧BW u w'):=fun u=>jN a am u hmm
 have HTB:Hid (E9 a day=true→a.day≤day∧day≤a.day+7):=fun h=>of_decide_eq_true h
 have HSB:Hid (Ia a am=true→1≤am∧am≤a.am+a.am / 10):=fun h=>of_decide_eq_true h
 rw [hq,Bool.true_and] at HV;clear hq hdd
 cases hu:a.used
 ·rw [hu,Bool.not_false,Bool.true_and] at HV
  cases hi:(a.iss != iY)
  ·have hi':decide (a.iss=iY)=true:=decide_eq_true (by simpa using hi)
   rw [hi',Bool.true_and] at HV
   cases hcu:(a.cur != uV)
   ·have hc':decide (a.cur=uV)=true:=decide_eq_true (by simpa using hcu)
    rw [hc',Bool.true_and] at HV
    cases ht:E9 a day
    ·have HE:Hid (Co a iY uV am day = -1):=HN.o (by rw [HV,ht];rfl)
     rw [ht] at HT;clear HV HN HY ht HS HTB HSB hi' hc';obtain ⟨r,i,c,m,d,u⟩:=a;unfold Fe at HO HT ⊢
     simp only at hW HO HT hu hi hcu hmm hdb ⊢
     subst hu;have HW:Hid _:=hW;obtain ⟨f0,f1,f2,f3,f4,f5⟩:=B;clear hW
     go_enter func251,ntmps251
     go_upto_region 1 with fail
     rw [← HW.o];go_wp2_with fail
     refine (HO.o _).mono ?_;rintro e u1 ⟨rfl,b1⟩;have B1:=HBB.o.below b1;have HB1:Hid (BW w u1):=next HBW.o b1;clear b1 f0 f1 f2 f3 f4 f5;obtain ⟨f0,f1,f2,f3,f4,f5⟩:=B1
     simp only at f0 f1 f2 f3 f4 f5
     go_wp2_with fail
     refine (HT.o _).mono ?_;rintro e u2 ⟨rfl,b2⟩;have HB2:Hid (BW w u2):=next HB1.o b2;clear b2 f0 f1 f2 f3 f4 f5;go_wp2;go_ret;exact ⟨Af HE.o.symm,HB2.o⟩
    ·rw [ht,Bool.true_and] at HV
     rw [ht] at HT;have htb:=HTB.o ht
     cases hs:Ia a am
     ·have HE:Hid (Co a iY uV am day = -1):=HN.o (by rw [HV,hs])
      rw [hs] at HS;clear HV HN HY ht HTB HSB hi' hc' hs htb;obtain ⟨r,i,c,m,d,u⟩:=a;unfold Fe at HO HT HS ⊢
      simp only at hW HO HT HS hu hi hcu hmm hdb ⊢
      subst hu;have HW:Hid _:=hW;obtain ⟨f0,f1,f2,f3,f4,f5⟩:=B;clear hW
      go_enter func251,ntmps251
      go_upto_region 1 with fail
      rw [← HW.o];go_wp2_with fail
      refine (HO.o _).mono ?_;rintro e u1 ⟨rfl,b1⟩;have B1:=HBB.o.below b1;have HBB1:Hid (Jo w.heap.size ⟨r,i,c,m,d,false⟩ u1):=B1;have HB1:Hid (BW w u1):=next HBW.o b1;clear b1 f0 f1 f2 f3 f4 f5;obtain ⟨f0,f1,f2,f3,f4,f5⟩:=B1
      simp only at f0 f1 f2 f3 f4 f5
      go_wp2_with fail
      refine (HT.o _).mono ?_;rintro e u2 ⟨rfl,b2⟩;have B2:=HBB1.o.below b2;have HB2:Hid (BW w u2):=next HB1.o b2;clear b2 f0 f1 f2 f3 f4 f5;obtain ⟨f0,f1,f2,f3,f4,f5⟩:=B2
      simp only at f0 f1 f2 f3 f4 f5
      go_wp2_with fail
      refine (HS.o _).mono ?_;rintro e u3 ⟨rfl,b3⟩;have HB3:Hid (BW w u3):=next HB2.o b3;clear b3 f0 f1 f2 f3 f4 f5;go_wp2;go_ret;exact ⟨Af HE.o.symm,HB3.o⟩
     ·have hsb:=HSB.o hs
      have HE:Hid (Co a iY uV am day=8*max (am - a.am) (-(am - a.am))+day - a.day):=by rw [Hid,HY.o (by rw [HV,hs]),pK]
      rw [hs] at HS
      have hmx:0≤max (am - a.am) (-(am - a.am))∧max (am - a.am) (-(am - a.am))≤100000000000:=by omega
      clear HV HN HY ht HTB HSB hi' hc' hs;obtain ⟨r,i,c,m,d,u⟩:=a;unfold Fe at HO HT HS ⊢
      simp only at hW HO HT HS hu hi hcu hmm hdb htb hsb HE hmx ⊢
      subst hu;have HW:Hid _:=hW;obtain ⟨f0,f1,f2,f3,f4,f5⟩:=B;clear hW
      go_enter func251,ntmps251
      go_upto_region 1 with fail
      rw [← HW.o];go_wp2_with fail
      refine (HO.o _).mono ?_;rintro e u1 ⟨rfl,b1⟩;have B1:=HBB.o.below b1;have HBB1:Hid (Jo w.heap.size ⟨r,i,c,m,d,false⟩ u1):=B1;have HB1:Hid (BW w u1):=next HBW.o b1;clear b1 f0 f1 f2 f3 f4 f5;obtain ⟨f0,f1,f2,f3,f4,f5⟩:=B1
      simp only at f0 f1 f2 f3 f4 f5
      go_wp2_with fail
      refine (HT.o _).mono ?_;rintro e u2 ⟨rfl,b2⟩;have B2:=HBB1.o.below b2;have HBB2:Hid (Jo w.heap.size ⟨r,i,c,m,d,false⟩ u2):=B2;have HB2:Hid (BW w u2):=next HB1.o b2;clear b2 f0 f1 f2 f3 f4 f5;obtain ⟨f0,f1,f2,f3,f4,f5⟩:=B2
      simp only at f0 f1 f2 f3 f4 f5
      go_wp2_with fail
      refine (HS.o _).mono ?_;rintro e u3 ⟨rfl,b3⟩;have B3:=HBB2.o.below b3;have HB3:Hid (BW w u3):=next HB2.o b3;clear b3 f0 f1 f2 f3 f4 f5;obtain ⟨f0,f1,f2,f3,f4,f5⟩:=B3
      simp only at f0 f1 f2 f3 f4 f5
      go_wp2;go_ret;exact ⟨Af HE.o.symm,HB3.o⟩
   ·have hc':decide (a.cur=uV)=false:=decide_eq_false (by simpa using hcu)
    have HE:Hid (Co a iY uV am day = -1):=HN.o (by rw [HV,hc'];rfl)
    clear HV HN HY HT HS HTB HSB hi' hc';obtain ⟨r,i,c,m,d,u⟩:=a;unfold Fe at HO ⊢
    simp only at hW HO hu hi hcu hmm hdb ⊢
    subst hu;have HW:Hid _:=hW;obtain ⟨f0,f1,f2,f3,f4,f5⟩:=B;clear hW
    go_enter func251,ntmps251
    go_upto_region 1 with fail
    rw [← HW.o];go_wp2_with fail
    refine (HO.o _).mono ?_;rintro e u1 ⟨rfl,b1⟩;have B1:=HBB.o.below b1;have HB1:Hid (BW w u1):=next HBW.o b1;clear b1 f0 f1 f2 f3 f4 f5;obtain ⟨f0,f1,f2,f3,f4,f5⟩:=B1
    simp only at f0 f1 f2 f3 f4 f5
    go_wp2;go_ret;exact ⟨Af HE.o.symm,HB1.o⟩
  ·have hi':decide (a.iss=iY)=false:=decide_eq_false (by simpa using hi)
   have HE:Hid (Co a iY uV am day = -1):=HN.o (by rw [HV,hi'];rfl)
   clear HV HN HY HT HS HTB HSB hi';obtain ⟨r,i,c,m,d,u⟩:=a;unfold Fe at HO ⊢
   simp only at hW HO hu hi hmm hdb ⊢
   subst hu;have HW:Hid _:=hW;obtain ⟨f0,f1,f2,f3,f4,f5⟩:=B;clear hW
   go_enter func251,ntmps251
   go_upto_region 1 with fail
   rw [← HW.o];go_wp2_with fail
   refine (HO.o _).mono ?_;rintro e u1 ⟨rfl,b1⟩;have B1:=HBB.o.below b1;have HB1:Hid (BW w u1):=next HBW.o b1;clear b1 f0 f1 f2 f3 f4 f5;obtain ⟨f0,f1,f2,f3,f4,f5⟩:=B1
   simp only at f0 f1 f2 f3 f4 f5
   go_wp2;go_ret;exact ⟨Af HE.o.symm,HB1.o⟩
 ·have HE:Hid (Co a iY uV am day = -1):=HN.o (by rw [HV,hu];rfl)
  clear HV HN HY HT HS HTB HSB;obtain ⟨r,i,c,m,d,u⟩:=a;unfold Fe at HO ⊢
  simp only at hW HO hu hmm hdb ⊢
  subst hu;have HW:Hid _:=hW;obtain ⟨f0,f1,f2,f3,f4,f5⟩:=B;clear hW
  go_enter func251,ntmps251
  go_upto_region 1 with fail
  rw [← HW.o];go_wp2_with fail
  refine (HO.o _).mono ?_;rintro e u1 ⟨rfl,b1⟩;have B1:=HBB.o.below b1;have HB1:Hid (BW w u1):=next HBW.o b1;clear b1 f0 f1 f2 f3 f4 f5;obtain ⟨f0,f1,f2,f3,f4,f5⟩:=B1
  simp only at f0 f1 f2 f3 f4 f5
  go_wp2;go_ret;exact ⟨Af HE.o.symm,HB1.o⟩
theorem T7 {x a b:Int} {q:Bool} (h:Gk x a b=q) (w:World):Calls prog 134 #[.int .i64 x,.int .i64 a,.int .i64 b] w fun e w'=>e=.returned (.bool q)∧w'=w:=by rw [← h];exact Dl x a b w
theorem Pe (a:Au) (w:World) (hl:a.ref.length≤1099511627776) :
  Calls prog 179 #[Fe a] w fun e w'=>e=.returned (.bool (Gy a))∧BW w w':=by
 obtain ⟨r,i,c,m,d,u⟩:=a
 simp only [Fe] at hl ⊢
 have HV:Hid (Gy ⟨r,i,c,m,d,u⟩=((decide (r.length=12) && A6 33 126 r) && (Cb i && (decide (0≤Dc c) && (decide (1≤m∧m≤100000000000) && Dn d))))):=rfl;obtain ⟨W,hW⟩:∃ W,w.alloc (.cells #[.string ⟨r.toArray⟩,.int .i64 i,.int .i64 c,.int .i64 m,.int .i64 d,.bool u] 107)=W:=⟨_,rfl⟩;have bW:BW w W:=hW ▸ bR.alloc nL _;have HBW:Hid (BW w W):=bW
 have c0:W.cell? ⟨w.heap.size,0,none⟩=some (.string ⟨r.toArray⟩):=by rw [← hW];simp
 have c1:W.cell? ⟨w.heap.size,1,none⟩=some (.int .i64 i):=by rw [← hW];simp
 have c2:W.cell? ⟨w.heap.size,2,none⟩=some (.int .i64 c):=by rw [← hW];simp
 have c3:W.cell? ⟨w.heap.size,3,none⟩=some (.int .i64 m):=by rw [← hW];simp
 have c4:W.cell? ⟨w.heap.size,4,none⟩=some (.int .i64 d):=by rw [← hW];simp
 have lW:w.heap.size<W.heap.size:=by rw [← hW];simp
 have HW:Hid _:=hW;clear hW bW
 go_enter func179,ntmps179
 go_wp2;rw [HW.o];clear HW
 go_loopw [3] (fun i wr=>∃ k:Nat,k≤r.length∧i=.int .i64 k∧A6 33 126 r=A6 33 126 (r.drop k)∧wr=W) (fun i _=>r.length - (intOf i).toNat)
 case atStart=>exact ⟨0,Nat.zero_le _,rfl,rfl,rfl⟩
 case round =>
  obtain ⟨k,hk,rfl,ht,hwr⟩:=hrel;subst hwr
  by_cases hlt:k<r.length
  ·have hki:(k:Int)<(r.length:Int):=by omega
   have hs:=Ic 33 126 r k hlt
   obtain ⟨b,hb⟩:∃ b,(⟨r.toArray⟩:ByteArray)[k]'(by rw [Fo];exact hlt)=b:=⟨_,rfl⟩
   rw [(Je r k hlt).trans hb,← Uu b 33 126] at hs;have HS:Hid _:=ht.trans hs;have hwc:=Su b;clear hs ht
   cases hin:Gk (b.toNat:Int) 33 126
   ·have HN:Hid (A6 33 126 r=false):=by rw [Hid,HS.o];simp [hin]
    clear HS;go_wp2_with fail
    refine (T7 hin _).mono ?_;rintro e w1 ⟨rfl,hw1⟩;subst hw1;go_wp2;go_ret
    exact ⟨Aa (by rw [HV.o,HN.o];simp),HBW.o⟩
   ·have HY:Hid (A6 33 126 r=A6 33 126 (r.drop (k+1))):=by rw [Hid,HS.o];simp [hin]
    clear HS;go_wp2_with fail
    refine (T7 hin _).mono ?_;rintro e w1 ⟨rfl,hw1⟩;subst hw1;go_wp2
    go_roundw
    case rel=>exact ⟨k+1,by omega,by go_num,HY.o,trivial⟩
    case measure=>simp [intOf];omega
  ·have hke:k=r.length:=by omega
   subst hke
   have HE:Hid (A6 33 126 r=true):=by rw [Hid,ht,I9]
   clear ht
   by_cases h12:r.length=12
   ·have hq:((r.length:Int) == 12)=true:=by simp [h12]
    have HV1:Hid (Gy ⟨r,i,c,m,d,u⟩=(Cb i && (decide (0≤Dc c) && (decide (1≤m∧m≤100000000000) && Dn d)))):=by rw [Hid,HV.o,HE.o,decide_eq_true h12];rfl
    clear h12 HV HE
    cases hi:Cb i
    ·go_wp2_with fail
     refine (Do hi _).mono ?_;rintro e w1 ⟨rfl,hw1⟩;subst hw1;go_wp2;go_ret
     exact ⟨Aa (by rw [HV1.o,hi];rfl),HBW.o⟩
    ·go_wp2_with fail
     refine (Do hi _).mono ?_;rintro e w1 ⟨rfl,hw1⟩;subst hw1;go_wp2_with fail
     refine (Ga c _).mono ?_;rintro e w2 ⟨rfl,b2⟩;have e3:w2.cell? ⟨w.heap.size,3,none⟩=some (.int .i64 m):=(b2.cell (p:=⟨w.heap.size,3,none⟩) lW).trans c3;have e4:w2.cell? ⟨w.heap.size,4,none⟩=some (.int .i64 d):=(b2.cell (p:=⟨w.heap.size,4,none⟩) lW).trans c4;have HB:Hid (BW w w2):=HBW.o.trans (b2.mono HBW.o.size);rw [hi] at HV1;clear c0 c1 c2 c3 c4 b2 HBW
     by_cases hd:0≤Dc c
     ·cases hin:Gk m 1 100000000000
      ·have HVV:Hid (Gy ⟨r,i,c,m,d,u⟩=false):=by
         have:decide (1≤m∧m≤100000000000)=false:=hin
         rw [Hid,HV1.o,decide_eq_true hd,this];rfl
       clear HV1
       generalize Dc c=g at hd
       go_wp2_with fail
       refine (T7 hin _).mono ?_;rintro e w3 ⟨rfl,hw3⟩;subst hw3;go_wp2;go_ret;exact ⟨Aa HVV.o.symm,HB.o⟩
      ·have HVV:Hid (Gy ⟨r,i,c,m,d,u⟩=Dn d):=by
         have:decide (1≤m∧m≤100000000000)=true:=hin
         rw [Hid,HV1.o,decide_eq_true hd,this];rfl
       clear HV1
       generalize Dc c=g at hd
       go_wp2_with fail
       refine (T7 hin _).mono ?_;rintro e w3 ⟨rfl,hw3⟩;subst hw3;go_wp2_with fail
       refine (A9 d _).mono ?_;rintro e w3 ⟨rfl,hw3⟩;subst hw3
       generalize Dn d=q at HVV
       go_wp2;go_ret;exact ⟨Aa HVV.o.symm,HB.o⟩
     ·have HVV:Hid (Gy ⟨r,i,c,m,d,u⟩=false):=by rw [Hid,HV1.o,decide_eq_false hd];rfl
      clear HV1
      generalize Dc c=g at hd
      go_wp2;go_ret;exact ⟨Aa HVV.o.symm,HB.o⟩
   ·have hq:((r.length:Int) == 12)=false:=by simp;omega
    have HV1:Hid (Gy ⟨r,i,c,m,d,u⟩=false):=by rw [Hid,HV.o,decide_eq_false h12];rfl
    clear h12 HV HE;go_wp2;go_ret;exact ⟨Aa HV1.o.symm,HBW.o⟩
theorem X6 (a:Au) (iY uV am day:Int) (w:World) (hl:a.ref.length≤1099511627776) (_w3:(Lit.int .i64 am).wf=true) (w4:(Lit.int .i64 day).wf=true) :
  Calls prog 218 #[Fe a,.int .i64 iY,.int .i64 uV,.int .i64 am,.int .i64 day] w fun e w'=>e=.returned (.int .i64 (Co a iY uV am day))∧BW w w':=by
 have hday:=cL w4;have HV:=lP a iY uV am day;obtain ⟨q,hq⟩:∃ q,Gy a=q:=⟨_,rfl⟩
 have HO:Hid (∀ u,Calls prog 179 #[Fe a] u fun e w'=>e=.returned (.bool q)∧BW u w'):=fun u=>by rw [← hq];exact Pe a u hl
 have HN:Hid (Xr a iY uV am day=false→Co a iY uV am day = -1):=Vt;have HY:Hid (Xr a iY uV am day=true→Co a iY uV am day=8*Ue (am - a.am)+day - a.day):=Tj;obtain ⟨W,hW⟩:∃ W,W=w.alloc (.cells #[.string ⟨a.ref.toArray⟩,.int .i64 a.iss,.int .i64 a.cur,.int .i64 a.am,.int .i64 a.day,.bool a.used] 107):=⟨_,rfl⟩
 have B:Jo w.heap.size a W:=by rw [hW];exact Jo.new w a _
 have HBB:Hid (Jo w.heap.size a W):=B
 have bW:BW w W:=by rw [hW];exact bR.alloc nL _
 have HBW:Hid (BW w W):=bW;clear bW _w3 w4
 cases q
 ·have HE:Hid (Co a iY uV am day = -1):=HN.o (by rw [HV,hq];rfl)
  clear HV HN HY hq;obtain ⟨r,i,c,m,d,u⟩:=a;unfold Fe at HO ⊢
  simp only at hW HO  ⊢
  have HW:Hid _:=hW;obtain ⟨f0,f1,f2,f3,f4,f5⟩:=B;clear hW
  go_enter func218,ntmps218
  go_upto_region 1 with fail
  rw [← HW.o];go_wp2_with fail
  refine (HO.o _).mono ?_;rintro e u1 ⟨rfl,b1⟩;have B1:=HBB.o.below b1;have HB1:Hid (BW w u1):=next HBW.o b1;clear b1 f0 f1 f2 f3 f4 f5;obtain ⟨f0,f1,f2,f3,f4,f5⟩:=B1
  simp only at f0 f1 f2 f3 f4 f5
  go_wp2;go_ret;exact ⟨Af HE.o.symm,HB1.o⟩
 obtain ⟨-,-,-,hmm,hdd⟩:=L0 hq;have hdb:=Ei hdd
 have HTB:Hid (E9 a day=true→a.day≤day∧day≤a.day+7):=fun h=>of_decide_eq_true h
 have HSB:Hid (Ia a am=true→1≤am∧am≤a.am+a.am / 10):=fun h=>of_decide_eq_true h
 have HT:Hid (∀ u,Calls prog 134 #[.int .i64 day,.int .i64 a.day,.int .i64 (a.day+7)] u fun e w'=>e=.returned (.bool (E9 a day))∧w'=u):=fun u=>Dl day a.day (a.day+7) u
 have HS:Hid (∀ u,Calls prog 134 #[.int .i64 am,.int .i64 1,.int .i64 (a.am+a.am / 10)] u fun e w'=>e=.returned (.bool (Ia a am))∧w'=u):=fun u=>Dl am 1 (a.am+a.am / 10) u
 have hq10:a.am.tdiv 10=a.am / 10:=Int.tdiv_eq_ediv_of_nonneg (by omega)
 rw [hq,Bool.true_and] at HV;clear hq hdd
 cases hu:a.used
 ·rw [hu,Bool.not_false,Bool.true_and] at HV
  cases hi:(a.iss != iY)
  ·have hi':decide (a.iss=iY)=true:=decide_eq_true (by simpa using hi)
   rw [hi',Bool.true_and] at HV
   cases hcu:(a.cur != uV)
   ·have hc':decide (a.cur=uV)=true:=decide_eq_true (by simpa using hcu)
    rw [hc',Bool.true_and] at HV
    cases ht:E9 a day
    ·have HE:Hid (Co a iY uV am day = -1):=HN.o (by rw [HV,ht];rfl)
     rw [ht] at HT;clear HV HN HY ht HS HTB HSB hi' hc' hq10;obtain ⟨r,i,c,m,d,u⟩:=a;unfold Fe at HO ⊢
     simp only at hW HO HT hu hi hcu hmm hdb ⊢
     subst hu;have HW:Hid _:=hW;obtain ⟨f0,f1,f2,f3,f4,f5⟩:=B;clear hW
     go_enter func218,ntmps218
     go_upto_region 1 with fail
     rw [← HW.o];go_wp2_with fail
     refine (HO.o _).mono ?_;rintro e u1 ⟨rfl,b1⟩;have B1:=HBB.o.below b1;have HB1:Hid (BW w u1):=next HBW.o b1;clear b1 f0 f1 f2 f3 f4 f5;obtain ⟨f0,f1,f2,f3,f4,f5⟩:=B1
     simp only at f0 f1 f2 f3 f4 f5
     go_wp2_with fail
     refine (HT.o _).mono ?_;rintro e u2 ⟨rfl,hu2⟩;subst hu2;go_wp2;go_ret;exact ⟨Af HE.o.symm,HB1.o⟩
    ·rw [ht,Bool.true_and] at HV
     rw [ht] at HT;have htb:=HTB.o ht
     cases hs:Ia a am
     ·have HE:Hid (Co a iY uV am day = -1):=HN.o (by rw [HV,hs])
      rw [hs] at HS;clear HV HN HY ht HTB HSB hi' hc' hs htb;obtain ⟨tt,htt⟩:∃ t,a.am / 10=t:=⟨_,rfl⟩
      have ht1:0≤tt∧tt≤10000000000:=by omega
      rw [htt] at HS hq10;clear htt;obtain ⟨r,i,c,m,d,u⟩:=a;unfold Fe at HO ⊢
      simp only at hW HO HT HS hu hi hcu hmm hdb hq10 ⊢
      subst hu;have HW:Hid _:=hW;obtain ⟨f0,f1,f2,f3,f4,f5⟩:=B;clear hW
      go_enter func218,ntmps218
      go_upto_region 1 with fail
      rw [← HW.o];go_wp2_with fail
      refine (HO.o _).mono ?_;rintro e u1 ⟨rfl,b1⟩;have B1:=HBB.o.below b1;have HB1:Hid (BW w u1):=next HBW.o b1;clear b1 f0 f1 f2 f3 f4 f5;obtain ⟨f0,f1,f2,f3,f4,f5⟩:=B1
      simp only at f0 f1 f2 f3 f4 f5
      go_wp2_with fail
      refine (HT.o _).mono ?_;rintro e u2 ⟨rfl,hu2⟩;subst hu2;go_wp2_with fail
      refine (HS.o _).mono ?_;rintro e u2 ⟨rfl,hu2⟩;subst hu2;go_wp2;go_ret;exact ⟨Af HE.o.symm,HB1.o⟩
     ·have hsb:=HSB.o hs
      rw [hs] at HS
      have HEE:Hid (Co a iY uV am day=8*Ue (am - a.am)+day - a.day):=by rw [Hid,HY.o (by rw [HV,hs])]
      clear HV HN HY ht HTB HSB hi' hc' hs;obtain ⟨tt,htt⟩:∃ t,a.am / 10=t:=⟨_,rfl⟩
      have ht1:0≤tt∧tt≤10000000000:=by omega
      rw [htt] at HS hq10 hsb;clear htt
      by_cases hng:am - a.am<0
      ·have HE:Hid (Co a iY uV am day=8 * (-(am - a.am))+day - a.day):=by rw [Hid,HEE.o,Ue,if_pos hng]
       clear HEE;obtain ⟨r,i,c,m,d,u⟩:=a;unfold Fe at HO ⊢
       simp only at hW HO HT HS HE hu hi hcu hmm hdb htb hsb hq10 hng ⊢
       subst hu;have HW:Hid _:=hW;obtain ⟨f0,f1,f2,f3,f4,f5⟩:=B;clear hW
       go_enter func218,ntmps218
       go_upto_region 1 with fail
       rw [← HW.o];go_wp2_with fail
       refine (HO.o _).mono ?_;rintro e u1 ⟨rfl,b1⟩;have B1:=HBB.o.below b1;have HB1:Hid (BW w u1):=next HBW.o b1;clear b1 f0 f1 f2 f3 f4 f5;obtain ⟨f0,f1,f2,f3,f4,f5⟩:=B1
       simp only at f0 f1 f2 f3 f4 f5
       go_wp2_with fail
       refine (HT.o _).mono ?_;rintro e u2 ⟨rfl,hu2⟩;subst hu2;go_wp2_with fail
       refine (HS.o _).mono ?_;rintro e u2 ⟨rfl,hu2⟩;subst hu2;go_wp2;go_ret;exact ⟨Af HE.o.symm,HB1.o⟩
      ·have HE:Hid (Co a iY uV am day=8 * (am - a.am)+day - a.day):=by rw [Hid,HEE.o,Ue,if_neg hng]
       clear HEE;obtain ⟨r,i,c,m,d,u⟩:=a;unfold Fe at HO ⊢
       simp only at hW HO HT HS HE hu hi hcu hmm hdb htb hsb hq10 hng ⊢
       subst hu;have HW:Hid _:=hW;obtain ⟨f0,f1,f2,f3,f4,f5⟩:=B;clear hW
       go_enter func218,ntmps218
       go_upto_region 1 with fail
       rw [← HW.o];go_wp2_with fail
       refine (HO.o _).mono ?_;rintro e u1 ⟨rfl,b1⟩;have B1:=HBB.o.below b1;have HB1:Hid (BW w u1):=next HBW.o b1;clear b1 f0 f1 f2 f3 f4 f5;obtain ⟨f0,f1,f2,f3,f4,f5⟩:=B1
       simp only at f0 f1 f2 f3 f4 f5
       go_wp2_with fail
       refine (HT.o _).mono ?_;rintro e u2 ⟨rfl,hu2⟩;subst hu2;go_wp2_with fail
       refine (HS.o _).mono ?_;rintro e u2 ⟨rfl,hu2⟩;subst hu2;go_wp2;go_ret;exact ⟨Af HE.o.symm,HB1.o⟩
   ·have hc':decide (a.cur=uV)=false:=decide_eq_false (by simpa using hcu)
    have HE:Hid (Co a iY uV am day = -1):=HN.o (by rw [HV,hc'];rfl)
    clear HV HN HY HT HS HTB HSB hi' hc' hq10;obtain ⟨r,i,c,m,d,u⟩:=a;unfold Fe at HO ⊢
    simp only at hW HO hu hi hcu hmm hdb ⊢
    subst hu;have HW:Hid _:=hW;obtain ⟨f0,f1,f2,f3,f4,f5⟩:=B;clear hW
    go_enter func218,ntmps218
    go_upto_region 1 with fail
    rw [← HW.o];go_wp2_with fail
    refine (HO.o _).mono ?_;rintro e u1 ⟨rfl,b1⟩;have B1:=HBB.o.below b1;have HB1:Hid (BW w u1):=next HBW.o b1;clear b1 f0 f1 f2 f3 f4 f5;obtain ⟨f0,f1,f2,f3,f4,f5⟩:=B1
    simp only at f0 f1 f2 f3 f4 f5
    go_wp2;go_ret;exact ⟨Af HE.o.symm,HB1.o⟩
  ·have hi':decide (a.iss=iY)=false:=decide_eq_false (by simpa using hi)
   have HE:Hid (Co a iY uV am day = -1):=HN.o (by rw [HV,hi'];rfl)
   clear HV HN HY HT HS HTB HSB hi' hq10;obtain ⟨r,i,c,m,d,u⟩:=a;unfold Fe at HO ⊢
   simp only at hW HO hu hi hmm hdb ⊢
   subst hu;have HW:Hid _:=hW;obtain ⟨f0,f1,f2,f3,f4,f5⟩:=B;clear hW
   go_enter func218,ntmps218
   go_upto_region 1 with fail
   rw [← HW.o];go_wp2_with fail
   refine (HO.o _).mono ?_;rintro e u1 ⟨rfl,b1⟩;have B1:=HBB.o.below b1;have HB1:Hid (BW w u1):=next HBW.o b1;clear b1 f0 f1 f2 f3 f4 f5;obtain ⟨f0,f1,f2,f3,f4,f5⟩:=B1
   simp only at f0 f1 f2 f3 f4 f5
   go_wp2;go_ret;exact ⟨Af HE.o.symm,HB1.o⟩
 ·have HE:Hid (Co a iY uV am day = -1):=HN.o (by rw [HV,hu];rfl)
  clear HV HN HY HT HS HTB HSB hq10;obtain ⟨r,i,c,m,d,u⟩:=a;unfold Fe at HO ⊢
  simp only at hW HO hu hmm hdb ⊢
  subst hu;have HW:Hid _:=hW;obtain ⟨f0,f1,f2,f3,f4,f5⟩:=B;clear hW
  go_enter func218,ntmps218
  go_upto_region 1 with fail
  rw [← HW.o];go_wp2_with fail
  refine (HO.o _).mono ?_;rintro e u1 ⟨rfl,b1⟩;have B1:=HBB.o.below b1;have HB1:Hid (BW w u1):=next HBW.o b1;clear b1 f0 f1 f2 f3 f4 f5;obtain ⟨f0,f1,f2,f3,f4,f5⟩:=B1
  simp only at f0 f1 f2 f3 f4 f5
  go_wp2;go_ret;exact ⟨Af HE.o.symm,HB1.o⟩
def scA (az:List Au) (iY uV am day:Int) (k:Nat):Int:=Co (Ak az k) iY uV am day
def Gm (az:List Au) (iY uV am day x:Int):Prop:=(az.length≤100∧Io (scA az iY uV am day) az.length x)∨(100<az.length∧x = -1)
theorem Zr {az:List Au} {iY uV am day x y:Int} (h:Gm az iY uV am day x) (g:Gm az iY uV am day y):x=y:=by
 rcases h with ⟨h1,h⟩ | ⟨h1,rfl⟩
 ·rcases g with ⟨_,g⟩ | ⟨g1,_⟩
  ·exact kD h g
  ·omega
 ·rcases g with ⟨g1,_⟩ | ⟨_,rfl⟩
  ·omega
  ·rfl
theorem eR (ao:Option Addr) (cap:Nat) (az:List Au) (iY uV am day:Int) (w:World) (hz:Ar w ao az) (hn:az.length≤1048576) (hd:∀ a ∈ az,a.ref.length≤1099511627776) (w3:(Lit.int .i64 am).wf=true) (w4:(Lit.int .i64 day).wf=true) :
  Calls prog 180 #[.slice ao az.length cap,.int .i64 iY,.int .i64 uV,.int .i64 am,.int .i64 day] w fun e w'=>∃ x,e=.returned (.int .i64 x)∧Gm az iY uV am day x∧BW w w':=by
 by_cases hb:100<az.length
 ·have hb':(100:Int)<(az.length:Int):=by omega
  have h0:(0:Int)<(az.length:Int):=by omega
  go_enter func180,ntmps180
  go_wp2;refine wp_loop_rounds 1 ?_;rw [rounds_succ];go_wp2;go_ret;exact ⟨_,rfl,.inr ⟨hb,rfl⟩,bR⟩
 have hb':(az.length:Int)≤100:=by omega
 have HSC:Hid (∀ k,k<az.length→∀ u,Calls prog 218 #[Fe (Ak az k),.int .i64 iY,.int .i64 uV,.int .i64 am,.int .i64 day] u fun e w'=>e=.returned (.int .i64 (scA az iY uV am day k))∧BW u w'):=fun k hk u=>X6 _ iY uV am day u (hd _ (J8 hk)) w3 w4
 obtain ⟨sc,hsc⟩:∃ f,scA az iY uV am day=f:=⟨_,rfl⟩
 have HBA:Hid (∀ x,Io sc az.length x→Gm az iY uV am day x):=fun x hx=>.inl ⟨by omega,by rw [hsc];exact hx⟩
 rw [hsc] at HSC;clear hsc hd w3 w4
 go_enter func180,ntmps180
 go_wp2
 go_loopw [11,12,13,14] (fun b t i _ wr=>∃ (k:Nat) (x y:Int),k≤az.length∧i=.int .i64 k∧t=.int .i64 x∧b=.int .i64 y∧Io sc k x∧(x = -1∨∃ j:Nat,x=(j:Int)∧y=sc j)∧BW w wr) (fun _ _ i _ _=>az.length - (intOf i).toNat)
 case atStart=>exact ⟨0,-1,-1,Nat.zero_le _,rfl,rfl,rfl,.inl ⟨rfl,fun k hk=>by omega⟩,.inl rfl,bR⟩
 case round =>
  obtain ⟨k,x,y,hk,rfl,rfl,rfl,hbest,hxy,hbr⟩:=hrel;have HBE:Hid (Io sc k x):=hbest;have HB:Hid (BW w wr):=hbr;have HXY:Hid (x = -1∨∃ j:Nat,x=(j:Int)∧y=sc j):=hxy;clear hbest hxy
  by_cases hlt:k<az.length
  ·rcases hz with h0 | ⟨b,off,rfl,hbz,hcell⟩
   ·rw [h0] at hlt;simp at hlt
   have HCL:Hid (∀ i,i<az.length→w.cell? ⟨b,off+i*6,none⟩=some (.string ⟨(Ak az i).ref.toArray⟩)∧w.cell? ⟨b,off+i*6+1,none⟩=some (.int .i64 (Ak az i).iss)∧w.cell? ⟨b,off+i*6+2,none⟩=some (.int .i64 (Ak az i).cur)∧w.cell? ⟨b,off+i*6+3,none⟩=some (.int .i64 (Ak az i).am)∧w.cell? ⟨b,off+i*6+4,none⟩=some (.int .i64 (Ak az i).day)∧w.cell? ⟨b,off+i*6+5,none⟩=some (.bool (Ak az i).used)):=hcell;have x0:wr.cell? ⟨b,off+k*6,none⟩=some (.string ⟨(Ak az k).ref.toArray⟩):=(hbr.cell (p:=⟨b,off+k*6,none⟩) hbz).trans (HCL.o k hlt).1;have x1:wr.cell? ⟨b,off+k*6+1,none⟩=some (.int .i64 (Ak az k).iss):=(hbr.cell (p:=⟨b,off+k*6+1,none⟩) hbz).trans (HCL.o k hlt).2.1;have x2:wr.cell? ⟨b,off+k*6+2,none⟩=some (.int .i64 (Ak az k).cur):=(hbr.cell (p:=⟨b,off+k*6+2,none⟩) hbz).trans (HCL.o k hlt).2.2.1;have x3:wr.cell? ⟨b,off+k*6+3,none⟩=some (.int .i64 (Ak az k).am):=(hbr.cell (p:=⟨b,off+k*6+3,none⟩) hbz).trans (HCL.o k hlt).2.2.2.1;have x4:wr.cell? ⟨b,off+k*6+4,none⟩=some (.int .i64 (Ak az k).day):=(hbr.cell (p:=⟨b,off+k*6+4,none⟩) hbz).trans (HCL.o k hlt).2.2.2.2.1;have x5:wr.cell? ⟨b,off+k*6+5,none⟩=some (.bool (Ak az k).used):=(hbr.cell (p:=⟨b,off+k*6+5,none⟩) hbz).trans (HCL.o k hlt).2.2.2.2.2
   have hki:(k:Int)<(az.length:Int):=by omega
   have HSK:Hid (∀ u,Calls prog 218 #[Fe (Ak az k),.int .i64 iY,.int .i64 uV,.int .i64 am,.int .i64 day] u fun e w'=>e=.returned (.int .i64 (sc k))∧BW u w'):=HSC.o k hlt
   obtain ⟨⟨r,i,c,m,d,u⟩,hf⟩:∃ a,Ak az k=a:=⟨_,rfl⟩;rw [hf] at x0 x1 x2 x3 x4 x5 HSK;unfold Fe at HSK
   simp only at x0 x1 x2 x3 x4 x5 HSK
   clear hf hcell hbr;go_wp2_with fail
   refine (HSK.o _).mono ?_;rintro e u2 ⟨rfl,b2⟩;have HB2:Hid (BW w u2):=HB.o.trans (b2.mono HB.o.size);clear b2 x0 x1 x2 x3 x4 x5 HSK
   by_cases hs:0≤sc k
   ·rcases HXY.o with hx | ⟨j,hx,hy⟩
    ·subst hx
     have HN:Hid (Io sc (k+1) (k:Int)):=Yv HBE.o hs;have HSE:Hid (∃ j:Nat,(k:Int)=(j:Int)∧sc k=sc j):=⟨k,rfl,rfl⟩
     generalize sc k=s at hs HSE
     go_wp2
     go_roundw
     case rel=>exact ⟨k+1,k,s,by omega,by go_num,rfl,rfl,HN.o,.inr HSE.o,HB2.o⟩
     case measure=>simp [intOf];omega
    ·subst hx
     have hj0:¬ (j:Int)<0:=by omega
     by_cases hl:sc k<y
     ·have HN:Hid (Io sc (k+1) (k:Int)):=mK HBE.o hs (by rw [← hy];exact hl)
      have HSE:Hid (∃ j:Nat,(k:Int)=(j:Int)∧sc k=sc j):=⟨k,rfl,rfl⟩;clear hy
      generalize sc k=s at hs HSE hl
      go_wp2
      go_roundw
      case rel=>exact ⟨k+1,k,s,by omega,by go_num,rfl,rfl,HN.o,.inr HSE.o,HB2.o⟩
      case measure=>simp [intOf];omega
     ·have HN:Hid (Io sc (k+1) (j:Int)):=jH HBE.o (by rw [← hy];exact hl)
      have HSE:Hid (∃ i:Nat,(j:Int)=(i:Int)∧y=sc i):=⟨j,rfl,hy⟩;clear hy
      generalize sc k=s at hs hl
      go_wp2
      go_roundw
      case rel=>exact ⟨k+1,j,y,by omega,by go_num,rfl,rfl,HN.o,.inr HSE.o,HB2.o⟩
      case measure=>simp [intOf];omega
   ·have HN:Hid (Io sc (k+1) x):=gK HBE.o (by omega)
    generalize sc k=s at hs
    go_wp2
    go_roundw
    case rel=>exact ⟨k+1,x,y,by omega,by go_num,rfl,rfl,HN.o,HXY.o,HB2.o⟩
    case measure=>simp [intOf];omega
  ·have hke:k=az.length:=by omega
   subst hke;have HR:Hid (Gm az iY uV am day x):=HBA.o _ HBE.o;go_wp2;go_ret;exact ⟨_,rfl,HR.o,HB.o⟩
def txF:ByteArray:=⟨#[102,114,97,117,100]⟩
def txN:ByteArray:=⟨#[110,111,110,101]⟩
def txT:ByteArray:=⟨#[116,119,105,99,101]⟩
def txA:ByteArray:=⟨#[97,109,111,117,110,116]⟩
def txQ:ByteArray:=⟨#[113,117,97,108,105,116,121]⟩
def txC:ByteArray:=⟨#[99,97,110,99,101,108,108,101,100]⟩
def oB (x:Int):ByteArray:=if x=4837 then txF else if x=4855 then txN else if x=4834 then txT else if x=4831 then txA else if x=4853 then txQ else if x=4841 then txC else ⟨#[]⟩
def rD0 (x:Int):Int:=if x=4837 then 85 else if x=4855 then 65 else if x=4834 then 45 else if x=4831 then 45 else if x=4853 then 65 else if x=4841 then 45 else 0
theorem qQ {x:Int} (h:x≠4837∧x≠4855∧x≠4834∧x≠4831∧x≠4853∧x≠4841):rD0 x=0:=by simp [rD0,h]
theorem oK {x:Int} (h:x≠4837∧x≠4855∧x≠4834∧x≠4831∧x≠4853∧x≠4841):oB x=⟨#[]⟩:=by simp [oB,h]
theorem oT {x:Int} (h:Oy x=true):rD0 x=Fs x:=by
 rcases K7 x with rfl | rfl | rfl | rfl | rfl | rfl | h'
 iterate 6 rfl
 rw [Up h'] at h;cases h
theorem S4 {x:Int} (h:Oy x=false):Fs x = -1:=by
 rcases K7 x with rfl | rfl | rfl | rfl | rfl | rfl | h'
 iterate 6 cases h
 exact jX h'
theorem Ay {a b:Int} (h:a≠b):(a == b)=false:=by simpa using h
theorem Fn (x:Int) (w:World) :
  Calls prog 328 #[.int .i64 x] w fun e w'=>e=.returned (.tuple #[.agg #[.string (oB x),.int .i64 (rD0 x),.bool (Gb x),.bool (E8 x)],.bool (Oy x)])∧BW w w':=by
 rcases K7 x with rfl | rfl | rfl | rfl | rfl | rfl | h
 iterate 6
  ·go_enter func328,ntmps328
   go_wp2
   go_returns
   exact ⟨rfl,by go_grown⟩
 ·have HV:Hid (Ending.returned (.tuple #[.agg #[.string (oB x),.int .i64 (rD0 x),.bool (Gb x),.bool (E8 x)],.bool (Oy x)])=.returned (.tuple #[.agg #[.string ⟨#[]⟩,.int .i64 0,.bool false,.bool false],.bool false])):=by
    rw [Hid,oK h,qQ h,mD h,gS h,Up h]
  obtain ⟨h1,h2,h3,h4,h5,h6⟩:=h;have g1:=Ay h1;have g2:=Ay h2;have g3:=Ay h3;have g4:=Ay h4;have g5:=Ay h5;have g6:=Ay h6;clear h1 h2 h3 h4 h5 h6
  go_enter func328,ntmps328
  go_wp2
  go_returns
  exact ⟨HV.o.symm,by go_grown⟩
theorem Rg (x:Int) (w:World) :
  Calls prog 312 #[.int .i64 x] w fun e w'=>e=.returned (.bool (Oy x))∧BW w w':=by
 go_enter func312,ntmps312
 go_wp2_with fail
 refine (Fn x _).mono ?_;rintro e w1 ⟨rfl,b1⟩;go_wp2;go_ret;exact ⟨rfl,b1.alloc b1.size _⟩
theorem X7 (x:Int) (w:World) :
  Calls prog 335 #[.int .i64 x] w fun e w'=>e=.returned (.int .i64 (Fs x))∧BW w w':=by
 cases h:Oy x
 ·have HV:Hid _:=S4 h
  go_enter func335,ntmps335
  go_wp2_with fail
  refine (Fn x _).mono ?_;rintro e w1 ⟨rfl,b1⟩;go_wp2;go_ret;exact ⟨Af HV.o.symm,b1.alloc b1.size _⟩
 ·have HV:Hid _:=oT h
  go_enter func335,ntmps335
  go_wp2_with fail
  refine (Fn x _).mono ?_;rintro e w1 ⟨rfl,b1⟩;go_wp2;go_ret;exact ⟨Af HV.o,b1.alloc b1.size _⟩
theorem X0 (x:Int) (w:World) :
  Calls prog 334 #[.int .i64 x] w fun e w'=>e=.returned (.bool (Gb x))∧BW w w':=by
 go_enter func334,ntmps334
 go_wp2_with fail
 refine (Fn x _).mono ?_;rintro e w1 ⟨rfl,b1⟩;go_wp2;go_ret;exact ⟨rfl,b1.alloc b1.size _⟩
theorem Xc (x:Int) (w:World) :
  Calls prog 332 #[.int .i64 x] w fun e w'=>e=.returned (.bool (E8 x))∧BW w w':=by
 go_enter func332,ntmps332
 go_wp2_with fail
 refine (Fn x _).mono ?_;rintro e w1 ⟨rfl,b1⟩;go_wp2;go_ret;exact ⟨rfl,b1.alloc b1.size _⟩
def rL:List Int:=[4837,4855,4834,4831,4853,4841]
def pX (x:Int):Int:=if x=4837 then 0 else if x=4855 then 1 else if x=4834 then 2 else if x=4831 then 3 else if x=4853 then 4 else if x=4841 then 5 else -1
theorem X5 {x:Int} (h:x≠4837∧x≠4855∧x≠4834∧x≠4831∧x≠4853∧x≠4841):pX x = -1:=by simp [pX,h]
theorem rR (x:Int):decide (0≤pX x)=Oy x:=by
 rcases K7 x with rfl | rfl | rfl | rfl | rfl | rfl | h'
 iterate 6 rfl
 rw [X5 h',Up h'];rfl
theorem sU {x:Int} {k:Nat} (hk:k<6) (h:rL.getD k 0=x):pX x=k:=by
 rcases (show k=0∨k=1∨k=2∨k=3∨k=4∨k=5 by omega) with rfl | rfl | rfl | rfl | rfl | rfl <;> (subst h;rfl)
theorem oX {x:Int} (h:∀ j,j<6→rL.getD j 0≠x):pX x = -1:=by
 have h0:=h 0 (by omega)
 have h1:=h 1 (by omega)
 have h2:=h 2 (by omega)
 have h3:=h 3 (by omega)
 have h4:=h 4 (by omega)
 have h5:=h 5 (by omega)
 simp [rL] at h0 h1 h2 h3 h4 h5
 exact X5 ⟨by omega,by omega,by omega,by omega,by omega,by omega⟩
theorem Ud (x:Int) (w:World) :
  Calls prog 298 #[.int .i64 x] w fun e w'=>e=.returned (.int .i64 (pX x))∧BW w w':=by
 have hcA:∀ k,k<6→(w.alloc (.cells #[.int .i64 4837,.int .i64 4855,.int .i64 4834,.int .i64 4831,.int .i64 4853,.int .i64 4841] 3)).cell? ⟨w.heap.size,k,none⟩=some (.int .i64 (rL.getD k 0)):=by
  intro k hk
  rcases (show k=0∨k=1∨k=2∨k=3∨k=4∨k=5 by omega) with rfl | rfl | rfl | rfl | rfl | rfl <;> simp [rL]
 have hbel:Below w.heap.size w (w.alloc (.cells #[.int .i64 4837,.int .i64 4855,.int .i64 4834,.int .i64 4831,.int .i64 4853,.int .i64 4841] 3)):=bR.alloc nL _
 go_enter func298,ntmps298
 go_wp2
 go_loop [4] (fun i=>∃ k:Nat,k≤6∧i=.int .i64 k∧∀ j,j<k→rL.getD j 0≠x) (fun i=>6 - (intOf i).toNat)
 case atStart=>exact ⟨0,by omega,rfl,fun j hj=>by omega⟩
 case round =>
  obtain ⟨k,hk,rfl,hno⟩:=hrel;have HN:Hid (∀ j,j<k→rL.getD j 0≠x):=hno;clear hno
  by_cases hlt:k<6
  ·have a1:=hcA k hlt
   clear hcA;obtain ⟨c,hc⟩:∃ c,rL.getD k 0=c:=⟨_,rfl⟩;rw [hc] at a1;have HC:Hid (rL.getD k 0=c):=hc;clear hc
   cases he:(c == x)
   ·have HE:Hid (rL.getD k 0≠x):=by rw [HC.o];simpa [Hid] using he
    go_wp2
    go_round
    case rel=>exact ⟨k+1,by omega,by go_num,fun j hj=>by rcases (show j<k∨j=k from by omega) with h | rfl;exact HN.o j h;exact HE.o⟩
    case measure=>simp [intOf];omega
   ·have HE:Hid (rL.getD k 0=x):=by rw [HC.o];simpa [Hid] using he
    go_wp2;go_ret;exact ⟨Af (sU hlt HE.o).symm,hbel⟩
  ·have:k=6:=by omega
   subst this;clear hcA;go_wp2;go_ret;exact ⟨Af (oX HN.o).symm,hbel⟩
theorem V7 (x:Int) (w:World) :
  Calls prog 259 #[.int .i64 x] w fun e w'=>e=.returned (.bool (Oy x))∧BW w w':=by
 have HV:Hid _:=rR x
 go_enter func259,ntmps259
 go_wp2_with fail
 refine (Ud x _).mono ?_;rintro e w1 ⟨rfl,b1⟩;go_wp2;go_ret;exact ⟨Aa HV.o,b1⟩
theorem aT (x:Int) (w:World) :
  Calls prog 301 #[.int .i64 x] w fun e w'=>e=.returned (.bool (Gb x))∧w'=w:=by
 obtain ⟨p,hp⟩:∃ p,(x == 4831)=p:=⟨_,rfl⟩
 have HV:Hid (Gb x=(p || x == 4853)):=by rw [Hid,Gb,hp]
 cases p
 ·go_enter func301,ntmps301
  go_wp2;go_ret
  exact ⟨Aa (by rw [HV.o];rfl),rfl⟩
 ·go_enter func301,ntmps301
  go_wp2;go_ret
  exact ⟨Aa (by rw [HV.o];rfl),rfl⟩
theorem Wt (x:Int) (w:World) :
  Calls prog 300 #[.int .i64 x] w fun e w'=>e=.returned (.bool (E8 x))∧w'=w:=by
 obtain ⟨p,hp⟩:∃ p,(x == 4837)=p:=⟨_,rfl⟩
 have HV:Hid (E8 x=(p || x == 4834)):=by rw [Hid,E8,hp]
 cases p
 ·go_enter func300,ntmps300
  go_wp2;go_ret
  exact ⟨Aa (by rw [HV.o];rfl),rfl⟩
 ·go_enter func300,ntmps300
  go_wp2;go_ret
  exact ⟨Aa (by rw [HV.o];rfl),rfl⟩
theorem lA {x:Int} (h:Oy x=true):∃ k:Nat,k<6∧pX x=k∧Fs x=([85,65,45,45,65,45]:List Int).getD k 0:=by
 rcases K7 x with rfl | rfl | rfl | rfl | rfl | rfl | h'
 ·exact ⟨0,by decide,rfl,rfl⟩
 ·exact ⟨1,by decide,rfl,rfl⟩
 ·exact ⟨2,by decide,rfl,rfl⟩
 ·exact ⟨3,by decide,rfl,rfl⟩
 ·exact ⟨4,by decide,rfl,rfl⟩
 ·exact ⟨5,by decide,rfl,rfl⟩
 ·rw [Up h'] at h;cases h
theorem Xy (x:Int) (w:World) :
  Calls prog 302 #[.int .i64 x] w fun e w'=>e=.returned (.int .i64 (Fs x))∧BW w w':=by
 cases h:Oy x
 ·have HV:Hid _:=S4 h
  have hA:pX x = -1:=by
   rcases K7 x with rfl | rfl | rfl | rfl | rfl | rfl | h'
   iterate 6 cases h
   exact X5 h'
  have HA:Hid _:=hA;clear hA
  go_enter func302,ntmps302
  go_wp2_with fail
  refine (Ud x _).mono ?_;rintro e w1 ⟨rfl,b1⟩;rw [HA.o];go_wp2;go_ret;exact ⟨Af HV.o.symm,b1⟩
 ·obtain ⟨k,hk,hA,hD⟩:=lA h
  have HA:Hid _:=hA;have HD:Hid _:=hD;clear hA hD
  go_enter func302,ntmps302
  go_wp2_with fail
  refine (Ud x _).mono ?_;rintro e w1 ⟨rfl,b1⟩;rw [HA.o];have bel:Below w.heap.size w (w1.alloc (.cells #[.int .i64 85,.int .i64 65,.int .i64 45,.int .i64 45,.int .i64 65,.int .i64 45] 3)):=b1.alloc b1.size _
  have hc:(w1.alloc (.cells #[.int .i64 85,.int .i64 65,.int .i64 45,.int .i64 45,.int .i64 65,.int .i64 45] 3)).cell? ⟨w1.heap.size,k,none⟩=some (.int .i64 (([85,65,45,45,65,45]:List Int).getD k 0)):=by
   rcases (show k=0∨k=1∨k=2∨k=3∨k=4∨k=5 by omega) with rfl | rfl | rfl | rfl | rfl | rfl <;> simp
  obtain ⟨v,hv⟩:∃ v,([85,65,45,45,65,45]:List Int).getD k 0=v:=⟨_,rfl⟩;rw [hv] at hc;have HV:Hid _:=hv;have HB:Hid _:=bel;clear hv bel b1 h;go_wp2;go_ret
  exact ⟨Af (by rw [HD.o,HV.o]),HB.o⟩
def Mt:List Int:=[30,30,15,60,20]
def Ki (x:Int):Int:=if 0≤x∧x≤4 then Mt.getD x.toNat 0 else -1
theorem Vp {x:Int} (h:x<0∨4<x):Ki x = -1:=if_neg (by omega)
theorem St {k:Nat} (h:k<5):Ki (k:Int)=Mt.getD k 0:=by rw [Ki,if_pos (by omega)];rfl
theorem Rm (x:Int):(x<0∨4<x)∨∃ k:Nat,k<5∧x=(k:Int):=by
 by_cases h:x<0∨4<x
 ·exact .inl h
 ·exact .inr ⟨x.toNat,by omega,by omega⟩
def Di (w : World) : Prop := Lib.TabIs prog w "loop.example/g00126/impl.stepDays" .i64 Mt
theorem Di.below {w w':World} (h:Di w) (hb:BW w w'):Di w':=Lib.tabBelow_of_tabIs h w' hb
theorem Di.cell {w:World} (h:Di w) (i:Nat) (hi:i<5):w.cell? ⟨16,i,none⟩=some (.int .i64 (Mt.getD i 0)) :=
 Lib.TabIs.cell h (by kernel_rfl) i hi
theorem dS (x:Int) (w:World) (ht:Di w) :
  Calls prog 331 #[.int .i64 x] w fun e w'=>e=.returned (.int .i64 (Ki x))∧w'=w:=by
 rcases Rm x with h | ⟨k,hk,rfl⟩
 ·have HV:Hid _:=Vp h
  clear ht
  rcases h with h | h
  ·go_enter func331,ntmps331
   go_wp2;go_ret;exact ⟨Af HV.o.symm,rfl⟩
  ·go_enter func331,ntmps331
   go_wp2;go_ret;exact ⟨Af HV.o.symm,rfl⟩
 ·have hc:=ht.cell k hk
  have HL:Hid _:=St hk;obtain ⟨v,hv⟩:∃ v,Mt.getD k 0=v:=⟨_,rfl⟩;rw [hv] at hc;have HV:Hid _:=hv;clear ht hv
  go_enter func331,ntmps331
  go_wp2;go_ret
  exact ⟨Af (by rw [HL.o,HV.o]),rfl⟩
theorem I1 (x:Int) (w:World) :
  Calls prog 223 #[.int .i64 x] w fun e w'=>e=.returned (.int .i64 (Ki x))∧BW w w':=by
 rcases Rm x with h | ⟨k,hk,rfl⟩
 ·have HV:Hid _:=Vp h
  have hi:Gk x 0 4=false:=bN h
  go_enter func223,ntmps223
  go_wp2_with (go_at_call 134;refine (Dl _ _ _ _).mono ?_;rintro e w' ⟨rfl,rfl⟩)
  go_ret;exact ⟨Af HV.o.symm,bR⟩
 ·have hi:Gk (k:Int) 0 4=true:=Uh (by omega) (by omega)
  have HB:Hid (Below w.heap.size w (w.alloc (.cells #[.int .i64 30,.int .i64 30,.int .i64 15,.int .i64 60,.int .i64 20] 3))):=bR.alloc nL _
  have hc:(w.alloc (.cells #[.int .i64 30,.int .i64 30,.int .i64 15,.int .i64 60,.int .i64 20] 3)).cell? ⟨w.heap.size,k,none⟩=some (.int .i64 (Mt.getD k 0)):=by
   rcases (show k=0∨k=1∨k=2∨k=3∨k=4 by omega) with rfl | rfl | rfl | rfl | rfl <;> simp [Mt]
  have HL:Hid _:=St hk;obtain ⟨v,hv⟩:∃ v,Mt.getD k 0=v:=⟨_,rfl⟩;rw [hv] at hc;have HV:Hid _:=hv;clear hv
  go_enter func223,ntmps223
  go_wp2_with (go_at_call 134;refine (Dl _ _ _ _).mono ?_;rintro e w' ⟨rfl,rfl⟩)
  go_ret
  exact ⟨Af (by rw [HL.o,HV.o]),HB.o⟩
end Go.Proofs.YtomiclakhjncbaaGreatDoor
namespace Go.Proofs.YtomiclakhjncbaaGreatDoor
open Go.Proofs.Tryz
def Cf:List Ln→Int→Int→Option Int
 | [],_,_=>none
 | x::r,a,c=>if x.1=a∧x.2.1=c then some x.2.2 else Cf r a c
def iD (f:Int→Int→Option Int) (a c m:Int):Int→Int→Option Int:=fun a' c' =>
 if a'=a∧c'=c then (if (f a c).getD 0+m=0 then none else some ((f a c).getD 0+m)) else f a' c'
def Va (ls:List Ln):Prop:=ls.Pairwise (fun x y=>E3 x y=true)
def NZ (ls:List Ln):Prop:=∀ x ∈ ls,x.2.2≠0
theorem Ev {x y:Ln} : E3 x y=true ↔ x.1<y.1∨x.1=y.1∧x.2.1<y.2.1:=by simp [E3]
theorem Jj {x y z:Ln} (h1:E3 x y=true) (h2:E3 y z=true):E3 x z=true:=by
 rw [Ev] at *;omega
theorem N3 {ls:List Ln} {a c:Int} (h:∀ x ∈ ls,¬ (x.1=a∧x.2.1=c)):Cf ls a c=none:=by
 induction ls with
 | nil=>rfl
 | cons y r ih =>
  simp only [Cf]
  rw [if_neg (h y (List.mem_cons_self ..))]
  exact ih fun x hx=>h x (List.mem_cons_of_mem _ hx)
theorem Mr {ls:List Ln} {a c v:Int} (h:Cf ls a c=some v):(a,c,v) ∈ ls:=by
 induction ls with
 | nil=>simp [Cf] at h
 | cons y r ih =>
  simp only [Cf] at h
  split at h
  ·rename_i hk
   obtain ⟨y1,y2,y3⟩:=y
   simp at hk h
   obtain ⟨rfl,rfl⟩:=hk;subst h;exact List.mem_cons_self ..
  ·exact List.mem_cons_of_mem _ (ih h)
def cV (ls:List Ln):Prop:=ls.Pairwise (fun x y=>¬ (x.1=y.1∧x.2.1=y.2.1))
theorem Va.apart {ls:List Ln} (h:Va ls):cV ls:=h.imp fun {x y} hxy=>by rw [Ev] at hxy;omega
theorem Q3 {ls:List Ln} (h:cV ls) {a c v:Int} : (a,c,v) ∈ ls ↔ Cf ls a c=some v:=by
 refine ⟨fun hm=>?_,Mr⟩
 induction ls with
 | nil=>cases hm
 | cons y r ih =>
  obtain ⟨h1,h2⟩:=List.pairwise_cons.1 h
  rcases List.mem_cons.1 hm with rfl | hr
  ·simp [Cf]
  ·have hk:=h1 _ hr
   simp only at hk
   simp only [Cf]
   rw [if_neg hk];exact ih h2 hr
theorem gE (ls:List Ln) (x:Ln) (a c:Int):Cf (ls++[x]) a c=match Cf ls a c with | some v=>some v | none=>if x.1=a∧x.2.1=c then some x.2.2 else none:=by
 induction ls with
 | nil=>simp [Cf]
 | cons y r ih =>
  simp only [List.cons_append,Cf]
  split
  ·rfl
  ·exact ih
theorem fN {ls:List Ln} (hs:Va ls) (hz:NZ ls) {k:Nat} (hk:k<ls.length):Cf (ls.take (k+1))=iD (Cf (ls.take k)) (Cg ls k).1 (Cg ls k).2.1 (Cg ls k).2.2:=by
 have hn:Cf (ls.take k) (Cg ls k).1 (Cg ls k).2.1=none:=by
  refine N3 fun x hx=>?_
  obtain ⟨i,hi,rfl⟩:=List.mem_iff_getElem.1 hx
  simp only [List.length_take] at hi
  have hp:=List.pairwise_iff_getElem.1 hs i k (by omega) hk (by omega)
  rw [Ev] at hp;rw [List.getElem_take,Pu hk]
  omega
 have h0:(Cg ls k).2.2≠0:=hz _ (Ex hk)
 funext a c
 rw [Kl ls k hk,gE];unfold iD;rw [hn]
 by_cases he:a=(Cg ls k).1∧c=(Cg ls k).2.1
 ·obtain ⟨rfl,rfl⟩:=he
  rw [hn]
  simp [h0]
 ·rw [if_neg he,if_neg (fun h=>he ⟨h.1.symm,h.2.symm⟩)]
  cases Cf (ls.take k) a c <;> rfl
theorem Wf {ls:List Ln} {a c m:Int} {x:Ln} (h:x ∈ Cr ls a c m):x ∈ ls∨x.1=a∧x.2.1=c:=by
 induction ls with
 | nil=>simp [Cr] at h;subst h;exact .inr ⟨rfl,rfl⟩
 | cons y r ih =>
  simp only [Cr] at h
  split at h
  ·split at h
   ·split at h
    ·rcases List.mem_cons.1 h with rfl | h
     ·exact .inr ⟨rfl,rfl⟩
     ·exact .inl (List.mem_cons_of_mem _ h)
    ·exact .inl (List.mem_cons_of_mem _ h)
   ·rcases List.mem_cons.1 h with rfl | h
    ·exact .inr ⟨rfl,rfl⟩
    ·exact .inl h
  ·rcases List.mem_cons.1 h with rfl | h
   ·exact .inl (List.mem_cons_self ..)
   ·exact (ih h).imp (List.mem_cons_of_mem _) id
theorem Kv {x:Ln} {a c:Int} : My x a c=true ↔ a<x.1∨x.1=a∧c≤x.2.1:=by simp [My]
theorem Rn {ls:List Ln} (hs:Va ls) (a c m:Int):Va (Cr ls a c m):=by
 induction ls with
 | nil=>simp [Cr,Va]
 | cons y r ih =>
  obtain ⟨h1,h2⟩:=List.pairwise_cons.1 hs
  simp only [Cr]
  split
  ·rename_i hr
   rw [Kv] at hr
   split
   ·rename_i he
    split
    ·refine List.pairwise_cons.2 ⟨fun z hz=>?_,h2⟩
     have:=h1 z hz
     rw [Ev] at this ⊢
     simp only
     omega
    ·exact h2
   ·rename_i he
    refine List.pairwise_cons.2 ⟨fun z hz=>?_,hs⟩
    have hy:E3 (a,c,m) y=true:=by rw [Ev];simp only;omega
    rcases List.mem_cons.1 hz with rfl | hz
    ·exact hy
    ·exact Jj hy (h1 z hz)
  ·rename_i hr
   rw [Kv] at hr
   refine List.pairwise_cons.2 ⟨fun z hz=>?_,ih h2⟩
   rcases Wf hz with hz | ⟨e1,e2⟩
   ·exact h1 z hz
   ·rw [Ev];omega
theorem Tb {ls:List Ln} (hs:Va ls) (a c:Int) {m:Int} (hm:m≠0):Cf (Cr ls a c m)=iD (Cf ls) a c m:=by
 induction ls with
 | nil =>
  funext a' c'
  simp only [Cr,Cf,iD,Option.getD_none,Int.zero_add,if_neg hm]
  by_cases h:a'=a∧c'=c
  ·rw [if_pos h,if_pos ⟨h.1.symm,h.2.symm⟩]
  ·rw [if_neg h,if_neg (fun q=>h ⟨q.1.symm,q.2.symm⟩)]
 | cons y r ih =>
  obtain ⟨h1,h2⟩:=List.pairwise_cons.1 hs;have ih':=ih h2
  funext a' c'
  simp only [Cr]
  split
  ·rename_i hr
   rw [Kv] at hr
   split
   ·rename_i he
    have hnr:Cf r a c=none:=N3 fun x hx hk=>by
     have:=h1 x hx
     rw [Ev] at this;omega
    have hl:Cf (y::r) a c=some y.2.2:=by simp [Cf,he]
    unfold iD;rw [hl]
    simp only [Option.getD_some]
    split
    ·rename_i h0
     by_cases h:a'=a∧c'=c
     ·rw [if_pos h];simp [Cf,h.1,h.2]
     ·rw [if_neg h]
      have e1:¬ (a=a'∧c=c'):=fun q=>h ⟨q.1.symm,q.2.symm⟩
      simp only [Cf]
      rw [if_neg e1,if_neg (by rw [he.1,he.2];exact e1)]
    ·rename_i h0
     have h0':y.2.2+m=0:=by omega
     by_cases h:a'=a∧c'=c
     ·rw [if_pos h,if_pos h0',h.1,h.2];exact hnr
     ·rw [if_neg h]
      have e1:¬ (a=a'∧c=c'):=fun q=>h ⟨q.1.symm,q.2.symm⟩
      simp only [Cf]
      rw [if_neg (by rw [he.1,he.2];exact e1)]
   ·rename_i he
    have hn:Cf (y::r) a c=none:=N3 fun x hx hk=>by
     rcases List.mem_cons.1 hx with rfl | hx
     ·exact he hk
     ·have:=h1 x hx
      rw [Ev] at this;omega
    unfold iD;rw [hn]
    simp only [Option.getD_none,Int.zero_add,if_neg hm]
    by_cases h:a'=a∧c'=c
    ·rw [if_pos h];simp [Cf,h.1,h.2]
    ·have e1:¬ (a=a'∧c=c'):=fun q=>h ⟨q.1.symm,q.2.symm⟩
     rw [if_neg h];conv=>lhs;rw [Cf]
     rw [if_neg e1]
  ·rename_i hr
   rw [Kv] at hr
   have hya:¬ (y.1=a∧y.2.1=c):=by omega
   have hl:Cf (y::r) a c=Cf r a c:=by simp only [Cf];rw [if_neg hya]
   have hx:=congrFun (congrFun ih' a') c'
   conv=>lhs;rw [Cf]
   unfold iD at hx ⊢;rw [hl,hx]
   by_cases h:a'=a∧c'=c
   ·rw [if_neg (by rw [h.1,h.2];exact hya),if_pos h,if_pos h]
   ·rw [if_neg h,if_neg h];simp only [Cf]
theorem aQ {l1 l2:List Ln} (h1:Va l1) (h2:Va l2) (h:∀ a c,Cf l1 a c=Cf l2 a c):l1=l2:=by
 have hm:∀ x:Ln,x ∈ l1 ↔ x ∈ l2:=fun ⟨a,c,v⟩=>by rw [Q3 h1.apart,Q3 h2.apart,h]
 clear h
 induction l1 generalizing l2 with
 | nil =>
  cases l2 with
  | nil=>rfl
  | cons y r=>exact absurd ((hm y).2 (List.mem_cons_self ..)) (by simp)
 | cons x r ih =>
  cases l2 with
  | nil=>exact absurd ((hm x).1 (List.mem_cons_self ..)) (by simp)
  | cons y s =>
   obtain ⟨p1,p2⟩:=List.pairwise_cons.1 h1;obtain ⟨q1,q2⟩:=List.pairwise_cons.1 h2
   have irr:∀ z:Ln,E3 z z=true→False:=fun z hz=>by rw [Ev] at hz;omega
   have hxy:x=y:=by
    rcases List.mem_cons.1 ((hm x).1 (List.mem_cons_self ..)) with h | h
    ·exact h
    ·rcases List.mem_cons.1 ((hm y).2 (List.mem_cons_self ..)) with h' | h'
     ·exact h'.symm
     ·exact (irr x (Jj (p1 y h') (q1 x h))).elim
   subst hxy
   refine congrArg (x::·) (ih p2 q2 fun z=>⟨fun hz=>?_,fun hz=>?_⟩)
   ·rcases List.mem_cons.1 ((hm z).1 (List.mem_cons_of_mem _ hz)) with rfl | h
    ·exact (irr z (p1 z hz)).elim
    ·exact h
   ·rcases List.mem_cons.1 ((hm z).2 (List.mem_cons_of_mem _ hz)) with rfl | h
    ·exact (irr z (q1 z hz)).elim
    ·exact h
theorem Qn {ls:List Ln} (h:Az none ls=true):Va ls:=by
 have key:∀ (r:List Ln) (p:Ln),Az (some p) r=true→(∀ x ∈ r,E3 p x=true)∧Va r:=by
  intro r
  induction r with
  | nil=>intro p _;exact ⟨(fun x hx=>by cases hx),List.Pairwise.nil⟩
  | cons y s ih =>
   intro p hp
   simp only [Az,Bool.and_eq_true] at hp
   obtain ⟨a1,a2⟩:=ih y hp.2
   refine ⟨fun x hx=>?_,List.pairwise_cons.2 ⟨a1,a2⟩⟩
   rcases List.mem_cons.1 hx with rfl | hx
   ·exact hp.1.2
   ·exact Jj hp.1.2 (a1 x hx)
 cases ls with
 | nil=>exact List.Pairwise.nil
 | cons y s =>
  simp only [Az,Bool.and_eq_true] at h
  obtain ⟨a1,a2⟩:=key s y h.2;exact List.pairwise_cons.2 ⟨a1,a2⟩
theorem Rz {ls:List Ln} (h:Az none ls=true):NZ ls:=fun x hx=>(Ig (Dv h x hx)).2.2.2
theorem U2 {c:Int} (h:0≤Dc c):c ∈ Gi:=by
 unfold Dc at h
 simp only [Gi,List.mem_cons,List.not_mem_nil,or_false]
 repeat' split at h
 all_goals omega
theorem fR {c:Int} {ls:List Ln} (h:∀ x ∈ ls,x.2.1≠c):Ec c ls=0:=by
 induction ls with
 | nil=>rfl
 | cons y r ih =>
  have h1:=h y (List.mem_cons_self ..)
  have h2:=ih fun x hx=>h x (List.mem_cons_of_mem _ hx)
  simp only [Ec,List.map_cons,List.sum_cons] at h2 ⊢
  rw [if_neg h1,h2];rfl
theorem hH {ls:List Ln} (h:∀ x ∈ ls,0≤Dc x.2.1):Wo ls=true ↔ ∀ x ∈ ls,Ec x.2.1 ls=0:=by
 unfold Wo;rw [List.all_eq_true]
 constructor
 ·intro ha x hx
  simpa using ha _ (U2 (h x hx))
 ·intro ha c _
  by_cases hc:∃ x ∈ ls,x.2.1=c
  ·obtain ⟨x,hx,rfl⟩:=hc
   simpa using ha x hx
  ·have:=fR (c:=c) (ls:=ls) fun x hx e=>hc ⟨x,hx,e⟩
   simp [this]
def Qm (a b:Int):Int:=if a<b then -1 else if b<a then 1 else 0
def oL (x y:Int):Int:=if x≠0 then x else y
def Qh (x y:Ln):Int:=oL (Qm x.1 y.1) (Qm x.2.1 y.2.1)
theorem cY (x y:Ln):Qh x y<0 ↔ E3 x y=true:=by
 simp only [Qh,oL,Qm,E3,decide_eq_true_eq]
 repeat' split
 all_goals omega
end Go.Proofs.YtomiclakhjncbaaGreatDoor
namespace Go.Proofs.YtomiclakhjncbaaGreatDoor
open Go.RowKit Go.Proofs.Tryz
theorem vV {w w1 w2:World} {g:Nat} {row:Option Nat} (h:w.grownBy w1 (some g)) (h2:w1.grownBy w2 row) (hr:∀ j,row=some j→w.heap.size≤j):w.grownBy w2 (some g) :=
 ⟨h2.os.trans h.os,h2.tape.trans h.tape,h2.output.trans h.output,Nat.le_trans h.size h2.size,fun k hk hne=>(h2.block k (Nat.lt_of_lt_of_le hk h.size) (fun e=>by have:=hr k e.symm;omega)).trans (h.block k hk hne)⟩
theorem xR {B:Nat} (g:Nat) (w:World) (hc:A2 B w g) :
  Calls prog 98 #[.pointer (some ⟨g,0,none⟩)] w fun e w'=>∃ (ao:Option Addr) (c:Nat) (xs:List Int),e=.returned (.slice ao xs.length c)∧xs.length≤6∧w'.ownsRow w.heap.size 3 1 (.slice ao xs.length c) xs.length (xs.map (Value.int .i64))∧A2 B w' g∧w.grownBy w' (some g)∧w.heap.size≤w'.heap.size:=by
 obtain ⟨i0,hi,hz0,hz1,hz2⟩:=info_parts pQ;have cb:=K6 hc
 have own0:(w.alloc (.cells #[] 3)).ownsRow w.heap.size 3 1 (.slice (some ⟨w.heap.size,0,none⟩) 0 0) 0 []:=World.ownsRow_lit w #[] 0 nL (by unfold maxLen;omega) rfl
 go_enter func98,ntmps98
 go_wp2_with fail
 refine (G4 _ _ _ (A3 hc _) (by omega)).mono ?_
 rintro e w2 ⟨n,rfl,n0,n1,c2,g2⟩
 have hn8:=n1 (by omega)
 obtain ⟨m,rfl⟩:=Int.eq_ofNat_of_zero_le n0
 have own2:=own0.kept g2 (Aaa own0 (by omega))
 have b2:w.grownBy w2 (some g):=(World.grownBy_alloc w _ _).trans g2
 have s2:w.heap.size≤w2.heap.size:=by have:=g2.size;simp at this;omega
 clear own0 n1 g2 hc;go_wp2
 go_loopw [3,4,6] (fun v p i wr=>∃ (k:Nat) (y:Int) (xs:List Int),k≤m∧i=.int .i64 k∧p=.int .i64 y∧(0≤y∧y≤9000+60*k)∧xs.length=k∧wr.ownsRow w.heap.size 3 1 v k (xs.map (Value.int .i64))∧A2 B wr g∧w.grownBy wr (some g)∧w.heap.size≤wr.heap.size) (fun _ _ i _=>m - (intOf i).toNat)
 case atStart=>exact ⟨0,9000,[],Nat.zero_le _,rfl,rfl,by omega,rfl,own2,c2,b2,s2⟩
 case round =>
  obtain ⟨k,y,xs,hk,rfl,rfl,hy,hxl,ho,hc,hbr,hsz⟩:=hrel;clear own2 c2 b2 s2
  by_cases hlt:k<m
  ·have hki:(k:Int)<(m:Int):=by omega
   have HXL:Hid _:=hxl;clear hxl
   go_wp2_with (first | (go_at_call 79;refine (G4 _ _ _ hc (by omega)).mono ?_;rintro e w3 ⟨z,rfl,zz0,zz1,c3,g3⟩;have hzz:=zz1 (by omega);have o3:=ho.kept g3 (Aaa ho (by omega));have b3:w.grownBy w3 (some g):=hbr.trans g3;have s3:=g3.size) | (at_builtin;refine wpList_append_own _ rfl (.tmp 20) (.tmp 22) 22 rfl w.heap.size 3 i0 (.int .i64 0) 1 8 underlying22 hi hz0 hz1 hz2 rfl (by decide) _ _ _ rfl (o3.alloc _) ⟨w3.heap.size,0,none⟩ 1 1 [.int .i64 (y+1+z)] rfl rfl (cell_one_new _ _ _) (ints_oneCell .i64 [y+1+z]) (by unfold maxLen;omega) (by omega) (by simp;omega) ?_;intro v' w4 ho1 hg1 hn1))
   have hb1:w.grownBy w4 (some g):=vV (b3.trans (World.grownBy_alloc w3 _ _)) hg1 (fun j hj=>by have:=(o3.lt j hj).1;omega)
   have hc1:A2 B w4 g:=B9 c3 (((Below.refl _ w3).alloc (by omega) _).grown hg1 (by simp;omega) (fun j hj=>by have:=(o3.lt j hj).1;omega))
   have hs1:w.heap.size≤w4.heap.size:=by have:=hg1.size;simp at this;omega
   clear hg1 hn1 ho;go_wp2
   go_roundw
   case rel=>exact ⟨k+1,y+1+z,xs++[y+1+z],by omega,by go_num,rfl,by omega,by have:=HXL.o;simp;omega,by rw [List.map_append];exact ho1,hc1,hb1,hs1⟩
   case measure=>simp [intOf];omega
  ·have hkm:k=m:=by omega
   subst hkm;have HO:Hid _:=ho
   have hki:¬ (k:Int)<(k:Int):=by omega
   clear ho;go_wp2;go_ret;obtain ⟨ao,c,hv⟩:=Fz HO.o;subst hv;subst hxl
   exact ⟨ao,c,xs,rfl,by omega,HO.o,hc,hbr,hsz⟩
end Go.Proofs.YtomiclakhjncbaaGreatDoor
