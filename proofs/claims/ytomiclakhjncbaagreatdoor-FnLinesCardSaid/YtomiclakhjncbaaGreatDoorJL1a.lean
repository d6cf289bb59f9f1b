import Derived.Test.YtomiclakhjncbaaGreatDoorJL0a
import Derived.Test.YtomiclakhjncbaaGreatDoorKLCur
import Derived.Test.YtomiclakhjncbaaGreatDoorKLCal
import Derived.Deep.SlicePairs
import Derived.Deep.Strs
import Derived.Lib.SmallJoins
import Derived.Lib.AppendZeros
import Derived.Maps.AppendAt
import Derived.Deep.AppendLies
import Derived.Handy
import Derived.OwnWalk
import Derived.Deep.RegionWith
import Derived.Deep.RegionHeld3
import Derived.Deep.DeepCutAuto
import Derived.Conc.MuLone
import Derived.Lib.LaidTab
import Derived.Lib.AppendIntMem
import Derived.Lib.SplitLaws
import Derived.Lib.IndexBytes
import Derived.DeepKeys4
import Derived.Maps.OwnSet
import Derived.Maps.RangeWalk
import Derived.WideKeyEntry
import Derived.Outline
import Derived.Test.YtomiclakhjncbaaGreatDoorRows
import Derived.Test.YtomiclakhjncbaaGreatDoorCards
import Derived.Test.YtomiclakhjncbaaGreatDoorTie
import Derived.LaidMore
import Derived.Deep.DeepHandedRow
import Derived.JoinedCond
import Derived.Lay
import Derived.SevenTiedAt
import Derived.Stop.Joined
import Derived.Stop.LaidErr
import Derived.ChangeVars
namespace Go.Proofs.YtomiclakhjncbaaGreatDoor
open Go.Proofs.Tryz
set_option maxRecDepth 100000
set_option maxHeartbeats 12800000
abbrev Ln:=Int×Int×Int
abbrev En:=Int×Int×Int×Int
def Cg (ls:List Ln) (k:Nat):Ln:=ls.getD k (0,0,0)
theorem Pu {ls:List Ln} {k:Nat} (h:k<ls.length):Cg ls k=ls[k]:=by simp [Cg,List.getD_eq_getElem?_getD,h]
theorem Ex {ls:List Ln} {k:Nat} (h:k<ls.length):Cg ls k ∈ ls:=by rw [Pu h];exact List.getElem_mem h
theorem Kl (ls:List Ln) (k:Nat) (h:k<ls.length):ls.take (k+1)=ls.take k++[Cg ls k]:=by rw [List.take_succ_eq_append_getElem h,Pu h]
theorem Tu (ls:List Ln) (k:Nat) (h:k<ls.length):ls.drop k=Cg ls k::ls.drop (k+1):=by rw [List.drop_eq_getElem_cons h,Pu h]
def Cb (a:Int):Bool:=decide (1≤a∧a≤9999)
def G7 (x:Ln):Bool:=Cb x.1 && (decide (0≤Dc x.2.1) && (fL x.2.2 && decide (x.2.2≠0)))
def E3 (x y:Ln):Bool:=decide (x.1<y.1∨x.1=y.1∧x.2.1<y.2.1)
def Az:Option Ln→List Ln→Bool
 | _,[]=>true
 | none,x::r=>G7 x && Az (some x) r
 | some y,x::r=>(G7 x && E3 y x) && Az (some x) r
def Ec (cur:Int) (ls:List Ln):Int:=(ls.map fun x=>if x.2.1=cur then x.2.2 else 0).sum
theorem N5 (cur:Int) (ls:List Ln) (k:Nat) (h:k<ls.length):Ec cur (ls.take (k+1))=Ec cur (ls.take k)+if (Cg ls k).2.1=cur then (Cg ls k).2.2 else 0:=by
 rw [Kl ls k h];simp [Ec]
def Wo (ls:List Ln):Bool:=Gi.all fun c=>decide (Ec c ls=0)
def At (ls:List Ln):Bool:=Az none ls && (decide (ls.length≤400) && Wo ls)
def Bt (e:En):Bool:=Cb e.1 && (Cb e.2.1 && (decide (e.1≠e.2.1) && (decide (0≤Dc e.2.2.1) && decide (1≤e.2.2.2∧e.2.2.2≤1000000000000))))
def My (x:Ln) (a c:Int):Bool:=decide (a<x.1∨x.1=a∧c≤x.2.1)
def Cr:List Ln→Int→Int→Int→List Ln
 | [],a,c,m=>[(a,c,m)]
 | x::r,a,c,m=>if My x a c=true then (if x.1=a∧x.2.1=c then (if x.2.2+m≠0 then (a,c,x.2.2+m)::r else r) else (a,c,m)::x::r) else x::Cr r a c m
def G5 (ls:List Ln) (e:En):List Ln:=Cr (Cr ls e.1 e.2.2.1 (-e.2.2.2)) e.2.1 e.2.2.1 e.2.2.2
def Cj (ls:List Ln) (e:En):Bool:=(At ls && Bt e) && At (G5 ls e)
def Gg (ls:List Ln) (e:En):List Ln:=if Cj ls e=true then G5 ls e else ls
def Ch:List Ln→List En→Option (List Ln)
 | ls,[]=>some ls
 | ls,e::r=>if Cj ls e=true then Ch (G5 ls e) r else none
theorem Dv {ls:List Ln} : ∀ {p:Option Ln},Az p ls=true→∀ x ∈ ls,G7 x=true:=by
 induction ls with
 | nil=>intro p _ x hx;cases hx
 | cons y r ih =>
  intro p h x hx
  cases p with
  | none =>
   simp only [Az,Bool.and_eq_true] at h
   rcases List.mem_cons.1 hx with rfl | hr
   ·exact h.1
   ·exact ih h.2 x hr
  | some q =>
   simp only [Az,Bool.and_eq_true] at h
   rcases List.mem_cons.1 hx with rfl | hr
   ·exact h.1.1
   ·exact ih h.2 x hr
theorem Ig {x:Ln} (h:G7 x=true):(1≤x.1∧x.1≤9999)∧0≤Dc x.2.1∧(-1000000000000≤x.2.2∧x.2.2≤1000000000000)∧x.2.2≠0:=by
 simp only [G7,Cb,Bool.and_eq_true,decide_eq_true_eq] at h
 exact ⟨h.1,h.2.1,rH h.2.2.1,h.2.2.2⟩
theorem Mp (ls:List Ln) (a c m:Int):(Cr ls a c m).length≤ls.length+1:=by
 induction ls with
 | nil=>simp [Cr]
 | cons x r ih =>
  simp only [Cr]
  split
  ·split
   ·split <;> simp <;> omega
   ·simp
  ·simp;omega
structure Au where
 ref:List UInt8
 iss:Int
 cur:Int
 am:Int
 day:Int
 used:Bool
def Jc:Au:=⟨[],0,0,0,0,false⟩
def Ak (az:List Au) (k:Nat):Au:=az.getD k Jc
theorem Gw {az:List Au} {k:Nat} (h:k<az.length):Ak az k=az[k]:=by simp [Ak,List.getD_eq_getElem?_getD,h]
theorem J8 {az:List Au} {k:Nat} (h:k<az.length):Ak az k ∈ az:=by rw [Gw h];exact List.getElem_mem h
def Kk (l:List UInt8):Bool:=decide (l.length=12) && A6 33 126 l
def Gy (a:Au):Bool:=Kk a.ref && (Cb a.iss && (decide (0≤Dc a.cur) && (decide (1≤a.am∧a.am≤100000000000) && Dn a.day)))
def E9 (a:Au) (day:Int):Bool:=decide (a.day≤day∧day≤a.day+7)
def Ia (a:Au) (am:Int):Bool:=decide (1≤am∧am≤a.am+a.am / 10)
def Xr (a:Au) (iss cur am day:Int):Bool:=Gy a && (!a.used && (decide (a.iss=iss) && (decide (a.cur=cur) && (E9 a day && Ia a am))))
def Ue (x:Int):Int:=if x<0 then -x else x
def Co (a:Au) (iss cur am day:Int):Int:=if Xr a iss cur am day=true then 8*Ue (am - a.am)+day - a.day else -1
theorem L0 {a:Au} (h:Gy a=true):Kk a.ref=true∧Cb a.iss=true∧0≤Dc a.cur∧(1≤a.am∧a.am≤100000000000)∧Dn a.day=true:=by
 simpa [Gy] using h
end Go.Proofs.YtomiclakhjncbaaGreatDoor
namespace Go.Proofs.YtomiclakhjncbaaGreatDoor
open Go.ChangeShapes Go.WideShapes Go.ChangeAt Go.RowKit Go.Deep Go.Proofs.Tryz
set_option maxRecDepth 100000
set_option maxHeartbeats 12800000
def Bf (n:Int):Prop:=(Lit.int .i64 n).wf=true
def Hw (x:Ln):Prop:=Bf x.1∧Bf x.2.1∧Bf x.2.2
def Ma (e:En):Prop:=Bf e.1∧Bf e.2.1∧Bf e.2.2.1∧Bf e.2.2.2
def Ai (w:World) (ao:Option Addr) (ls:List Ln):Prop :=
 ls=[]∨∃ b off,ao=some ⟨b,off,none⟩∧b<w.heap.size∧∀ i,i<ls.length →
  w.cell? ⟨b,off+i*3,none⟩=some (.int .i64 (Cg ls i).1)∧w.cell? ⟨b,off+i*3+1,none⟩=some (.int .i64 (Cg ls i).2.1)∧w.cell? ⟨b,off+i*3+2,none⟩=some (.int .i64 (Cg ls i).2.2)
theorem Ai.below {w w':World} {ao:Option Addr} {ls:List Ln} (h:Ai w ao ls) (hb:BW w w'):Ai w' ao ls:=by
 rcases h with h | ⟨b,off,h1,h2,h3⟩
 ·exact .inl h
 ·exact .inr ⟨b,off,h1,Nat.lt_of_lt_of_le h2 hb.size,fun i hi=>⟨(hb.cell (p:=⟨b,off+i*3,none⟩) h2).trans (h3 i hi).1,(hb.cell (p:=⟨b,off+i*3+1,none⟩) h2).trans (h3 i hi).2.1,(hb.cell (p:=⟨b,off+i*3+2,none⟩) h2).trans (h3 i hi).2.2⟩⟩
theorem Ai.at {w:World} {ao:Option Addr} {ls:List Ln} (h:Ai w ao ls) {k:Nat} (hk:k<ls.length) :
  ∃ b off,ao=some ⟨b,off,none⟩∧b<w.heap.size∧w.cell? ⟨b,off+k*3,none⟩=some (.int .i64 (Cg ls k).1)∧w.cell? ⟨b,off+k*3+1,none⟩=some (.int .i64 (Cg ls k).2.1)∧w.cell? ⟨b,off+k*3+2,none⟩=some (.int .i64 (Cg ls k).2.2):=by
 rcases h with rfl | ⟨b,off,h1,h2,h3⟩
 ·simp at hk
 ·exact ⟨b,off,h1,h2,h3 k hk⟩
def I4 (es:List En) (k:Nat):En:=es.getD k (0,0,0,0)
theorem bI {es:List En} {k:Nat} (h:k<es.length):I4 es k=es[k]:=by simp [I4,List.getD_eq_getElem?_getD,h]
theorem lJ {es:List En} {k:Nat} (h:k<es.length):I4 es k ∈ es:=by rw [bI h];exact List.getElem_mem h
def C8 (w:World) (ao:Option Addr) (es:List En):Prop :=
 es=[]∨∃ b off,ao=some ⟨b,off,none⟩∧b<w.heap.size∧∀ i,i<es.length →
  w.cell? ⟨b,off+i*4,none⟩=some (.int .i64 (I4 es i).1)∧w.cell? ⟨b,off+i*4+1,none⟩=some (.int .i64 (I4 es i).2.1)∧w.cell? ⟨b,off+i*4+2,none⟩=some (.int .i64 (I4 es i).2.2.1)∧w.cell? ⟨b,off+i*4+3,none⟩=some (.int .i64 (I4 es i).2.2.2)
theorem C8.below {w w':World} {ao:Option Addr} {es:List En} (h:C8 w ao es) (hb:BW w w'):C8 w' ao es:=by
 rcases h with h | ⟨b,off,h1,h2,h3⟩
 ·exact .inl h
 ·exact .inr ⟨b,off,h1,Nat.lt_of_lt_of_le h2 hb.size,fun i hi=>⟨(hb.cell (p:=⟨b,off+i*4,none⟩) h2).trans (h3 i hi).1,(hb.cell (p:=⟨b,off+i*4+1,none⟩) h2).trans (h3 i hi).2.1,(hb.cell (p:=⟨b,off+i*4+2,none⟩) h2).trans (h3 i hi).2.2.1,(hb.cell (p:=⟨b,off+i*4+3,none⟩) h2).trans (h3 i hi).2.2.2⟩⟩
theorem C8.at {w:World} {ao:Option Addr} {es:List En} (h:C8 w ao es) {k:Nat} (hk:k<es.length) :
  ∃ b off,ao=some ⟨b,off,none⟩∧b<w.heap.size∧w.cell? ⟨b,off+k*4,none⟩=some (.int .i64 (I4 es k).1)∧w.cell? ⟨b,off+k*4+1,none⟩=some (.int .i64 (I4 es k).2.1)∧w.cell? ⟨b,off+k*4+2,none⟩=some (.int .i64 (I4 es k).2.2.1)∧w.cell? ⟨b,off+k*4+3,none⟩=some (.int .i64 (I4 es k).2.2.2):=by
 rcases h with rfl | ⟨b,off,h1,h2,h3⟩
 ·simp at hk
 ·exact ⟨b,off,h1,h2,h3 k hk⟩
section
variable {P:Program} {H:Type} {enc:TypeId×Value→H} {W:World}
end
def Lm (x:Ln):List Value:=[.int .i64 x.1,.int .i64 x.2.1,.int .i64 x.2.2]
def Ag (ls:List Ln):List Value:=ls.flatMap Lm
theorem Kj (x:Ln) (r:List Ln):Ag (x::r)=.int .i64 x.1::.int .i64 x.2.1::.int .i64 x.2.2::Ag r:=rfl
theorem Ip (a b:List Ln):Ag (a++b)=Ag a++Ag b:=by simp [Ag]
theorem Cn (ls:List Ln):(Ag ls).length=ls.length*3:=by
 induction ls with
 | nil=>rfl
 | cons f r ih=>rw [Kj];simp [ih];omega
theorem Hj (ls:List Ln):∀ k,k<ls.length→(Ag ls)[k*3]?=some (.int .i64 (Cg ls k).1)∧(Ag ls)[k*3+1]?=some (.int .i64 (Cg ls k).2.1)∧(Ag ls)[k*3+2]?=some (.int .i64 (Cg ls k).2.2):=by
 induction ls with
 | nil=>intro k h;simp at h
 | cons f r ih =>
  intro k h;rw [Kj]
  cases k with
  | zero=>exact ⟨rfl,rfl,rfl⟩
  | succ k =>
   have:=ih k (by simpa using h)
   rw [show (k+1) * 3=k*3+1+1+1 by omega]
   simp only [List.getElem?_cons_succ]
   exact this
theorem Z5 (ls:List Ln):∀ u ∈ Ag ls,u.oneCell'=true:=by
 intro u hu
 simp only [Ag,List.mem_flatMap,Lm] at hu
 obtain ⟨f,_,hf⟩:=hu
 simp at hf
 rcases hf with rfl | rfl | rfl <;> rfl
theorem Ef {w:World} {base n:Nat} {t:TypeId} {v:Value} {ls:List Ln} (h:w.ownsRow base t 3 v n (Ag ls)):∃ ao cap,v=.slice ao ls.length cap∧Ai w ao ls∧n=ls.length:=by
 have hn:n=ls.length:=by have:=h.1;rw [Cn] at this;omega
 subst hn
 rcases h.2 with ⟨rfl,hn⟩ | ⟨g,cap,cur,rfl,_⟩
 ·have:ls=[]:=List.eq_nil_of_length_eq_zero hn
  subst this;exact ⟨none,0,rfl,.inl rfl,rfl⟩
 ·refine ⟨_,cap,rfl,?_,rfl⟩
  by_cases h0:ls=[]
  ·exact .inl h0
  ·refine .inr ⟨g,0,rfl,(h.lt g rfl).2,fun i hi=>?_⟩
   have:=Hj ls i hi
   rw [Nat.zero_add,h.cellAt (i*3) (by omega),h.cellAt (i*3+1) (by omega),h.cellAt (i*3+2) (by omega)]
   exact this
def Kx (a:Au):List Value:=[.string ⟨a.ref.toArray⟩,.int .i64 a.iss,.int .i64 a.cur,.int .i64 a.am,.int .i64 a.day,.bool a.used]
def Fe (a:Au):Value:=.agg #[.string ⟨a.ref.toArray⟩,.int .i64 a.iss,.int .i64 a.cur,.int .i64 a.am,.int .i64 a.day,.bool a.used]
def Ar (w:World) (ao:Option Addr) (az:List Au):Prop :=
 az=[]∨∃ b off,ao=some ⟨b,off,none⟩∧b<w.heap.size∧∀ i,i<az.length →
  w.cell? ⟨b,off+i*6,none⟩=some (.string ⟨(Ak az i).ref.toArray⟩)∧w.cell? ⟨b,off+i*6+1,none⟩=some (.int .i64 (Ak az i).iss)∧w.cell? ⟨b,off+i*6+2,none⟩=some (.int .i64 (Ak az i).cur)∧w.cell? ⟨b,off+i*6+3,none⟩=some (.int .i64 (Ak az i).am)∧w.cell? ⟨b,off+i*6+4,none⟩=some (.int .i64 (Ak az i).day)∧w.cell? ⟨b,off+i*6+5,none⟩=some (.bool (Ak az i).used)
theorem Ar.below {w w':World} {ao:Option Addr} {az:List Au} (h:Ar w ao az) (hb:BW w w'):Ar w' ao az:=by
 rcases h with h | ⟨b,off,h1,h2,h3⟩
 ·exact .inl h
 ·exact .inr ⟨b,off,h1,Nat.lt_of_lt_of_le h2 hb.size,fun i hi=>⟨(hb.cell (p:=⟨b,off+i*6,none⟩) h2).trans (h3 i hi).1,(hb.cell (p:=⟨b,off+i*6+1,none⟩) h2).trans (h3 i hi).2.1,(hb.cell (p:=⟨b,off+i*6+2,none⟩) h2).trans (h3 i hi).2.2.1,(hb.cell (p:=⟨b,off+i*6+3,none⟩) h2).trans (h3 i hi).2.2.2.1,(hb.cell (p:=⟨b,off+i*6+4,none⟩) h2).trans (h3 i hi).2.2.2.2.1,(hb.cell (p:=⟨b,off+i*6+5,none⟩) h2).trans (h3 i hi).2.2.2.2.2⟩⟩
section
variable {P:Program} {H:Type} {enc:TypeId×Value→H} {W:World}
end
end Go.Proofs.YtomiclakhjncbaaGreatDoor
namespace Go.Proofs.YtomiclakhjncbaaGreatDoor
open Go.RowKit Go.Proofs.Tryz
set_option maxRecDepth 100000
set_option maxHeartbeats 12800000
theorem Iw {w w':World} {base n size:Nat} {t:TypeId} {v:Value} {xs:List Value} (h:w.ownsRow base t size v n xs) (hb:BW w w'):w'.ownsRow base t size v n xs:=by
 obtain ⟨h1,h2⟩:=h;refine ⟨h1,?_⟩
 rcases h2 with h | ⟨g,cap,cur,hv,hg,hh,a1,a2,a3,a4⟩
 ·exact .inl h
 ·have hlt:g<w.heap.size:=(Array.getElem?_eq_some_iff.1 hh).1
  exact .inr ⟨g,cap,cur,hv,hg,(hb.block g hlt).trans hh,a1,a2,a3,a4⟩
theorem Ri {w:World} {base base' n size:Nat} {t:TypeId} {v:Value} {xs:List Value} (h:w.ownsRow base t size v n xs) (hb:base'≤base):w.ownsRow base' t size v n xs:=by
 obtain ⟨h1,h2⟩:=h;refine ⟨h1,?_⟩
 rcases h2 with h | ⟨g,cap,cur,hv,hg,r⟩
 ·exact .inl h
 ·exact .inr ⟨g,cap,cur,hv,Nat.le_trans hb hg,r⟩
def Ah (az:List Au):List Value:=az.flatMap Kx
theorem Ju (a:Au) (r:List Au):Ah (a::r)=.string ⟨a.ref.toArray⟩::.int .i64 a.iss::.int .i64 a.cur::.int .i64 a.am::.int .i64 a.day::.bool a.used::Ah r:=rfl
theorem F9 (a b:List Au):Ah (a++b)=Ah a++Ah b:=by simp [Ah]
theorem E2 (az:List Au):(Ah az).length=az.length*6:=by
 induction az with
 | nil=>rfl
 | cons a r ih=>rw [Ju];simp [ih];omega
theorem De (az:List Au):∀ k,k<az.length→(Ah az)[k*6]?=some (.string ⟨(Ak az k).ref.toArray⟩)∧(Ah az)[k*6+1]?=some (.int .i64 (Ak az k).iss)∧(Ah az)[k*6+2]?=some (.int .i64 (Ak az k).cur)∧(Ah az)[k*6+3]?=some (.int .i64 (Ak az k).am)∧(Ah az)[k*6+4]?=some (.int .i64 (Ak az k).day)∧(Ah az)[k*6+5]?=some (.bool (Ak az k).used):=by
 induction az with
 | nil=>intro k h;simp at h
 | cons a r ih =>
  intro k h;rw [Ju]
  cases k with
  | zero=>exact ⟨rfl,rfl,rfl,rfl,rfl,rfl⟩
  | succ k =>
   have:=ih k (by simpa using h)
   rw [show (k+1) * 6=k*6+1+1+1+1+1+1 by omega,show k*6+1+1+1+1+1+1+1=(k*6+1)+1+1+1+1+1+1 by omega,show k*6+1+1+1+1+1+1+2=(k*6+2)+1+1+1+1+1+1 by omega,show k*6+1+1+1+1+1+1+3=(k*6+3)+1+1+1+1+1+1 by omega,show k*6+1+1+1+1+1+1+4=(k*6+4)+1+1+1+1+1+1 by omega,show k*6+1+1+1+1+1+1+5=(k*6+5)+1+1+1+1+1+1 by omega]
   simp only [List.getElem?_cons_succ]
   exact this
theorem Hu (az:List Au) (a:Au):∀ k,k<az.length→(((((((Ah az).set (k*6) (.string ⟨a.ref.toArray⟩)).set (k*6+1) (.int .i64 a.iss)).set (k*6+2) (.int .i64 a.cur)).set (k*6+3) (.int .i64 a.am)).set (k*6+4) (.int .i64 a.day)).set (k*6+5) (.bool a.used))=Ah (az.set k a):=by
 induction az with
 | nil=>intro k h;simp at h
 | cons g r ih =>
  intro k h;rw [Ju]
  cases k with
  | zero=>rfl
  | succ k =>
   have:=ih k (by simpa using h)
   rw [show (k+1) * 6=k*6+1+1+1+1+1+1 by omega,show k*6+1+1+1+1+1+1+1=(k*6+1)+1+1+1+1+1+1 by omega,show k*6+1+1+1+1+1+1+2=(k*6+2)+1+1+1+1+1+1 by omega,show k*6+1+1+1+1+1+1+3=(k*6+3)+1+1+1+1+1+1 by omega,show k*6+1+1+1+1+1+1+4=(k*6+4)+1+1+1+1+1+1 by omega,show k*6+1+1+1+1+1+1+5=(k*6+5)+1+1+1+1+1+1 by omega]
   simp only [List.set_cons_succ,this]
   rfl
theorem G9 {xs:List Value} {k:Nat} {v:Value} (h:xs[k]?=some v):xs.set k v=xs:=by
 apply List.ext_getElem? ;intro i
 by_cases e:k=i
 ·subst e
  rw [List.getElem?_set_self (List.getElem?_eq_some_iff.1 h).1,h]
 ·rw [List.getElem?_set_ne e]
theorem On (az:List Au) (b:Bool) (k:Nat) (h:k<az.length):(Ah az).set (k*6+5) (.bool b)=Ah (az.set k ⟨(Ak az k).ref,(Ak az k).iss,(Ak az k).cur,(Ak az k).am,(Ak az k).day,b⟩):=by
 rw [← Hu az _ k h];obtain ⟨h0,h1,h2,h3,h4,h5⟩:=De az k h
 simp only
 rw [G9 h0,G9 h1,G9 h2,G9 h3,G9 h4]
theorem aN (az:List Au):∀ u ∈ Ah az,u.oneCell'=true:=by
 intro u hu;obtain ⟨a,_,h⟩:=List.mem_flatMap.1 hu
 simp only [Kx,List.mem_cons,List.not_mem_nil,or_false] at h
 rcases h with rfl | rfl | rfl | rfl | rfl | rfl <;> rfl
theorem Ul {w:World} {base g n cap:Nat} {t:TypeId} {az:List Au} (h:w.ownsRow base t 6 (.slice (some ⟨g,0,none⟩) n cap) n (Ah az)):Ar w (some ⟨g,0,none⟩) az:=by
 have hl:=h.1;rw [E2] at hl
 by_cases h0:az=[]
 ·exact .inl h0
 ·have hlt:=(h.lt g rfl).2
  refine .inr ⟨g,0,rfl,hlt,fun i hi=>?_⟩
  have:=De az i hi
  rw [Nat.zero_add,h.cellAt (i*6) (by omega),h.cellAt (i*6+1) (by omega),h.cellAt (i*6+2) (by omega),h.cellAt (i*6+3) (by omega),h.cellAt (i*6+4) (by omega),h.cellAt (i*6+5) (by omega)]
  exact this
theorem Lo {w:World} {base n:Nat} {t:TypeId} {v:Value} {az:List Au} (h:w.ownsRow base t 6 v n (Ah az)):∃ ao cap,v=.slice ao az.length cap∧Ar w ao az∧n=az.length:=by
 have hn:n=az.length:=by have:=h.1;rw [E2] at this;omega
 subst hn
 rcases h.2 with ⟨rfl,hn⟩ | ⟨g,cap,cur,rfl,_⟩
 ·have:az=[]:=List.eq_nil_of_length_eq_zero hn
  subst this;exact ⟨none,0,rfl,.inl rfl,rfl⟩
 ·exact ⟨_,cap,rfl,Ul h,rfl⟩
theorem Fd {w:World} {base n:Nat} {t:TypeId} {ao:Option Addr} {cap:Nat} {az:List Au} (h:w.ownsRow base t 6 (.slice ao n cap) n (Ah az)):Ar w ao az:=by
 obtain ⟨ao',cap',hv,hf,_⟩:=Lo h
 obtain ⟨rfl,_⟩:ao=ao'∧n=az.length∧cap=cap':=by simpa using hv
 exact hf
def Du (az:List Au) (k:Nat):List Au:=az.take k++List.replicate (az.length - k) Jc
theorem Pz (az:List Au):Du az 0=List.replicate az.length Jc:=by simp [Du]
theorem Sv (az:List Au):Du az az.length=az:=by simp [Du]
theorem Iu (az:List Au) (k:Nat) (h:k≤az.length):(Du az k).length=az.length:=by simp [Du];omega
theorem Ly (az:List Au) (k:Nat) (h:k<az.length):(Du az k).set k (Ak az k)=Du az (k+1):=by
 unfold Du
 rw [List.set_append,if_neg (by simp;omega),List.length_take,Nat.min_eq_left (Nat.le_of_lt h),Nat.sub_self,show az.length - k=az.length - (k+1)+1 by omega,List.replicate_succ,List.set_cons_zero,List.take_succ_eq_append_getElem h,Gw h,List.append_assoc]
 rfl
theorem Wu (az:List Au) (k:Nat) (h:k<az.length):Ak (Du az k) k=Jc:=by
 simp [Ak,Du,List.getD_eq_getElem?_getD,List.getElem?_append,Nat.min_eq_left (Nat.le_of_lt h),List.getElem?_replicate]
 split <;> rfl
theorem cF:(prog.info? 107).map (fun i=>(i.zero,i.size,i.bytes))=some (some (.agg #[.string ⟨#[]⟩,.int .i64 0,.int .i64 0,.int .i64 0,.int .i64 0,.bool false]),6,56):=by kernel_rfl
theorem Qx (m:Nat):(madeCells (Value.agg #[.string ⟨#[]⟩,.int .i64 0,.int .i64 0,.int .i64 0,.int .i64 0,.bool false]).cells (m*6)).toList=Ah (List.replicate m Jc):=by
 apply List.ext_getElem?;intro j
 by_cases hj:j<m*6
 ·have hq:j / 6<(List.replicate m Jc).length:=by simp;omega
  have ha:Ak (List.replicate m Jc) (j / 6)=Jc:=by
   simp [Ak,List.getD_eq_getElem?_getD,List.getElem?_replicate];split <;> rfl
  have h:=De _ _ hq;rw [ha] at h
  have hl:(madeCells (Value.agg #[.string ⟨#[]⟩,.int .i64 0,.int .i64 0,.int .i64 0,.int .i64 0,.bool false]).cells (m*6)).toList[j]?=some ((#[Value.string ⟨#[]⟩,.int .i64 0,.int .i64 0,.int .i64 0,.int .i64 0,.bool false]:Array Value)[j % 6]!):=by
   simp [madeCells,hj,Value.cells]
  obtain ⟨h0,h1,h2,h3,h4,h5⟩:=h
  rcases (show j % 6=0∨j % 6=1∨j % 6=2∨j % 6=3∨j % 6=4∨j % 6=5 by omega) with e | e | e | e | e | e
  ·rw [hl,e,show j=j / 6*6 by omega,h0];rfl
  ·rw [hl,e,show j=j / 6*6+1 by omega,h1];rfl
  ·rw [hl,e,show j=j / 6*6+2 by omega,h2];rfl
  ·rw [hl,e,show j=j / 6*6+3 by omega,h3];rfl
  ·rw [hl,e,show j=j / 6*6+4 by omega,h4];rfl
  ·rw [hl,e,show j=j / 6*6+5 by omega,h5];rfl
 ·rw [List.getElem?_eq_none (by rw [Array.length_toList,size_madeCells];omega),List.getElem?_eq_none (by rw [E2];simp;omega)]
end Go.Proofs.YtomiclakhjncbaaGreatDoor
namespace Go.Proofs.YtomiclakhjncbaaGreatDoor
open Go.Proofs.Tryz
set_option maxRecDepth 100000
set_option maxHeartbeats 12800000
structure Cs where
 iss:Int
 acq:Int
 cur:Int
 am:Int
 st:Int
 rsn:Int
 cl:Int
 bk:Int
 fee:Int
 cop:Bool
 sta:Int
 due:Int
structure Ac where
 kind:Int
 am:Int
 rsn:Int
def Oy (x:Int):Bool:=x == 4837 || x == 4855 || x == 4834 || x == 4831 || x == 4853 || x == 4841
def Fs (x:Int):Int:=if x=4837 then 85 else if x=4855 then 65 else if x=4834 then 45 else if x=4831 then 45 else if x=4853 then 65 else if x=4841 then 45 else -1
def Gb (x:Int):Bool:=x == 4831 || x == 4853
def E8 (x:Int):Bool:=x == 4837 || x == 4834
theorem K7 (x:Int):x=4837∨x=4855∨x=4834∨x=4831∨x=4853∨x=4841∨(x≠4837∧x≠4855∧x≠4834∧x≠4831∧x≠4853∧x≠4841):=by omega
theorem Up {x:Int} (h:x≠4837∧x≠4855∧x≠4834∧x≠4831∧x≠4853∧x≠4841):Oy x=false:=by simp [Oy,h]
theorem jX {x:Int} (h:x≠4837∧x≠4855∧x≠4834∧x≠4831∧x≠4853∧x≠4841):Fs x = -1:=by simp [Fs,h]
theorem mD {x:Int} (h:x≠4837∧x≠4855∧x≠4834∧x≠4831∧x≠4853∧x≠4841):Gb x=false:=by simp [Gb,h]
theorem gS {x:Int} (h:x≠4837∧x≠4855∧x≠4834∧x≠4831∧x≠4853∧x≠4841):E8 x=false:=by simp [E8,h]
def Ls (st:Int):Bool:=decide (0≤st∧st≤2) || decide (st=7)
def Fb (a:Int):Bool:=Cb a && decide (a≠9999)
def Cy (r st:Int):Bool:=Oy r || (decide (r=0) && Ls st)
def Ao (c:Cs):Bool :=
 Fb c.iss && (Fb c.acq && (decide (c.iss≠c.acq) && (decide (0≤Dc c.cur) && (decide (1≤c.am∧c.am≤100000000000) && (decide (0≤c.st∧c.st≤7) && (Cy c.rsn c.st &&
  (decide (0≤c.cl∧c.cl≤c.am) && (decide (0≤c.bk∧c.bk≤c.am) && (decide (0≤c.fee∧c.fee≤500000) && (Dn c.sta && (Dn c.due || decide (c.due = -1))))))))))))
theorem Jb {c:Cs} (h:Ao c=true):Fb c.iss=true∧Fb c.acq=true∧c.iss≠c.acq∧0≤Dc c.cur∧(1≤c.am∧c.am≤100000000000)∧(0≤c.st∧c.st≤7)∧Cy c.rsn c.st=true ∧
  (0≤c.cl∧c.cl≤c.am)∧(0≤c.bk∧c.bk≤c.am)∧(0≤c.fee∧c.fee≤500000)∧Dn c.sta=true∧(Dn c.due=true∨c.due = -1):=by
 simpa [Ao] using h
def Ci (iss acq cur am day:Int):Cs:=⟨iss,acq,cur,am,0,0,0,0,0,false,day,-1⟩
end Go.Proofs.YtomiclakhjncbaaGreatDoor
namespace Go.Proofs.YtomiclakhjncbaaGreatDoor
open Go.RowKit Go.Proofs.Tryz
set_option maxRecDepth 100000
set_option maxHeartbeats 12800000
def cv (c:Cs):Value:=.agg #[.int .i64 c.iss,.int .i64 c.acq,.int .i64 c.cur,.int .i64 c.am,.int .i64 c.st,.int .i64 c.rsn,.int .i64 c.cl,.int .i64 c.bk,.int .i64 c.fee,.bool c.cop,.int .i64 c.sta,.int .i64 c.due]
def Xt (c:Cs):Array Value:=#[.int .i64 c.iss,.int .i64 c.acq,.int .i64 c.cur,.int .i64 c.am,.int .i64 c.st,.int .i64 c.rsn,.int .i64 c.cl,.int .i64 c.bk,.int .i64 c.fee,.bool c.cop,.int .i64 c.sta,.int .i64 c.due]
structure CB (s o:Nat) (c:Cs) (u:World):Prop where
 f0:u.cell? ⟨s,o,none⟩=some (.int .i64 c.iss)
 f1:u.cell? ⟨s,o+1,none⟩=some (.int .i64 c.acq)
 f2:u.cell? ⟨s,o+2,none⟩=some (.int .i64 c.cur)
 f3:u.cell? ⟨s,o+3,none⟩=some (.int .i64 c.am)
 f4:u.cell? ⟨s,o+4,none⟩=some (.int .i64 c.st)
 f5:u.cell? ⟨s,o+5,none⟩=some (.int .i64 c.rsn)
 f6:u.cell? ⟨s,o+6,none⟩=some (.int .i64 c.cl)
 f7:u.cell? ⟨s,o+7,none⟩=some (.int .i64 c.bk)
 f8:u.cell? ⟨s,o+8,none⟩=some (.int .i64 c.fee)
 f9:u.cell? ⟨s,o+9,none⟩=some (.bool c.cop)
 f10:u.cell? ⟨s,o+10,none⟩=some (.int .i64 c.sta)
 f11:u.cell? ⟨s,o+11,none⟩=some (.int .i64 c.due)
theorem CB.lt {s o:Nat} {c:Cs} {u:World} (h:CB s o c u):s<u.heap.size:=World.block_lt_of_cell? u _ h.f0
theorem CB.below {s o:Nat} {c:Cs} {u u':World} (h:CB s o c u) (b:BW u u'):CB s o c u':=by
 have l:=h.lt
 exact ⟨(b.cell (p:=⟨s,o,none⟩) l).trans h.f0,(b.cell (p:=⟨s,o+1,none⟩) l).trans h.f1,(b.cell (p:=⟨s,o+2,none⟩) l).trans h.f2,(b.cell (p:=⟨s,o+3,none⟩) l).trans h.f3,(b.cell (p:=⟨s,o+4,none⟩) l).trans h.f4,(b.cell (p:=⟨s,o+5,none⟩) l).trans h.f5,
  (b.cell (p:=⟨s,o+6,none⟩) l).trans h.f6,(b.cell (p:=⟨s,o+7,none⟩) l).trans h.f7,(b.cell (p:=⟨s,o+8,none⟩) l).trans h.f8,(b.cell (p:=⟨s,o+9,none⟩) l).trans h.f9,(b.cell (p:=⟨s,o+10,none⟩) l).trans h.f10,(b.cell (p:=⟨s,o+11,none⟩) l).trans h.f11⟩
theorem CB.grown {s o:Nat} {c:Cs} {u u':World} {row:Option Nat} (h:CB s o c u) (g:u.grownBy u' row) (hr:some s≠row):CB s o c u':=by
 have l:=h.lt
 exact ⟨(g.cell_far ⟨s,o,none⟩ l hr).trans h.f0,(g.cell_far ⟨s,o+1,none⟩ l hr).trans h.f1,(g.cell_far ⟨s,o+2,none⟩ l hr).trans h.f2,(g.cell_far ⟨s,o+3,none⟩ l hr).trans h.f3,(g.cell_far ⟨s,o+4,none⟩ l hr).trans h.f4,(g.cell_far ⟨s,o+5,none⟩ l hr).trans h.f5,
  (g.cell_far ⟨s,o+6,none⟩ l hr).trans h.f6,(g.cell_far ⟨s,o+7,none⟩ l hr).trans h.f7,(g.cell_far ⟨s,o+8,none⟩ l hr).trans h.f8,(g.cell_far ⟨s,o+9,none⟩ l hr).trans h.f9,(g.cell_far ⟨s,o+10,none⟩ l hr).trans h.f10,(g.cell_far ⟨s,o+11,none⟩ l hr).trans h.f11⟩
theorem CB.new (w:World) (c:Cs) (t:TypeId):CB w.heap.size 0 c (w.alloc (.cells #[.int .i64 c.iss,.int .i64 c.acq,.int .i64 c.cur,.int .i64 c.am,.int .i64 c.st,.int .i64 c.rsn,.int .i64 c.cl,.int .i64 c.bk,.int .i64 c.fee,.bool c.cop,.int .i64 c.sta,.int .i64 c.due] t)):=by
 exact ⟨by simp,by simp,by simp,by simp,by simp,by simp,by simp,by simp,by simp,by simp,by simp,by simp⟩
structure FZ (s o:Nat) (u:World):Prop where
 z0:u.frozen? ⟨s,o,none⟩=false
 z1:u.frozen? ⟨s,o+1,none⟩=false
 z2:u.frozen? ⟨s,o+2,none⟩=false
 z3:u.frozen? ⟨s,o+3,none⟩=false
 z4:u.frozen? ⟨s,o+4,none⟩=false
 z5:u.frozen? ⟨s,o+5,none⟩=false
 z6:u.frozen? ⟨s,o+6,none⟩=false
 z7:u.frozen? ⟨s,o+7,none⟩=false
 z8:u.frozen? ⟨s,o+8,none⟩=false
 z9:u.frozen? ⟨s,o+9,none⟩=false
 z10:u.frozen? ⟨s,o+10,none⟩=false
 z11:u.frozen? ⟨s,o+11,none⟩=false
theorem FZ.below {s o:Nat} {u u':World} (h:FZ s o u) (l:s<u.heap.size) (b:BW u u'):FZ s o u' :=
 ⟨(b.frozen (p:=⟨s,o,none⟩) l).trans h.z0,(b.frozen (p:=⟨s,o+1,none⟩) l).trans h.z1,(b.frozen (p:=⟨s,o+2,none⟩) l).trans h.z2,(b.frozen (p:=⟨s,o+3,none⟩) l).trans h.z3,(b.frozen (p:=⟨s,o+4,none⟩) l).trans h.z4,(b.frozen (p:=⟨s,o+5,none⟩) l).trans h.z5,(b.frozen (p:=⟨s,o+6,none⟩) l).trans h.z6,(b.frozen (p:=⟨s,o+7,none⟩) l).trans h.z7,(b.frozen (p:=⟨s,o+8,none⟩) l).trans h.z8,(b.frozen (p:=⟨s,o+9,none⟩) l).trans h.z9,(b.frozen (p:=⟨s,o+10,none⟩) l).trans h.z10,(b.frozen (p:=⟨s,o+11,none⟩) l).trans h.z11⟩
theorem FZ.grown {s o:Nat} {u u':World} {row:Option Nat} (h:FZ s o u) (l:s<u.heap.size) (g:u.grownBy u' row) (hr:some s≠row):FZ s o u' :=
 ⟨(g.frozen_far ⟨s,o,none⟩ l hr).trans h.z0,(g.frozen_far ⟨s,o+1,none⟩ l hr).trans h.z1,(g.frozen_far ⟨s,o+2,none⟩ l hr).trans h.z2,(g.frozen_far ⟨s,o+3,none⟩ l hr).trans h.z3,(g.frozen_far ⟨s,o+4,none⟩ l hr).trans h.z4,(g.frozen_far ⟨s,o+5,none⟩ l hr).trans h.z5,(g.frozen_far ⟨s,o+6,none⟩ l hr).trans h.z6,(g.frozen_far ⟨s,o+7,none⟩ l hr).trans h.z7,(g.frozen_far ⟨s,o+8,none⟩ l hr).trans h.z8,(g.frozen_far ⟨s,o+9,none⟩ l hr).trans h.z9,(g.frozen_far ⟨s,o+10,none⟩ l hr).trans h.z10,(g.frozen_far ⟨s,o+11,none⟩ l hr).trans h.z11⟩
theorem FZ.new (w:World) (cs:Array Value) (t:TypeId):FZ w.heap.size 0 (w.alloc (.cells cs t)) :=
 (by constructor<;>simp [go_sem, *])
def Cz (u:World) (h:Nat) (c:Cs):World :=
 (((((((((((u.setCell ⟨h,0,none⟩ (.int .i64 c.iss)).setCell ⟨h,1,none⟩ (.int .i64 c.acq)).setCell ⟨h,2,none⟩ (.int .i64 c.cur)).setCell ⟨h,3,none⟩ (.int .i64 c.am)).setCell ⟨h,4,none⟩ (.int .i64 c.st)).setCell ⟨h,5,none⟩ (.int .i64 c.rsn)).setCell ⟨h,6,none⟩ (.int .i64 c.cl)).setCell ⟨h,7,none⟩ (.int .i64 c.bk)).setCell ⟨h,8,none⟩ (.int .i64 c.fee)).setCell ⟨h,9,none⟩ (.bool c.cop)).setCell ⟨h,10,none⟩ (.int .i64 c.sta)).setCell ⟨h,11,none⟩ (.int .i64 c.due)
theorem Cp {w u:World} {h n:Nat} (c:Cs) (b:Below n w u) (hn:n≤h):Below n w (Cz u h c) :=
 (((((((((((b.setCell hn _).setCell hn _).setCell hn _).setCell hn _).setCell hn _).setCell hn _).setCell hn _).setCell hn _).setCell hn _).setCell hn _).setCell hn _).setCell hn _
theorem Mb {u:World} {h:Nat} {c d:Cs} (b:CB h 0 d u):CB h 0 c (Cz u h c):=by
 obtain ⟨f0,f1,f2,f3,f4,f5,f6,f7,f8,f9,f10,f11⟩:=b
 simp only [Nat.zero_add] at f0 f1 f2 f3 f4 f5 f6 f7 f8 f9 f10 f11
 exact ⟨by simp [Cz,go_sem,f0],by simp [Cz,go_sem,f1],by simp [Cz,go_sem,f2],by simp [Cz,go_sem,f3],by simp [Cz,go_sem,f4],by simp [Cz,go_sem,f5],by simp [Cz,go_sem,f6],by simp [Cz,go_sem,f7],by simp [Cz,go_sem,f8],by simp [Cz,go_sem,f9],by simp [Cz,go_sem,f10],by simp [Cz,go_sem,f11]⟩
theorem Av {w w':World} {base n size:Nat} {t:TypeId} {v:Value} {xs:List Value} (h:w.ownsRow base t size v n xs) (hb:BW w w'):w'.ownsRow base t size v n xs:=by
 obtain ⟨h1,h2⟩:=h;refine ⟨h1,?_⟩
 rcases h2 with h | ⟨g,cap,cur,hv,hg,hh,a1,a2,a3,a4⟩
 ·exact .inl h
 ·have hlt:g<w.heap.size:=(Array.getElem?_eq_some_iff.1 hh).1
  exact .inr ⟨g,cap,cur,hv,hg,(hb.block g hlt).trans hh,a1,a2,a3,a4⟩
theorem A5 {w:World} {base n size:Nat} {t:TypeId} {v:Value} {xs:List Value} (h:w.ownsRow base t size v n xs) (p:Addr) (u:Value) (hp:∀ g,v.ownBlock=some g→g≠p.block):(w.setCell p u).ownsRow base t size v n xs:=by
 obtain ⟨h1,h2⟩:=h;refine ⟨h1,?_⟩
 rcases h2 with h | ⟨g,cap,cur,hv,hg,hh,a1,a2,a3,a4⟩
 ·exact .inl h
 ·exact .inr ⟨g,cap,cur,hv,hg,(Below.heap_setCell w p u g (hp g (by rw [hv];rfl))).trans hh,a1,a2,a3,a4⟩
theorem sH {w w':World} {base n size:Nat} {t:TypeId} {v:Value} {xs:List Value} {row:Option Nat} (h:w.ownsRow base t size v n xs) (hg:w.grownBy w' row) (hne:∀ g,v.ownBlock=some g→some g≠row):w'.ownsRow base t size v n xs:=by
 obtain ⟨h1,h2⟩:=h;refine ⟨h1,?_⟩
 rcases h2 with h | ⟨g,cap,cur,hv,hg',hh,a1,a2,a3,a4⟩
 ·exact .inl h
 ·have hlt:g<w.heap.size:=(Array.getElem?_eq_some_iff.1 hh).1
  exact .inr ⟨g,cap,cur,hv,hg',(hg.block g hlt (hne g (by rw [hv];rfl))).trans hh,a1,a2,a3,a4⟩
theorem Bi {w:World} {base base' n size:Nat} {t:TypeId} {v:Value} {xs:List Value} (h:w.ownsRow base t size v n xs) (hb:base'≤base):w.ownsRow base' t size v n xs:=by
 obtain ⟨h1,h2⟩:=h;refine ⟨h1,?_⟩
 rcases h2 with h | ⟨g,cap,cur,hv,hg,r⟩
 ·exact .inl h
 ·exact .inr ⟨g,cap,cur,hv,Nat.le_trans hb hg,r⟩
theorem bY:(prog.info? 113).map (fun i=>(i.zero,i.size,i.bytes))=some (some (.agg #[.int .i64 0,.int .i64 0,.int .i64 0]),3,24):=by kernel_rfl
theorem Df {w:World} {base n:Nat} {t:TypeId} {ao:Option Addr} {cap:Nat} {ls:List Ln} (h:w.ownsRow base t 3 (.slice ao ls.length cap) n (Ag ls)):Ai w ao ls:=by
 obtain ⟨ao',cap',hv,hf,_⟩:=Ef h
 obtain ⟨rfl,_⟩:ao=ao'∧cap=cap':=by simpa using hv
 exact hf
def sW (x:En):List Value:=[.int .i64 x.1,.int .i64 x.2.1,.int .i64 x.2.2.1,.int .i64 x.2.2.2]
def Ba (es:List En):List Value:=es.flatMap sW
theorem Ou (x:En) (r:List En):Ba (x::r)=.int .i64 x.1::.int .i64 x.2.1::.int .i64 x.2.2.1::.int .i64 x.2.2.2::Ba r:=rfl
theorem aK (es:List En):(Ba es).length=es.length*4:=by
 induction es with
 | nil=>rfl
 | cons f r ih=>rw [Ou];simp [ih];omega
theorem fS (es:List En):∀ k,k<es.length→(Ba es)[k*4]?=some (.int .i64 (I4 es k).1)∧(Ba es)[k*4+1]?=some (.int .i64 (I4 es k).2.1)∧(Ba es)[k*4+2]?=some (.int .i64 (I4 es k).2.2.1)∧(Ba es)[k*4+3]?=some (.int .i64 (I4 es k).2.2.2):=by
 induction es with
 | nil=>intro k h;simp at h
 | cons f r ih =>
  intro k h;rw [Ou]
  cases k with
  | zero=>exact ⟨rfl,rfl,rfl,rfl⟩
  | succ k =>
   have:=ih k (by simpa using h)
   rw [show (k+1) * 4=k*4+1+1+1+1 by omega]
   simp only [List.getElem?_cons_succ]
   exact this
theorem Gh {w:World} {base n:Nat} {t:TypeId} {v:Value} {es:List En} (h:w.ownsRow base t 4 v n (Ba es)):∃ ao cap,v=.slice ao es.length cap∧C8 w ao es∧n=es.length:=by
 have hn:n=es.length:=by have:=h.1;rw [aK] at this;omega
 subst hn
 rcases h.2 with ⟨rfl,hn⟩ | ⟨g,cap,cur,rfl,_⟩
 ·have:es=[]:=List.eq_nil_of_length_eq_zero hn
  subst this;exact ⟨none,0,rfl,.inl rfl,rfl⟩
 ·refine ⟨_,cap,rfl,?_,rfl⟩
  by_cases h0:es=[]
  ·exact .inl h0
  ·refine .inr ⟨g,0,rfl,(h.lt g rfl).2,fun i hi=>?_⟩
   have:=fS es i hi
   rw [Nat.zero_add,h.cellAt (i*4) (by omega),h.cellAt (i*4+1) (by omega),h.cellAt (i*4+2) (by omega),h.cellAt (i*4+3) (by omega)]
   exact this
theorem Hk {w:World} {base n:Nat} {t:TypeId} {ao:Option Addr} {cap:Nat} {es:List En} (h:w.ownsRow base t 4 (.slice ao es.length cap) n (Ba es)):C8 w ao es:=by
 obtain ⟨ao',cap',hv,hf,_⟩:=Gh h
 obtain ⟨rfl,_⟩:ao=ao'∧cap=cap':=by simpa using hv
 exact hf
theorem sI:(prog.info? 269).map (fun i=>(i.zero,i.size,i.bytes))=some (some (.agg #[.int .i64 0,.int .i64 0,.int .i64 0,.int .i64 0]),4,32):=by kernel_rfl
end Go.Proofs.YtomiclakhjncbaaGreatDoor
namespace Go.Proofs.YtomiclakhjncbaaGreatDoor
open Go.ChangeShapes Go.WideShapes Go.ChangeAt Go.RowKit Go.Proofs.Tryz
set_option maxRecDepth 100000
set_option maxHeartbeats 12800000
def Qk (c:Cs):Prop:=Bf c.iss∧Bf c.acq∧Bf c.cur∧Bf c.am∧Bf c.st∧Bf c.rsn∧Bf c.cl∧Bf c.bk∧Bf c.fee∧Bf c.sta∧Bf c.due
def av (a:Ac):Value:=.agg #[.int .i64 a.kind,.int .i64 a.am,.int .i64 a.rsn]
section
variable {P:Program} {H:Type} {enc:TypeId×Value→H} {W:World}
end
end Go.Proofs.YtomiclakhjncbaaGreatDoor
namespace Go.Proofs.YtomiclakhjncbaaGreatDoor
open Go.ChangeShapes Go.WideShapes Go.ChangeAt Go.RowKit Go.Deep Go.Proofs.Tryz
set_option maxRecDepth 100000
set_option maxHeartbeats 12800000
def A8 (cs:List Cs) (k:Nat):Cs:=cs.getD k ⟨0,0,0,0,0,0,0,0,0,false,0,0⟩
theorem bT {cs:List Cs} {k:Nat} (h:k<cs.length):A8 cs k=cs[k]:=by simp [A8,List.getD_eq_getElem?_getD,h]
theorem Xg {cs:List Cs} {k:Nat} (h:k<cs.length):A8 cs k ∈ cs:=by rw [bT h];exact List.getElem_mem h
def A0 (w:World) (ao:Option Addr) (cs:List Cs):Prop :=
 cs=[]∨∃ b off,ao=some ⟨b,off,none⟩∧b<w.heap.size∧∀ i,i<cs.length→CB b (off+i*12) (A8 cs i) w
theorem A0.below {w w':World} {ao:Option Addr} {cs:List Cs} (h:A0 w ao cs) (hb:BW w w'):A0 w' ao cs:=by
 rcases h with h | ⟨b,off,h1,h2,h3⟩
 ·exact .inl h
 ·exact .inr ⟨b,off,h1,Nat.lt_of_lt_of_le h2 hb.size,fun i hi=>(h3 i hi).below hb⟩
theorem A0.at {w:World} {ao:Option Addr} {cs:List Cs} (h:A0 w ao cs) {k:Nat} (hk:k<cs.length):∃ b off,ao=some ⟨b,off,none⟩∧b<w.heap.size∧CB b (off+k*12) (A8 cs k) w:=by
 rcases h with rfl | ⟨b,off,h1,h2,h3⟩
 ·simp at hk
 ·exact ⟨b,off,h1,h2,h3 k hk⟩
section
variable {P:Program} {H:Type} {enc:TypeId×Value→H} {W:World}
end
def Aj (cs:List Cs):List Value:=cs.flatMap fun c=>(Xt c).toList
theorem Mm (c:Cs) (r:List Cs):Aj (c::r)=(Xt c).toList++Aj r:=rfl
theorem J5 (a b:List Cs):Aj (a++b)=Aj a++Aj b:=by simp [Aj]
theorem Ge (cs:List Cs):(Aj cs).length=cs.length*12:=by
 induction cs with
 | nil=>rfl
 | cons c r ih=>rw [Mm,List.length_append,ih];simp [Xt];omega
theorem E6 (cs:List Cs):∀ (k j:Nat),k<cs.length→j<12→(Aj cs)[k*12+j]?=(Xt (A8 cs k)).toList[j]?:=by
 induction cs with
 | nil=>intro k j h;simp at h
 | cons c r ih =>
  intro k j hk hj;rw [Mm]
  cases k with
  | zero =>
   rw [List.getElem?_append_left (by simp [Xt];omega)]
   simp [A8]
  | succ k =>
   have hl:(Xt c).toList.length=12:=by simp [Xt]
   rw [List.getElem?_append_right (by rw [hl];omega),hl,show (k+1) * 12+j - 12=k*12+j by omega,ih k j (by simpa using hk) hj]
   simp [A8]
theorem Vx (cs:List Cs):∀ u ∈ Aj cs,u.oneCell'=true:=by
 intro u hu
 simp [Aj,Xt] at hu
 obtain ⟨c,_,h⟩:=hu
 rcases h with rfl | rfl | rfl | rfl | rfl | rfl | rfl | rfl | rfl | rfl | rfl | rfl <;> rfl
theorem F2 {w:World} {base n:Nat} {t:TypeId} {ao:Option Addr} {cap:Nat} {cs:List Cs} (h:w.ownsRow base t 12 (.slice ao n cap) n (Aj cs)):A0 w ao cs:=by
 rcases h.2 with ⟨hv,h0⟩ | ⟨g,cap',cur,hv,hrest⟩
 ·have hl:=h.1
  obtain ⟨rfl,rfl,rfl⟩:ao=none∧n=0∧cap=0:=by simpa using hv
  rw [Ge] at hl
  exact .inl (List.length_eq_zero_iff.1 (by omega))
 ·have hl:=h.1
  rw [Ge] at hl
  obtain ⟨rfl,rfl⟩:ao=some ⟨g,0,none⟩∧cap=cap':=by simpa using hv
  by_cases hz:cs=[]
  ·exact .inl hz
  ·have hlt:=(h.lt g rfl).2
   refine .inr ⟨g,0,rfl,hlt,fun i hi=>?_⟩
   have e:∀ j,j<12→w.cell? ⟨g,0+i*12+j,none⟩=(Xt (A8 cs i)).toList[j]?:=fun j hj=>by
    rw [Nat.zero_add,h.cellAt (i*12+j) (by omega),E6 cs i j hi hj]
   exact ⟨e 0 (by omega),e 1 (by omega),e 2 (by omega),e 3 (by omega),e 4 (by omega),e 5 (by omega),e 6 (by omega),e 7 (by omega),e 8 (by omega),e 9 (by omega),e 10 (by omega),e 11 (by omega)⟩
end Go.Proofs.YtomiclakhjncbaaGreatDoor
namespace Go.Proofs.YtomiclakhjncbaaGreatDoor
open Go.RowKit Go.Proofs.Tryz
set_option maxRecDepth 100000
set_option maxHeartbeats 12800000
end Go.Proofs.YtomiclakhjncbaaGreatDoor
namespace Go.Proofs.YtomiclakhjncbaaGreatDoor
open Go.ChangeShapes Go.WideShapes Go.ChangeAt Go.RowKit Go.Deep Go.Proofs.Tryz
set_option maxRecDepth 100000
set_option maxHeartbeats 12800000
def Bh (w:World) (ao:Option Addr) (rs:Be):Prop :=
 rs=[]∨∃ b off,ao=some ⟨b,off,none⟩∧b<w.heap.size∧∀ i,i<rs.length→w.cell? ⟨b,off+i,none⟩=some (.string ⟨(Al rs i).toArray⟩)
theorem Bh.below {w w':World} {ao:Option Addr} {rs:Be} (h:Bh w ao rs) (hb:BW w w'):Bh w' ao rs:=by
 rcases h with h | ⟨b,off,h1,h2,h3⟩
 ·exact .inl h
 ·exact .inr ⟨b,off,h1,Nat.lt_of_lt_of_le h2 hb.size,fun i hi=>(hb.cell (p:=⟨b,off+i,none⟩) h2).trans (h3 i hi)⟩
def Py (r:List UInt8):Value:=.string ⟨r.toArray⟩
def Am (rs:Be):List Value:=rs.map Py
theorem L7 (rs:Be):(Am rs).length=rs.length:=by simp [Am]
theorem F6 (a b:Be):Am (a++b)=Am a++Am b:=by simp [Am]
theorem Hd (rs:Be) (k:Nat) (h:k<rs.length):(Am rs)[k]?=some (.string ⟨(Al rs k).toArray⟩):=by
 simp [Am,Py,Al,List.getD_eq_getElem?_getD,h]
theorem Lu (rs:Be) (k:Nat) (r:List UInt8):(Am rs).set k (.string ⟨r.toArray⟩)=Am (rs.set k r):=by
 show (rs.map Py).set k (Py r)=(rs.set k r).map Py
 rw [List.map_set]
theorem Zv (rs:Be):∀ u ∈ Am rs,u.oneCell'=true:=by
 intro u hu
 simp only [Am,List.mem_map] at hu
 obtain ⟨r,_,rfl⟩:=hu
 rfl
theorem S1:(prog.info? 9).map (fun i=>(i.zero,i.size,i.bytes))=some (some (.string ⟨#[]⟩),1,16):=by kernel_rfl
theorem Qc (m:Nat):(madeCells (Value.string ⟨#[]⟩).cells (m*1)).toList=Am (List.replicate m []):=by
 rw [Nat.mul_one];refine (toList_madeCells_one _ _).trans ?_
 simp [Am,Py]
theorem Vs {w w':World} {base n size:Nat} {t:TypeId} {v:Value} {xs:List Value} (h:w.ownsRow base t size v n xs) (hb:BW w w'):w'.ownsRow base t size v n xs:=by
 obtain ⟨h1,h2⟩:=h;refine ⟨h1,?_⟩
 rcases h2 with h | ⟨g,cap,cur,hv,hg,hh,a1,a2,a3,a4⟩
 ·exact .inl h
 ·have hlt:g<w.heap.size:=(Array.getElem?_eq_some_iff.1 hh).1
  exact .inr ⟨g,cap,cur,hv,hg,(hb.block g hlt).trans hh,a1,a2,a3,a4⟩
theorem Ov {w:World} {base n:Nat} {t:TypeId} {v:Value} {rs:Be} (h:w.ownsRow base t 1 v n (Am rs)):∃ ao cap,v=.slice ao rs.length cap∧Bh w ao rs∧n=rs.length:=by
 have hn:n=rs.length:=by have:=h.1;rw [L7] at this;omega
 subst hn
 rcases h.2 with ⟨rfl,hn⟩ | ⟨g,cap,cur,rfl,_⟩
 ·have:rs=[]:=List.eq_nil_of_length_eq_zero hn
  subst this;exact ⟨none,0,rfl,.inl rfl,rfl⟩
 ·refine ⟨_,cap,rfl,?_,rfl⟩
  by_cases h0:rs=[]
  ·exact .inl h0
  ·have hlt:=(h.lt g rfl).2
   refine .inr ⟨g,0,rfl,hlt,fun i hi=>?_⟩
   rw [Nat.zero_add,h.cellAt i (by omega)]
   exact Hd rs i hi
theorem Ep {w:World} {base n:Nat} {t:TypeId} {ao:Option Addr} {cap:Nat} {rs:Be} (h:w.ownsRow base t 1 (.slice ao rs.length cap) n (Am rs)):Bh w ao rs:=by
 obtain ⟨ao',cap',hv,hf,_⟩:=Ov h
 obtain ⟨rfl,_⟩:ao=ao'∧cap=cap':=by simpa using hv
 exact hf
theorem Kq {w:World} {b off:Nat} {rs:Be} (h:Bh w (some ⟨b,off,none⟩) rs) {k:Nat} (hk:k<rs.length):w.cell? ⟨b,off+k,none⟩=some (.string ⟨(Al rs k).toArray⟩)∧b<w.heap.size:=by
 rcases h with rfl | ⟨b',off',hq,hb,hc⟩
 ·simp at hk
 ·obtain ⟨rfl,rfl⟩:b=b'∧off=off':=by simpa using hq
  exact ⟨hc k hk,hb⟩
theorem Rf (r:List UInt8):∀ u ∈ [Value.string ⟨r.toArray⟩],u.oneCell'=true:=by
 intro u hu
 simp at hu
 subst hu;rfl
def Eg (rs:Be) (k:Nat):Be:=rs.take k++List.replicate (rs.length - k) []
theorem S5 (rs:Be):Eg rs rs.length=rs:=by simp [Eg]
theorem Tq (rs:Be) (k:Nat) (h:k≤rs.length):(Eg rs k).length=rs.length:=by simp [Eg];omega
theorem Q8 (rs:Be) (k:Nat) (h:k<rs.length):(Eg rs k).set k (Al rs k)=Eg rs (k+1):=by
 unfold Eg
 rw [List.set_append,if_neg (by simp;omega),List.length_take,Nat.min_eq_left (Nat.le_of_lt h),Nat.sub_self,show rs.length - k=rs.length - (k+1)+1 by omega,List.replicate_succ,List.set_cons_zero,lI rs k h,List.append_assoc]
 rfl
theorem Wd (rs:Be) (k:Nat) (h:k<rs.length):Al (Eg rs k) k=[]:=by
 simp [Al,Eg,List.getD_eq_getElem?_getD,List.getElem?_append,Nat.min_eq_left (Nat.le_of_lt h),List.getElem?_replicate]
 split <;> rfl
end Go.Proofs.YtomiclakhjncbaaGreatDoor
namespace Go.Proofs.YtomiclakhjncbaaGreatDoor
open Go.RowKit Go.Proofs.Tryz
set_option maxRecDepth 100000
set_option maxHeartbeats 12800000
theorem Rr (ao bo:Option Addr) (c1 c2:Nat) (xs ys:Be) (w:World) (hx:Bh w ao xs) (hy:Bh w bo ys) (h1:xs.length≤1099511627776) (h2:ys.length≤1099511627776) :
  Calls prog 17 #[.slice ao xs.length c1,.slice bo ys.length c2] w fun e w'=>e=.returned (.bool (decide (xs=ys)))∧BW w w':=by
 by_cases hl:xs.length=ys.length
 ·rcases hx with rfl | ⟨b,off,rfl,hb,hcx⟩
  ·have hy0:ys=[]:=List.eq_nil_of_length_eq_zero hl.symm
   subst hy0
   go_enter func17,ntmps17
   go_wp2;refine wp_loop_rounds 1 ?_;rw [rounds_succ];go_wp2;go_ret;exact ⟨rfl,bR⟩
  ·rcases hy with rfl | ⟨d,off2,rfl,hd,hcy⟩
   ·have hx0:xs=[]:=List.eq_nil_of_length_eq_zero hl
    subst hx0
    go_enter func17,ntmps17
    go_wp2;refine wp_loop_rounds 1 ?_;rw [rounds_succ];go_wp2;go_ret;exact ⟨rfl,bR⟩
   ·obtain ⟨n,hn⟩:∃ n,xs.length=n:=⟨_,rfl⟩
    have hn2:ys.length=n:=by omega
    rw [hn] at hcx h1 ⊢;rw [hn2] at hcy ⊢;have HX:Hid (xs.length=n):=hn;have HY:Hid (ys.length=n):=hn2;have HCX:Hid (∀ i,i<n→w.cell? ⟨b,off+i,none⟩=some (.string ⟨(Al xs i).toArray⟩)):=hcx;have HCY:Hid (∀ i,i<n→w.cell? ⟨d,off2+i,none⟩=some (.string ⟨(Al ys i).toArray⟩)):=hcy;clear hl hn hn2 hcx hcy
    go_enter func17,ntmps17
    go_wp2
    go_loopw [5] (fun i wr=>∃ k:Nat,k≤n∧i=.int .i64 k∧(∀ j,j<k→Al xs j=Al ys j)∧BW w wr) (fun i _=>n - (intOf i).toNat)
    case atStart=>exact ⟨0,Nat.zero_le _,rfl,fun j hj=>by omega,bR⟩
    case round =>
     obtain ⟨k,hk,rfl,hsame,hbr⟩:=hrel;have HS:Hid (∀ j,j<k→Al xs j=Al ys j):=hsame;clear hsame
     by_cases hlt:k<n
     ·have e1:wr.cell? ⟨b,off+k,none⟩=some (.string ⟨(Al xs k).toArray⟩):=(hbr.cell (p:=⟨b,off+k,none⟩) hb).trans (HCX.o k hlt)
      have e3:wr.cell? ⟨d,off2+k,none⟩=some (.string ⟨(Al ys k).toArray⟩):=(hbr.cell (p:=⟨d,off2+k,none⟩) hd).trans (HCY.o k hlt)
      have hki:(k:Int)<(n:Int):=by omega
      have HNE:Hid (Al xs k≠Al ys k→¬ xs=ys):=fun h e=>h (by rw [e])
      obtain ⟨s,hxk⟩:∃ x,Al xs k=x:=⟨_,rfl⟩;obtain ⟨t,hyk⟩:∃ y,Al ys k=y:=⟨_,rfl⟩;rw [hxk] at e1;rw [hyk] at e3;have HXK:Hid (Al xs k=s):=hxk;have HYK:Hid (Al ys k=t):=hyk;clear hxk hyk;have hne:=K0 wr;have g1:=As e1;have g3:=As e3
      by_cases hs1:s=t
      ·subst hs1
       have HY2:Hid (Al xs k=Al ys k):=by rw [Hid,HXK.o,HYK.o]
       have hss:(s == s)=true:=by simp
       clear HNE;go_wp2
       refine B6 (by kernel_rfl) (by kernel_rfl) ?_
       repeat (go_big_quiet_step (fail))
       refine wpQuiet_nil ?_;rintro _ ⟨⟨w2,b2⟩,hw2⟩;subst hw2;go_wp2
       go_roundw
       case rel=>exact ⟨k+1,by omega,by go_num,fun j hj=>by rcases (show j<k∨j=k from by omega) with h | rfl;exact HS.o j h;exact HY2.o,hbr.trans (b2.mono hbr.size)⟩
       case measure=>simp [intOf];omega
      ·have hs2:(s == t)=false:=by simpa using hs1
       have HN:Hid (¬ xs=ys):=HNE.o (by rw [HXK.o,HYK.o];exact hs1)
       clear HNE hs1;go_wp2
       refine B6 (by kernel_rfl) (by kernel_rfl) ?_
       repeat (go_big_quiet_step (fail))
       refine wpQuiet_nil ?_;rintro _ ⟨⟨w2,b2⟩,hw2⟩;subst hw2;go_wp2;go_ret
       exact ⟨Aa (by rw [decide_eq_false HN.o]),hbr.trans (b2.mono hbr.size)⟩
     ·have HE:Hid (xs=ys):=by
        apply List.ext_getElem (by rw [HX.o,HY.o])
        intro i g1 g2
        have:=HS.o i (by rw [HX.o] at g1;omega)
        simpa [Al,List.getD_eq_getElem?_getD,g1,g2] using this
      go_wp2;go_ret
      exact ⟨Aa (by rw [decide_eq_true HE.o]),hbr⟩
 ·have hne:((xs.length:Int) != (ys.length:Int))=true:=by simp;omega
  have HE:Hid (¬ xs=ys):=fun e=>hl (by rw [e])
  go_enter func17,ntmps17
  go_wp2;go_ret
  exact ⟨Aa (by rw [decide_eq_false HE.o]),bR⟩
theorem uN (ao bo:Option Addr) (c1 c2:Nat) (xs ys:Be) (w:World) (hx:Bh w ao xs) (hy:Bh w bo ys) (h1:xs.length≤1099511627776) (h2:ys.length≤1099511627776) :
  Calls prog 42 #[.slice ao xs.length c1,.slice bo ys.length c2] w fun e w'=>e=.returned (.bool (decide (xs=ys)))∧BW w w':=by
 by_cases hl:xs.length=ys.length
 ·rcases hx with rfl | ⟨b,off,rfl,hb,hcx⟩
  ·have hy0:ys=[]:=List.eq_nil_of_length_eq_zero hl.symm
   subst hy0
   go_enter func42,ntmps42
   go_wp2;refine wp_loop_rounds 1 ?_;rw [rounds_succ];go_wp2;go_ret;exact ⟨rfl,bR⟩
  ·rcases hy with rfl | ⟨d,off2,rfl,hd,hcy⟩
   ·have hx0:xs=[]:=List.eq_nil_of_length_eq_zero hl
    subst hx0
    go_enter func42,ntmps42
    go_wp2;refine wp_loop_rounds 1 ?_;rw [rounds_succ];go_wp2;go_ret;exact ⟨rfl,bR⟩
   ·obtain ⟨n,hn⟩:∃ n,xs.length=n:=⟨_,rfl⟩
    have hn2:ys.length=n:=by omega
    rw [hn] at hcx h1 ⊢;rw [hn2] at hcy ⊢;have HX:Hid (xs.length=n):=hn;have HY:Hid (ys.length=n):=hn2;have HCX:Hid (∀ i,i<n→w.cell? ⟨b,off+i,none⟩=some (.string ⟨(Al xs i).toArray⟩)):=hcx;have HCY:Hid (∀ i,i<n→w.cell? ⟨d,off2+i,none⟩=some (.string ⟨(Al ys i).toArray⟩)):=hcy;clear hl hn hn2 hcx hcy
    go_enter func42,ntmps42
    go_wp2
    go_loopw [5] (fun i wr=>∃ k:Nat,k≤n∧i=.int .i64 k∧(∀ j,j<k→Al xs j=Al ys j)∧BW w wr) (fun i _=>n - (intOf i).toNat)
    case atStart=>exact ⟨0,Nat.zero_le _,rfl,fun j hj=>by omega,bR⟩
    case round =>
     obtain ⟨k,hk,rfl,hsame,hbr⟩:=hrel;have HS:Hid (∀ j,j<k→Al xs j=Al ys j):=hsame;clear hsame
     by_cases hlt:k<n
     ·have e1:wr.cell? ⟨b,off+k,none⟩=some (.string ⟨(Al xs k).toArray⟩):=(hbr.cell (p:=⟨b,off+k,none⟩) hb).trans (HCX.o k hlt)
      have e3:wr.cell? ⟨d,off2+k,none⟩=some (.string ⟨(Al ys k).toArray⟩):=(hbr.cell (p:=⟨d,off2+k,none⟩) hd).trans (HCY.o k hlt)
      have hki:(k:Int)<(n:Int):=by omega
      have HNE:Hid (Al xs k≠Al ys k→¬ xs=ys):=fun h e=>h (by rw [e])
      obtain ⟨s,hxk⟩:∃ x,Al xs k=x:=⟨_,rfl⟩;obtain ⟨t,hyk⟩:∃ y,Al ys k=y:=⟨_,rfl⟩;rw [hxk] at e1;rw [hyk] at e3;have HXK:Hid (Al xs k=s):=hxk;have HYK:Hid (Al ys k=t):=hyk;clear hxk hyk;have hne:=K0 wr;have g1:=As e1;have g3:=As e3
      by_cases hs1:s=t
      ·subst hs1
       have HY2:Hid (Al xs k=Al ys k):=by rw [Hid,HXK.o,HYK.o]
       have hss:(s == s)=true:=by simp
       clear HNE;go_wp2
       refine B6 (by kernel_rfl) (by kernel_rfl) ?_
       repeat (go_big_quiet_step (fail))
       refine wpQuiet_nil ?_;rintro _ ⟨⟨w2,b2⟩,hw2⟩;subst hw2;go_wp2
       go_roundw
       case rel=>exact ⟨k+1,by omega,by go_num,fun j hj=>by rcases (show j<k∨j=k from by omega) with h | rfl;exact HS.o j h;exact HY2.o,hbr.trans (b2.mono hbr.size)⟩
       case measure=>simp [intOf];omega
      ·have hs2:(s == t)=false:=by simpa using hs1
       have HN:Hid (¬ xs=ys):=HNE.o (by rw [HXK.o,HYK.o];exact hs1)
       clear HNE hs1;go_wp2
       refine B6 (by kernel_rfl) (by kernel_rfl) ?_
       repeat (go_big_quiet_step (fail))
       refine wpQuiet_nil ?_;rintro _ ⟨⟨w2,b2⟩,hw2⟩;subst hw2;go_wp2;go_ret
       exact ⟨Aa (by rw [decide_eq_false HN.o]),hbr.trans (b2.mono hbr.size)⟩
     ·have HE:Hid (xs=ys):=by
        apply List.ext_getElem (by rw [HX.o,HY.o])
        intro i g1 g2
        have:=HS.o i (by rw [HX.o] at g1;omega)
        simpa [Al,List.getD_eq_getElem?_getD,g1,g2] using this
      go_wp2;go_ret
      exact ⟨Aa (by rw [decide_eq_true HE.o]),hbr⟩
 ·have hne:((xs.length:Int) != (ys.length:Int))=true:=by simp;omega
  have HE:Hid (¬ xs=ys):=fun e=>hl (by rw [e])
  go_enter func42,ntmps42
  go_wp2;go_ret
  exact ⟨Aa (by rw [decide_eq_false HE.o]),bR⟩
def Aw (w:World) (ao:Option Addr) (zs:List Int):Prop :=
 zs=[]∨∃ b off,ao=some ⟨b,off,none⟩∧b<w.heap.size∧∀ i,i<zs.length→w.cell? ⟨b,off+i,none⟩=some (.int .i64 (zs.getD i 0))
theorem Aw.below {w w':World} {ao:Option Addr} {zs:List Int} (h:Aw w ao zs) (hb:BW w w'):Aw w' ao zs:=by
 rcases h with h | ⟨b,off,h1,h2,h3⟩
 ·exact .inl h
 ·exact .inr ⟨b,off,h1,Nat.lt_of_lt_of_le h2 hb.size,fun i hi=>(hb.cell (p:=⟨b,off+i,none⟩) h2).trans (h3 i hi)⟩
theorem Vr {w:World} {base g n cap:Nat} {zs:List Int} (h:w.ownsRow base 3 1 (.slice (some ⟨g,0,none⟩) n cap) n (zs.map (Value.int .i64))):Aw w (some ⟨g,0,none⟩) zs:=by
 by_cases h0:zs=[]
 ·exact .inl h0
 ·have hl:zs.length=n:=by simpa using h.1
  have hp:0<zs.length:=List.length_pos_iff.2 h0
  have hc:∀ i,i<zs.length→w.cell? ⟨g,0+i,none⟩=some (.int .i64 (zs.getD i 0)):=by
   intro i hi
   rw [Nat.zero_add,h.cellAt i (by omega)]
   simp [List.getD_eq_getElem?_getD,hi]
  exact .inr ⟨g,0,rfl,World.block_lt_of_cell? w _ (hc 0 hp),hc⟩
theorem pQ:(prog.info? 3).map (fun i=>(i.zero,i.size,i.bytes))=some (some (.int .i64 0),1,8):=by kernel_rfl
theorem Z3 {xs ys:List Int} (hl:xs.length=ys.length) (h:∀ j,j<xs.length→xs.getD j 0=ys.getD j 0):xs=ys:=by
 apply List.ext_getElem hl;intro i h1 h2
 have:=h i h1
 simpa [List.getD_eq_getElem?_getD,h1,h2] using this
theorem aU (ao bo:Option Addr) (c1 c2:Nat) (xs ys:List Int) (w:World) (hx:Aw w ao xs) (hy:Aw w bo ys) (h1:xs.length≤1099511627776) (h2:ys.length≤1099511627776) :
  Calls prog 16 #[.slice ao xs.length c1,.slice bo ys.length c2] w fun e w'=>e=.returned (.bool (decide (xs=ys)))∧BW w w':=by
 by_cases hl:xs.length=ys.length
 ·rcases hx with rfl | ⟨b,off,rfl,hb,hcx⟩
  ·have hy0:ys=[]:=List.eq_nil_of_length_eq_zero hl.symm
   subst hy0
   go_enter func16,ntmps16
   go_wp2;refine wp_loop_rounds 1 ?_;rw [rounds_succ];go_wp2;go_ret;exact ⟨rfl,bR⟩
  ·rcases hy with rfl | ⟨d,off2,rfl,hd,hcy⟩
   ·have hx0:xs=[]:=List.eq_nil_of_length_eq_zero hl
    subst hx0
    go_enter func16,ntmps16
    go_wp2;refine wp_loop_rounds 1 ?_;rw [rounds_succ];go_wp2;go_ret;exact ⟨rfl,bR⟩
   ·obtain ⟨n,hn⟩:∃ n,xs.length=n:=⟨_,rfl⟩
    have hn2:ys.length=n:=by omega
    rw [hn] at hcx h1 ⊢;rw [hn2] at hcy ⊢;have HX:Hid (xs.length=n):=hn;have HY:Hid (ys.length=n):=hn2;clear hl hn hn2
    go_enter func16,ntmps16
    go_wp2
    go_loopw [5] (fun i wr=>∃ k:Nat,k≤n∧i=.int .i64 k∧(∀ j,j<k→xs.getD j 0=ys.getD j 0)∧BW w wr) (fun i _=>n - (intOf i).toNat)
    case atStart=>exact ⟨0,Nat.zero_le _,rfl,fun j hj=>by omega,bR⟩
    case round =>
     obtain ⟨k,hk,rfl,hsame,hbr⟩:=hrel;have HS:Hid (∀ j,j<k→xs.getD j 0=ys.getD j 0):=hsame;clear hsame
     by_cases hlt:k<n
     ·have e1:wr.cell? ⟨b,off+k,none⟩=some (.int .i64 (xs.getD k 0)):=(hbr.cell (p:=⟨b,off+k,none⟩) hb).trans (hcx k hlt)
      have e2:wr.cell? ⟨d,off2+k,none⟩=some (.int .i64 (ys.getD k 0)):=(hbr.cell (p:=⟨d,off2+k,none⟩) hd).trans (hcy k hlt)
      have hki:(k:Int)<(n:Int):=by omega
      obtain ⟨x,hxk⟩:∃ x,xs.getD k 0=x:=⟨_,rfl⟩;obtain ⟨y,hyk⟩:∃ y,ys.getD k 0=y:=⟨_,rfl⟩;rw [hxk] at e1;rw [hyk] at e2;have HXK:Hid (xs.getD k 0=x):=hxk;have HYK:Hid (ys.getD k 0=y):=hyk;clear hxk hyk hcx hcy
      cases hne:(x != y)
      ·have HE:Hid (xs.getD k 0=ys.getD k 0):=by rw [Hid,HXK.o,HYK.o];simpa using hne
       go_wp2
       go_quiet (fail)
       go_wp2
       go_roundw
       case rel=>exact ⟨k+1,by omega,by go_num,fun j hj=>by rcases (show j<k∨j=k from by omega) with h | rfl;exact HS.o j h;exact HE.o,below_drewN hbr _⟩
       case measure=>simp [intOf];omega
      ·have HE:Hid (¬ xs=ys):=fun e=>by subst e;rw [← HXK.o,← HYK.o] at hne;simp at hne
       go_wp2
       go_quiet (fail)
       go_wp2;go_ret
       exact ⟨Aa (by simpa using HE.o),below_drewN hbr _⟩
     ·have HE:Hid (xs=ys):=Z3 (by rw [HX.o,HY.o]) (fun j hj=>HS.o j (by rw [HX.o] at hj;omega))
      clear hcx hcy;go_wp2;go_ret
      exact ⟨Aa (by simpa using HE.o),hbr⟩
 ·have hne:((xs.length:Int) != (ys.length:Int))=true:=by simp;omega
  have HE:Hid (¬ xs=ys):=fun e=>hl (by rw [e])
  go_enter func16,ntmps16
  go_wp2;go_ret
  exact ⟨Aa (by simpa using HE.o),bR⟩
theorem tW (ao bo:Option Addr) (c1 c2:Nat) (xs ys:List Int) (w:World) (hx:Aw w ao xs) (hy:Aw w bo ys) (h1:xs.length≤1099511627776) (h2:ys.length≤1099511627776) :
  Calls prog 33 #[.slice ao xs.length c1,.slice bo ys.length c2] w fun e w'=>e=.returned (.bool (decide (xs=ys)))∧BW w w':=by
 by_cases hl:xs.length=ys.length
 ·rcases hx with rfl | ⟨b,off,rfl,hb,hcx⟩
  ·have hy0:ys=[]:=List.eq_nil_of_length_eq_zero hl.symm
   subst hy0
   go_enter func33,ntmps33
   go_wp2;refine wp_loop_rounds 1 ?_;rw [rounds_succ];go_wp2;go_ret;exact ⟨rfl,bR⟩
  ·rcases hy with rfl | ⟨d,off2,rfl,hd,hcy⟩
   ·have hx0:xs=[]:=List.eq_nil_of_length_eq_zero hl
    subst hx0
    go_enter func33,ntmps33
    go_wp2;refine wp_loop_rounds 1 ?_;rw [rounds_succ];go_wp2;go_ret;exact ⟨rfl,bR⟩
   ·obtain ⟨n,hn⟩:∃ n,xs.length=n:=⟨_,rfl⟩
    have hn2:ys.length=n:=by omega
    rw [hn] at hcx h1 ⊢;rw [hn2] at hcy ⊢;have HX:Hid (xs.length=n):=hn;have HY:Hid (ys.length=n):=hn2;clear hl hn hn2
    go_enter func33,ntmps33
    go_wp2
    go_loopw [5] (fun i wr=>∃ k:Nat,k≤n∧i=.int .i64 k∧(∀ j,j<k→xs.getD j 0=ys.getD j 0)∧BW w wr) (fun i _=>n - (intOf i).toNat)
    case atStart=>exact ⟨0,Nat.zero_le _,rfl,fun j hj=>by omega,bR⟩
    case round =>
     obtain ⟨k,hk,rfl,hsame,hbr⟩:=hrel;have HS:Hid (∀ j,j<k→xs.getD j 0=ys.getD j 0):=hsame;clear hsame
     by_cases hlt:k<n
     ·have e1:wr.cell? ⟨b,off+k,none⟩=some (.int .i64 (xs.getD k 0)):=(hbr.cell (p:=⟨b,off+k,none⟩) hb).trans (hcx k hlt)
      have e2:wr.cell? ⟨d,off2+k,none⟩=some (.int .i64 (ys.getD k 0)):=(hbr.cell (p:=⟨d,off2+k,none⟩) hd).trans (hcy k hlt)
      have hki:(k:Int)<(n:Int):=by omega
      obtain ⟨x,hxk⟩:∃ x,xs.getD k 0=x:=⟨_,rfl⟩;obtain ⟨y,hyk⟩:∃ y,ys.getD k 0=y:=⟨_,rfl⟩;rw [hxk] at e1;rw [hyk] at e2;have HXK:Hid (xs.getD k 0=x):=hxk;have HYK:Hid (ys.getD k 0=y):=hyk;clear hxk hyk hcx hcy
      cases hne:(x != y)
      ·have HE:Hid (xs.getD k 0=ys.getD k 0):=by rw [Hid,HXK.o,HYK.o];simpa using hne
       go_wp2
       go_quiet (fail)
       go_wp2
       go_roundw
       case rel=>exact ⟨k+1,by omega,by go_num,fun j hj=>by rcases (show j<k∨j=k from by omega) with h | rfl;exact HS.o j h;exact HE.o,below_drewN hbr _⟩
       case measure=>simp [intOf];omega
      ·have HE:Hid (¬ xs=ys):=fun e=>by subst e;rw [← HXK.o,← HYK.o] at hne;simp at hne
       go_wp2
       go_quiet (fail)
       go_wp2;go_ret
       exact ⟨Aa (by simpa using HE.o),below_drewN hbr _⟩
     ·have HE:Hid (xs=ys):=Z3 (by rw [HX.o,HY.o]) (fun j hj=>HS.o j (by rw [HX.o] at hj;omega))
      clear hcx hcy;go_wp2;go_ret
      exact ⟨Aa (by simpa using HE.o),hbr⟩
 ·have hne:((xs.length:Int) != (ys.length:Int))=true:=by simp;omega
  have HE:Hid (¬ xs=ys):=fun e=>hl (by rw [e])
  go_enter func33,ntmps33
  go_wp2;go_ret
  exact ⟨Aa (by simpa using HE.o),bR⟩
theorem Pc (cs:List Cs) (c:Cs):∀ k,k<cs.length→(((((((((((((Aj cs).set (k*12) (.int .i64 c.iss)).set (k*12+1) (.int .i64 c.acq)).set (k*12+2) (.int .i64 c.cur)).set (k*12+3) (.int .i64 c.am)).set (k*12+4) (.int .i64 c.st)).set (k*12+5) (.int .i64 c.rsn)).set (k*12+6) (.int .i64 c.cl)).set (k*12+7) (.int .i64 c.bk)).set (k*12+8) (.int .i64 c.fee)).set (k*12+9) (.bool c.cop)).set (k*12+10) (.int .i64 c.sta)).set (k*12+11) (.int .i64 c.due))=Aj (cs.set k c):=by
 induction cs with
 | nil=>intro k h;simp at h
 | cons g r ih =>
  intro k h
  cases k with
  | zero=>rfl
  | succ k =>
   have:=ih k (by simpa using h)
   have e:Aj (g::r)=.int .i64 g.iss::.int .i64 g.acq::.int .i64 g.cur::.int .i64 g.am::.int .i64 g.st::.int .i64 g.rsn::.int .i64 g.cl::.int .i64 g.bk::.int .i64 g.fee::.bool g.cop::.int .i64 g.sta::.int .i64 g.due::Aj r:=rfl
   rw [e,show (k+1) * 12=k*12+1+1+1+1+1+1+1+1+1+1+1+1 by omega,show k*12+1+1+1+1+1+1+1+1+1+1+1+1+1=(k*12+1)+1+1+1+1+1+1+1+1+1+1+1+1 by omega,show k*12+1+1+1+1+1+1+1+1+1+1+1+1+2=(k*12+2)+1+1+1+1+1+1+1+1+1+1+1+1 by omega,show k*12+1+1+1+1+1+1+1+1+1+1+1+1+3=(k*12+3)+1+1+1+1+1+1+1+1+1+1+1+1 by omega,show k*12+1+1+1+1+1+1+1+1+1+1+1+1+4=(k*12+4)+1+1+1+1+1+1+1+1+1+1+1+1 by omega,show k*12+1+1+1+1+1+1+1+1+1+1+1+1+5=(k*12+5)+1+1+1+1+1+1+1+1+1+1+1+1 by omega,show k*12+1+1+1+1+1+1+1+1+1+1+1+1+6=(k*12+6)+1+1+1+1+1+1+1+1+1+1+1+1 by omega,show k*12+1+1+1+1+1+1+1+1+1+1+1+1+7=(k*12+7)+1+1+1+1+1+1+1+1+1+1+1+1 by omega,show k*12+1+1+1+1+1+1+1+1+1+1+1+1+8=(k*12+8)+1+1+1+1+1+1+1+1+1+1+1+1 by omega,show k*12+1+1+1+1+1+1+1+1+1+1+1+1+9=(k*12+9)+1+1+1+1+1+1+1+1+1+1+1+1 by omega,show k*12+1+1+1+1+1+1+1+1+1+1+1+1+10=(k*12+10)+1+1+1+1+1+1+1+1+1+1+1+1 by omega,show k*12+1+1+1+1+1+1+1+1+1+1+1+1+11=(k*12+11)+1+1+1+1+1+1+1+1+1+1+1+1 by omega]
   simp only [List.set_cons_succ,this]
   rfl
theorem pU:(prog.info? 61).map (fun i=>(i.zero,i.size,i.bytes))=some (some (.agg #[.int .i64 0,.int .i64 0,.int .i64 0,.int .i64 0,.int .i64 0,.int .i64 0,.int .i64 0,.int .i64 0,.int .i64 0,.bool false,.int .i64 0,.int .i64 0]),12,96):=by kernel_rfl
theorem kG {w:World} {base:Nat} {v:Value} {zs:List Int} (h:w.ownsRow base 3 1 v zs.length (zs.map (Value.int .i64))) :
  ∃ ao cap,v=.slice ao zs.length cap∧Aw w ao zs:=by
 rcases h.2 with ⟨rfl,h0⟩ | ⟨g,cap,cur,rfl,hrest⟩
 ·have:zs=[]:=List.eq_nil_of_length_eq_zero h0
  subst this;exact ⟨none,0,rfl,.inl rfl⟩
 ·exact ⟨_,cap,rfl,Vr h⟩
theorem Fz {w:World} {base m:Nat} {v:Value} {xs:List Value} (h:w.ownsRow base 3 1 v m xs):∃ ao cap,v=.slice ao m cap:=by
 rcases h.2 with ⟨rfl,rfl⟩ | ⟨g,cap,cur,rfl,hrest⟩
 ·exact ⟨none,0,rfl⟩
 ·exact ⟨_,cap,rfl⟩
theorem Hq {w:World} {base n cap:Nat} {ao:Option Addr} {zs:List Int} (h:w.ownsRow base 3 1 (.slice ao n cap) n (zs.map (Value.int .i64))):Aw w ao zs:=by
 have hl:zs.length=n:=by simpa using h.1
 subst hl;obtain ⟨ao',c,hv,hz⟩:=kG h
 obtain ⟨rfl,_⟩:ao=ao'∧cap=c:=by simpa using hv
 exact hz
theorem Aaa {w:World} {base g n:Nat} {v:Value} {xs:List Value} (h:w.ownsRow base 3 1 v n xs) (hg:g<base):v.ownBlock=none∨v.ownBlock≠some g:=by
 right;intro e;have:=(h.lt g e).1;omega
theorem aF {w:World} {b off:Nat} {xs:List Cs} (h:A0 w (some ⟨b,off,none⟩) xs):∀ j u,(Aj xs)[j]?=some u→w.cell? ((⟨b,off,none⟩:Addr).add j)=some u:=by
 intro j u hj
 have hlt:j<xs.length*12:=by
  rw [← Ge];exact (List.getElem?_eq_some_iff.1 hj).1
 rcases h with rfl | ⟨b',off',hq,hb,hc⟩
 ·simp at hlt
 ·obtain ⟨rfl,rfl⟩:b=b'∧off=off':=by simpa using hq
  have e:((⟨b,off,none⟩:Addr).add j)=⟨b,off+j,none⟩:=by unfold Addr.add;split <;> simp_all
  obtain ⟨k0,k1,k2,k3,k4,k5,k6,k7,k8,k9,k10,k11⟩:=hc (j / 12) (by omega)
  have hat:=E6 xs (j / 12) (j % 12) (by omega) (by omega)
  rw [show j / 12*12+j % 12=j by omega,hj] at hat
  rw [e]
  rcases (show j % 12=0∨j % 12=1∨j % 12=2∨j % 12=3∨j % 12=4∨j % 12=5∨j % 12=6∨j % 12=7∨j % 12=8∨j % 12=9∨j % 12=10∨j % 12=11 by omega) with e | e | e | e | e | e | e | e | e | e | e | e
  ·rw [e] at hat
   rw [show off+j=off+j / 12*12 by omega,k0]
   exact hat.symm
  ·rw [e] at hat
   rw [show off+j=off+j / 12*12+1 by omega,k1]
   exact hat.symm
  ·rw [e] at hat
   rw [show off+j=off+j / 12*12+2 by omega,k2]
   exact hat.symm
  ·rw [e] at hat
   rw [show off+j=off+j / 12*12+3 by omega,k3]
   exact hat.symm
  ·rw [e] at hat
   rw [show off+j=off+j / 12*12+4 by omega,k4]
   exact hat.symm
  ·rw [e] at hat
   rw [show off+j=off+j / 12*12+5 by omega,k5]
   exact hat.symm
  ·rw [e] at hat
   rw [show off+j=off+j / 12*12+6 by omega,k6]
   exact hat.symm
  ·rw [e] at hat
   rw [show off+j=off+j / 12*12+7 by omega,k7]
   exact hat.symm
  ·rw [e] at hat
   rw [show off+j=off+j / 12*12+8 by omega,k8]
   exact hat.symm
  ·rw [e] at hat
   rw [show off+j=off+j / 12*12+9 by omega,k9]
   exact hat.symm
  ·rw [e] at hat
   rw [show off+j=off+j / 12*12+10 by omega,k10]
   exact hat.symm
  ·rw [e] at hat
   rw [show off+j=off+j / 12*12+11 by omega,k11]
   exact hat.symm
theorem Ix (w:World) (base:Nat) (ty:TypeId) (v:Value) (n:Nat) (xs:List Value) (hown:w.ownsRow base 61 12 v n xs) (ao:Option Addr) (c:Nat) (az:List Cs) (hz:A0 w ao az)
  (hn:n+az.length≤5000000) (hbase:base≤w.heap.size) :
  ∃ v' w',(Builtin.append_ #[26,26] ty #[v,.slice ao az.length c]).run prog w=.ok v' w'∧w'.ownsRow base 61 12 v' (n+az.length) (xs++Aj az)∧w.grownBy w' v.ownBlock ∧
   (v≠.slice none 0 0→v'≠.slice none 0 0):=by
 obtain ⟨i0,hi,hz0,hz1,hz2⟩:=info_parts pU
 cases ao with
 | none =>
  have hf:az=[]:=by
   rcases hz with h | ⟨b,off,h,_⟩
   ·exact h
   ·cases h
  subst hf
  refine ⟨v,w,?_,by simpa [Aj] using hown,⟨rfl,rfl,rfl,nL,fun _ _ _=>rfl⟩,id⟩
  have hu:=underlying26
  rcases hown.2 with ⟨rfl,rfl⟩ | ⟨g,cap,cur,rfl,hbg,hg,hnc,hcm,hcs,htake⟩
  ·simp [Builtin.append_,run_underlying hu,sizeOf,typeInfo,hi,Builtin.lenOf,Builtin.firstCells]
  ·simp [Builtin.append_,run_underlying hu,sizeOf,typeInfo,hi,Builtin.lenOf,Builtin.firstCells,loadCells,hnc,storeCells]
 | some a =>
  have hnews:∀ j u,(Aj az)[j]?=some u→w.cell? (a.add j)=some u:=by
   rcases hz with rfl | ⟨b,off,hq,hb,hc⟩
   ·intro j u hj;simp [Aj] at hj
   ·obtain rfl:a=⟨b,off,none⟩:=by simpa using hq
    exact aF (.inr ⟨b,off,rfl,hb,hc⟩)
  obtain ⟨v',w',h1,h2,h3,h4,_⟩:=run_append_own_at (P:=prog) w base 26 ty 61 i0 _ 12 96 underlying26 hi hz0 hz1 hz2 rfl (by decide) v n xs hown a az.length c (Aj az) (Ge az) hnews (Vx az) (by unfold maxLen;omega) (by omega) hbase
  exact ⟨v',w',h1,h2,h3,fun hne h=>hne (h4.1 h).1⟩
theorem Eh {ops:Array Oper} {rest:List Oper} {o:Oper} {a:Act} {Q:Exit→Act→World→Prop} (w:World) (hgd:o.guard=none) (s x:Operand)
  (ho:o.op=.call { callee:=.builtin .append,args:=#[s,x],argTypes:=#[26,26] }) (base:Nat) (v:Value) (n:Nat) (xs:List Value) (hs:a.eval s=v) (hown:w.ownsRow base 61 12 v n xs)
  (ao:Option Addr) (c:Nat) (az:List Cs) (hx:a.eval x=.slice ao az.length c) (hz:A0 w ao az) (hn:n+az.length≤5000000) (hbase:base≤w.heap.size)
  (h:∀ v' w',w'.ownsRow base 61 12 v' (n+az.length) (xs++Aj az)→w.grownBy w' v.ownBlock→(v≠.slice none 0 0→v'≠.slice none 0 0)→wpList prog ops Q rest (a.put o.dst v') w'):wpList prog ops Q (o::rest) a w:=by
 obtain ⟨v',w',hr,h1,h2,h3⟩:=Ix w base o.type v n xs hown ao c az hz hn hbase;exact Lib.wpList_append_run w hgd s x _ _ ho _ _ hs hx v' w' hr (h v' w' h1 h2 h3)
theorem mM (w:World):(w.alloc (.cells #[] 61)).ownsRow w.heap.size 61 12 (.slice (some ⟨w.heap.size,0,none⟩) 0 0) 0 []:=World.ownsRow_lit w #[] 0 nL (by unfold maxLen;omega) rfl
theorem Yq {w:World} {b off:Nat} {xs:List Au} (h:Ar w (some ⟨b,off,none⟩) xs):∀ j u,(Ah xs)[j]?=some u→w.cell? ((⟨b,off,none⟩:Addr).add j)=some u:=by
 intro j u hj
 have hlt:j<xs.length*6:=by
  rw [← E2];exact (List.getElem?_eq_some_iff.1 hj).1
 rcases h with rfl | ⟨b',off',hq,hb,hc⟩
 ·simp at hlt
 ·obtain ⟨rfl,rfl⟩:b=b'∧off=off':=by simpa using hq
  have e:((⟨b,off,none⟩:Addr).add j)=⟨b,off+j,none⟩:=by unfold Addr.add;split <;> simp_all
  obtain ⟨k0,k1,k2,k3,k4,k5⟩:=hc (j / 6) (by omega)
  obtain ⟨f0,f1,f2,f3,f4,f5⟩:=De xs (j / 6) (by omega)
  rw [e]
  rcases (show j % 6=0∨j % 6=1∨j % 6=2∨j % 6=3∨j % 6=4∨j % 6=5 by omega) with e | e | e | e | e | e
  ·rw [show j=j / 6*6 by omega,f0] at hj
   rw [show off+j=off+j / 6*6 by omega,k0]
   exact hj
  ·rw [show j=j / 6*6+1 by omega,f1] at hj
   rw [show off+j=off+j / 6*6+1 by omega,k1]
   exact hj
  ·rw [show j=j / 6*6+2 by omega,f2] at hj
   rw [show off+j=off+j / 6*6+2 by omega,k2]
   exact hj
  ·rw [show j=j / 6*6+3 by omega,f3] at hj
   rw [show off+j=off+j / 6*6+3 by omega,k3]
   exact hj
  ·rw [show j=j / 6*6+4 by omega,f4] at hj
   rw [show off+j=off+j / 6*6+4 by omega,k4]
   exact hj
  ·rw [show j=j / 6*6+5 by omega,f5] at hj
   rw [show off+j=off+j / 6*6+5 by omega,k5]
   exact hj
theorem Nt (w:World) (base:Nat) (ty:TypeId) (v:Value) (n:Nat) (xs:List Value) (hown:w.ownsRow base 107 6 v n xs) (ao:Option Addr) (c:Nat) (az:List Au) (hz:Ar w ao az)
  (hn:n+az.length≤5000000) (hbase:base≤w.heap.size) :
  ∃ v' w',(Builtin.append_ #[25,25] ty #[v,.slice ao az.length c]).run prog w=.ok v' w'∧w'.ownsRow base 107 6 v' (n+az.length) (xs++Ah az)∧w.grownBy w' v.ownBlock ∧
   (v≠.slice none 0 0→v'≠.slice none 0 0):=by
 obtain ⟨i0,hi,hz0,hz1,hz2⟩:=info_parts cF
 cases ao with
 | none =>
  have hf:az=[]:=by
   rcases hz with h | ⟨b,off,h,_⟩
   ·exact h
   ·cases h
  subst hf
  refine ⟨v,w,?_,by simpa [Ah] using hown,⟨rfl,rfl,rfl,nL,fun _ _ _=>rfl⟩,id⟩
  have hu:=underlying25
  rcases hown.2 with ⟨rfl,rfl⟩ | ⟨g,cap,cur,rfl,hbg,hg,hnc,hcm,hcs,htake⟩
  ·simp [Builtin.append_,run_underlying hu,sizeOf,typeInfo,hi,Builtin.lenOf,Builtin.firstCells]
  ·simp [Builtin.append_,run_underlying hu,sizeOf,typeInfo,hi,Builtin.lenOf,Builtin.firstCells,loadCells,hnc,storeCells]
 | some a =>
  have hnews:∀ j u,(Ah az)[j]?=some u→w.cell? (a.add j)=some u:=by
   rcases hz with rfl | ⟨b,off,hq,hb,hc⟩
   ·intro j u hj;simp [Ah] at hj
   ·obtain rfl:a=⟨b,off,none⟩:=by simpa using hq
    exact Yq (.inr ⟨b,off,rfl,hb,hc⟩)
  obtain ⟨v',w',h1,h2,h3,h4,_⟩:=run_append_own_at (P:=prog) w base 25 ty 107 i0 _ 6 56 underlying25 hi hz0 hz1 hz2 rfl (by decide) v n xs hown a az.length c (Ah az) (E2 az) hnews (aN az) (by unfold maxLen;omega) (by omega) hbase
  exact ⟨v',w',h1,h2,h3,fun hne h=>hne (h4.1 h).1⟩
theorem Bu {ops:Array Oper} {rest:List Oper} {o:Oper} {a:Act} {Q:Exit→Act→World→Prop} (w:World) (hgd:o.guard=none) (s x:Operand)
  (ho:o.op=.call { callee:=.builtin .append,args:=#[s,x],argTypes:=#[25,25] }) (base:Nat) (v:Value) (n:Nat) (xs:List Value) (hs:a.eval s=v) (hown:w.ownsRow base 107 6 v n xs)
  (ao:Option Addr) (c:Nat) (az:List Au) (hx:a.eval x=.slice ao az.length c) (hz:Ar w ao az) (hn:n+az.length≤5000000) (hbase:base≤w.heap.size)
  (h:∀ v' w',w'.ownsRow base 107 6 v' (n+az.length) (xs++Ah az)→w.grownBy w' v.ownBlock→(v≠.slice none 0 0→v'≠.slice none 0 0)→wpList prog ops Q rest (a.put o.dst v') w'):wpList prog ops Q (o::rest) a w:=by
 obtain ⟨v',w',hr,h1,h2,h3⟩:=Nt w base o.type v n xs hown ao c az hz hn hbase;exact Lib.wpList_append_run w hgd s x _ _ ho _ _ hs hx v' w' hr (h v' w' h1 h2 h3)
theorem kV (w:World):(w.alloc (.cells #[] 107)).ownsRow w.heap.size 107 6 (.slice (some ⟨w.heap.size,0,none⟩) 0 0) 0 []:=World.ownsRow_lit w #[] 0 nL (by unfold maxLen;omega) rfl
theorem dI {w:World} {base n:Nat} {v:Value} {xs:List Value} (h:w.ownsRow base 107 6 v n xs):∃ ao cap,v=.slice ao n cap:=by
 rcases h.2 with ⟨rfl,rfl⟩ | ⟨g,c,cur,rfl,_⟩
 ·exact ⟨none,0,rfl⟩
 ·exact ⟨_,c,rfl⟩
theorem Oe {w:World} {base n:Nat} {v:Value} {xs:List Value} (h:w.ownsRow base 107 6 v n xs) (hv:v≠.slice none 0 0):∃ g c,v=.slice (some ⟨g,0,none⟩) n c:=by
 rcases h.2 with ⟨h,_⟩ | ⟨g,c,cur,h,_⟩
 ·exact absurd h hv
 ·exact ⟨g,c,h⟩
def Pi (u:World) (L:List Au) (q:Bool) (e:Ending) (u':World):Prop :=
 ∃ ao cap,e=.returned (.tuple #[.slice ao L.length cap,.bool q])∧u'.ownsRow u.heap.size 107 6 (.slice ao L.length cap) L.length (Ah L)∧BW u u'
def pA (u:World) (L:List Au) (e:Ending) (u':World):Prop :=
 ∃ ao cap,e=.returned (.slice ao L.length cap)∧u'.ownsRow u.heap.size 107 6 (.slice ao L.length cap) L.length (Ah L)∧BW u u'
theorem eP {w:World} {a:Addr} {rs:Be} (h:Bh w (some a) rs):∀ j u,(Am rs)[j]?=some u→w.cell? (a.add j)=some u:=by
 intro j u hj
 have hl:j<rs.length:=by
  rcases Nat.lt_or_ge j rs.length with h' | h'
  ·exact h'
  ·rw [List.getElem?_eq_none (by rw [L7];exact h')] at hj;cases hj
 rcases h with h | ⟨b,off,h1,h2,h3⟩
 ·rw [h] at hl;simp at hl
 ·injection h1 with h1
  subst h1;have e:=h3 j hl
  have hu:u=.string ⟨(Al rs j).toArray⟩:=by
   rw [Hd rs j hl] at hj;exact (Option.some.inj hj).symm
  rw [hu]
  by_cases e0:j=0
  ·subst e0;rw [Addr.add,if_pos rfl];exact e
  ·rw [Addr.add,if_neg e0];exact e
theorem Ie (w:World) (base:Nat) (ty:TypeId) (v:Value) (n:Nat) (cs:List Value) (hown:w.ownsRow base 9 1 v n cs) (ao:Option Addr) (c:Nat) (rs:Be) (hz:Bh w ao rs)
  (hn:n+rs.length≤4000000) (hbase:base≤w.heap.size) :
  ∃ v' w',(Builtin.append_ #[23,23] ty #[v,.slice ao rs.length c]).run prog w=.ok v' w'∧w'.ownsRow base 9 1 v' (n+rs.length) (cs++Am rs)∧w.grownBy w' v.ownBlock:=by
 obtain ⟨i0,hi,hz0,hz1,hz2⟩:=info_parts S1
 cases ao with
 | none =>
  have hf:rs=[]:=by
   rcases hz with h | ⟨b,off,h,_⟩
   ·exact h
   ·cases h
  subst hf
  refine ⟨v,w,?_,by simpa [Am] using hown,⟨rfl,rfl,rfl,nL,fun _ _ _=>rfl⟩⟩
  have hu:=underlying23
  rcases hown.2 with ⟨rfl,rfl⟩ | ⟨g,cap,cur,rfl,hbg,hg,hnc,hcm,hcs,htake⟩
  ·simp [Builtin.append_,run_underlying hu,sizeOf,typeInfo,hi,Builtin.lenOf,Builtin.firstCells]
  ·simp [Builtin.append_,run_underlying hu,sizeOf,typeInfo,hi,Builtin.lenOf,Builtin.firstCells,loadCells,hnc,storeCells]
 | some a =>
  obtain ⟨v',w',h1,h2,h3,_,_⟩:=run_append_own_at (P:=prog) w base 23 ty 9 i0 _ 1 16 underlying23 hi hz0 hz1 hz2 rfl (by decide) v n cs hown a rs.length c (Am rs) (by simp [L7]) (eP hz) (Zv rs) (by unfold maxLen;omega) (by omega) hbase
  exact ⟨v',w',h1,h2,h3⟩
theorem Kh {ops:Array Oper} {rest:List Oper} {o:Oper} {a:Act} {Q:Exit→Act→World→Prop} (w:World) (hgd:o.guard=none) (s x:Operand)
  (ho:o.op=.call { callee:=.builtin .append,args:=#[s,x],argTypes:=#[23,23] }) (base:Nat) (v:Value) (n:Nat) (cs:List Value) (hs:a.eval s=v) (hown:w.ownsRow base 9 1 v n cs)
  (ao:Option Addr) (c:Nat) (rs:Be) (hx:a.eval x=.slice ao rs.length c) (hz:Bh w ao rs) (hn:n+rs.length≤4000000) (hbase:base≤w.heap.size)
  (h:∀ v' w',w'.ownsRow base 9 1 v' (n+rs.length) (cs++Am rs)→w.grownBy w' v.ownBlock→wpList prog ops Q rest (a.put o.dst v') w') :
  wpList prog ops Q (o::rest) a w:=by
 refine wpList_plain hgd fun K hK=>?_
 obtain ⟨v',w',hr,h2,h3⟩:=Ie w base o.type v n cs hown ao c rs hz hn hbase;unfold Oper.wp execOp
 simp only [ho,resolve,invoke,builtin,Sem.run_bind,Sem.run_pure,Result.andThen_ok,List.map_toArray,List.map_cons,List.map_nil,hs,hx,hr]
 exact hK _ _ (h v' w' h2 h3)
theorem dQ {w:World} {a:Addr} {zs:List Int} (h:Aw w (some a) zs):∀ j u,(zs.map (Value.int .i64))[j]?=some u→w.cell? (a.add j)=some u:=by
 intro j u hj
 have hl:j<zs.length:=by
  rcases Nat.lt_or_ge j zs.length with h' | h'
  ·exact h'
  ·rw [List.getElem?_eq_none (by simpa using h')] at hj;cases hj
 rcases h with h | ⟨b,off,h1,h2,h3⟩
 ·rw [h] at hl;simp at hl
 ·injection h1 with h1
  subst h1;have e:=h3 j hl
  have hu:u=.int .i64 (zs.getD j 0):=by
   rw [List.getElem?_map,List.getElem?_eq_getElem hl] at hj
   simp at hj
   rw [← hj]
   simp [List.getD_eq_getElem?_getD,hl]
  rw [hu]
  by_cases e0:j=0
  ·subst e0;rw [Addr.add,if_pos rfl];exact e
  ·rw [Addr.add,if_neg e0];exact e
theorem lH (zs:List Int):∀ u ∈ zs.map (Value.int .i64),u.oneCell'=true:=by
 intro u hu
 simp at hu
 obtain ⟨x,_,rfl⟩:=hu
 rfl
theorem Mc (w:World) (base:Nat) (ty:TypeId) (v:Value) (n:Nat) (cs:List Value) (hown:w.ownsRow base 3 1 v n cs) (ao:Option Addr) (c:Nat) (zs:List Int) (hz:Aw w ao zs)
  (hn:n+zs.length≤4000000) (hbase:base≤w.heap.size) :
  ∃ v' w',(Builtin.append_ #[22,22] ty #[v,.slice ao zs.length c]).run prog w=.ok v' w'∧w'.ownsRow base 3 1 v' (n+zs.length) (cs++zs.map (Value.int .i64))∧w.grownBy w' v.ownBlock:=by
 obtain ⟨i0,hi,hz0,hz1,hz2⟩:=info_parts pQ
 cases ao with
 | none =>
  have hf:zs=[]:=by
   rcases hz with h | ⟨b,off,h,_⟩
   ·exact h
   ·cases h
  subst hf
  refine ⟨v,w,?_,by simpa using hown,⟨rfl,rfl,rfl,nL,fun _ _ _=>rfl⟩⟩
  have hu:=underlying22
  rcases hown.2 with ⟨rfl,rfl⟩ | ⟨g,cap,cur,rfl,hbg,hg,hnc,hcm,hcs,htake⟩
  ·simp [Builtin.append_,run_underlying hu,sizeOf,typeInfo,hi,Builtin.lenOf,Builtin.firstCells]
  ·simp [Builtin.append_,run_underlying hu,sizeOf,typeInfo,hi,Builtin.lenOf,Builtin.firstCells,loadCells,hnc,storeCells]
 | some a =>
  obtain ⟨v',w',h1,h2,h3,_,_⟩:=run_append_own_at (P:=prog) w base 22 ty 3 i0 _ 1 8 underlying22 hi hz0 hz1 hz2 rfl (by decide) v n cs hown a zs.length c (zs.map (Value.int .i64)) (by simp) (dQ hz) (lH zs) (by unfold maxLen;omega) (by omega) hbase
  exact ⟨v',w',h1,h2,h3⟩
theorem Gf {ops:Array Oper} {rest:List Oper} {o:Oper} {a:Act} {Q:Exit→Act→World→Prop} (w:World) (hgd:o.guard=none) (s x:Operand)
  (ho:o.op=.call { callee:=.builtin .append,args:=#[s,x],argTypes:=#[22,22] }) (base:Nat) (v:Value) (n:Nat) (cs:List Value) (hs:a.eval s=v) (hown:w.ownsRow base 3 1 v n cs)
  (ao:Option Addr) (c:Nat) (zs:List Int) (hx:a.eval x=.slice ao zs.length c) (hz:Aw w ao zs) (hn:n+zs.length≤4000000) (hbase:base≤w.heap.size)
  (h:∀ v' w',w'.ownsRow base 3 1 v' (n+zs.length) (cs++zs.map (Value.int .i64))→w.grownBy w' v.ownBlock→wpList prog ops Q rest (a.put o.dst v') w') :
  wpList prog ops Q (o::rest) a w:=by
 refine wpList_plain hgd fun K hK=>?_
 obtain ⟨v',w',hr,h2,h3⟩:=Mc w base o.type v n cs hown ao c zs hz hn hbase;unfold Oper.wp execOp
 simp only [ho,resolve,invoke,builtin,Sem.run_bind,Sem.run_pure,Result.andThen_ok,List.map_toArray,List.map_cons,List.map_nil,hs,hx,hr]
 exact hK _ _ (h v' w' h2 h3)
theorem fC (g:Nat) (ao:Option Addr) (cap:Nat) (zs:List Int) (w:World) (hc:w.cell? ⟨g,0,none⟩=some (.slice ao zs.length cap)) (hz:Aw w ao zs) (hn:zs.length≤1048577) :
  Calls prog 101 #[.slice (some ⟨g,0,none⟩) 1 1] w fun e w'=>∃ a2 k2,e=.returned (.slice a2 zs.length k2) ∧
   w'.ownsRow w.heap.size 3 1 (.slice a2 zs.length k2) zs.length (zs.map (Value.int .i64))∧BW w w':=by
 have HZ:Hid (Aw w ao zs):=hz;clear hz
 go_enter func101,ntmps101
 go_wp2;refine wp_loop_rounds 2 ?_;rw [rounds_succ]
 go_wp2_with (at_builtin;refine Gf _ rfl (.tmp 12) (.tmp 13) rfl w.heap.size _ 0 [] rfl (World.ownsRow_nil _ _ _ _) ao cap zs rfl HZ.o (by omega) nL ?_;intro v2 w2 o2 g2)
 have q2:BW w w2:=bR.grown g2 nL (fun k hk=>by cases hk)
 rw [Nat.zero_add,List.nil_append] at o2;obtain ⟨a2,k2,hv2⟩:=Fz o2;subst hv2;have HO2:Hid (w2.ownsRow w.heap.size 3 1 (.slice a2 zs.length k2) zs.length (zs.map (Value.int .i64))):=o2;clear o2 g2 HZ hc;go_wp2;rw [rounds_succ];go_wp2;go_ret;exact ⟨a2,k2,rfl,HO2.o,q2⟩
def B0 (l:List UInt8):Nat→Be×Nat
 | 0=>([],0)
 | i+1=>if l.getD i 0=32 then ((B0 l i).1++[(l.drop (B0 l i).2).take (i - (B0 l i).2)],i+1) else B0 l i
def Ab (l:List UInt8):Be:=(B0 l l.length).1++[l.drop (B0 l l.length).2]
theorem Mo (l:List UInt8):∀ i,(B0 l i).2≤i∧(B0 l i).1.length≤i
 | 0=>⟨nL,nL⟩
 | i+1=>by
  have:=Mo l i
  unfold B0
  split
  ·refine ⟨nL,?_⟩
   simp;omega
  ·omega
theorem Kw {l:List UInt8} {i:Nat} (h:l.getD i 0=32):B0 l (i+1)=((B0 l i).1++[(l.drop (B0 l i).2).take (i - (B0 l i).2)],i+1):=by rw [B0,if_pos h]
theorem J7 {l:List UInt8} {i:Nat} (h:l.getD i 0≠32):B0 l (i+1)=B0 l i:=by rw [B0,if_neg h]
theorem Fy (l:List UInt8):1≤(Ab l).length∧(Ab l).length≤l.length+1:=by
 have:=Mo l l.length
 rw [Ab,List.length_append];simp;omega
theorem Jw (l:List UInt8):∀ i,∀ r ∈ (B0 l i).1,r.length≤l.length
 | 0=>fun r h=>by cases h
 | i+1=>fun r h=>by
  unfold B0 at h
  split at h
  ·rcases List.mem_append.1 h with h | h
   ·exact Jw l i r h
   ·rw [List.mem_singleton.1 h];simp;omega
  ·exact Jw l i r h
theorem Ee (l:List UInt8):∀ r ∈ Ab l,r.length≤l.length:=by
 intro r h
 rcases List.mem_append.1 h with h | h
 ·exact Jw l _ r h
 ·rw [List.mem_singleton.1 h];simp
theorem I8 (l:List UInt8) (w:World) (hl:l.length≤1048576) :
  Calls prog 139 #[.string ⟨l.toArray⟩] w fun e w'=>∃ a k,e=.returned (.slice a (Ab l).length k)∧w'.ownsRow w.heap.size 9 1 (.slice a (Ab l).length k) (Ab l).length (Am (Ab l))∧BW w w':=by
 obtain ⟨i0,hi,hz0,hz1,hz2⟩:=info_parts S1
 have HO0:Hid ((w.alloc (.cells #[] 9)).ownsRow w.heap.size 9 1 (.slice (some ⟨w.heap.size,0,none⟩) 0 0) 0 (Am [])):=by
  have h:=World.ownsRow_lit (base:=w.heap.size) (e:=9) (size:=1) w #[] 0 nL (by unfold maxLen;omega) rfl
  rw [Hid];simpa [Am] using h
 have HBA:Hid (Below w.heap.size w (w.alloc (.cells #[] 9))):=bR.alloc nL _;have HWE:Hid (Ab l=(B0 l l.length).1++[l.drop (B0 l l.length).2]):=rfl;obtain ⟨WW,hWW⟩:∃ x,Ab l=x:=⟨_,rfl⟩;rw [hWW] at HWE ⊢;clear hWW
 go_enter func139,ntmps139
 go_wp2
 go_loopw [3,4,5] (fun s f i wr=>∃ (v:Value) (k:Nat),v=s∧k≤l.length∧i=.int .i64 (k:Int)∧f=.int .i64 ((B0 l k).2:Int)∧wr.ownsRow w.heap.size 9 1 v (B0 l k).1.length (Am (B0 l k).1)∧BW w wr) (fun _ _ i _=>l.length - (intOf i).toNat)
 case atStart=>exact ⟨_,0,rfl,Nat.zero_le _,rfl,rfl,HO0.o,HBA.o⟩
 case round =>
  obtain ⟨v,k,hvs,hk,rfl,rfl,hown,hbr⟩:=hrel;subst hvs;have HBR:Hid (BW w wr):=hbr;have HSZ:Hid (w.heap.size≤wr.heap.size):=hbr.size
  have HLT:Hid (∀ j,v.ownBlock=some j→w.heap.size≤j):=fun j hj=>(hown.lt j hj).1
  have hsc:=Mo l k
  by_cases hlt:k<l.length
  ·have hki:(k:Int)<(l.length:Int):=by omega
   have HY:Hid _:=@Kw l k;have HN:Hid _:=@J7 l k
   obtain ⟨c,hc⟩:∃ c,(⟨l.toArray⟩:ByteArray)[k]'(by rw [Fo];exact hlt)=c:=⟨_,rfl⟩
   rw [(Je l k hlt).trans hc] at HY HN;obtain ⟨R,hR⟩:∃ x,(B0 l k).1=x:=⟨_,rfl⟩;obtain ⟨f,hf⟩:∃ x,(B0 l k).2=x:=⟨_,rfl⟩;rw [hR,hf] at HY;rw [hR] at hown hsc;rw [hf] at hsc ⊢;have HO:Hid (wr.ownsRow w.heap.size 9 1 v R.length (Am R)):=hown;have HRF:Hid ((B0 l k).1=R∧(B0 l k).2=f):=⟨hR,hf⟩;clear hR hf hown hbr HO0 HBA
   by_cases h32:c=32
   ·subst h32
    have hx:(⟨l.toArray⟩:ByteArray).extract f k=⟨((l.drop f).take (k - f)).toArray⟩:=Qo l f k;have HNX:Hid (B0 l (k+1)=(R++[(l.drop f).take (k - f)],k+1)):=HY.o rfl;obtain ⟨r,hr⟩:∃ x,(l.drop f).take (k - f)=x:=⟨_,rfl⟩;rw [hr] at hx HNX
    have hfk:(f:Int)≤(k:Int):=by omega
    clear HY HN hr
    go_wp2_with (at_builtin;refine wpList_append_own _ rfl (.tmp 17) (.tmp 22) 23 rfl w.heap.size 9 i0 (.string ⟨#[]⟩) 1 16 underlying23 hi hz0 hz1 hz2 rfl (by decide) _ _ _ rfl (HO.o.alloc _) ⟨wr.heap.size,0,none⟩ 1 1 [.string ⟨r.toArray⟩] rfl rfl (World.news_of_block (heap_alloc_new wr _)) (Rf _) (by unfold maxLen;omega) (by omega) (by simp;have:=HSZ.o;omega) ?_;intro v5 w5 o5 g5 _)
    have q5:BW w w5:=(HBR.o.alloc (by have:=HSZ.o;omega) _).grown g5 (by have:=HSZ.o;simp;omega) HLT.o
    have HR5:Hid (w5.ownsRow w.heap.size 9 1 v5 (B0 l (k+1)).1.length (Am (B0 l (k+1)).1)):=by
     rw [Hid,HNX.o];simp only [List.length_append,F6];exact o5
    have HF5:Hid ((B0 l (k+1)).2=k+1):=by rw [Hid,HNX.o]
    clear o5 g5 hx;go_wp2
    go_roundw
    case rel=>exact ⟨_,k+1,rfl,by omega,by go_num,by rw [HF5.o];go_num,HR5.o,q5⟩
    case measure=>simp [intOf];omega
   ·have HNX:Hid (B0 l (k+1)=B0 l k):=HN.o h32
    have hcb:((c.toNat:Int) == 32)=false:=by
     simp only [beq_eq_false_iff_ne,ne_eq]
     intro e;apply h32;apply UInt8.toNat_inj.1
     show c.toNat=32
     omega
    have HR5:Hid (wr.ownsRow w.heap.size 9 1 v (B0 l (k+1)).1.length (Am (B0 l (k+1)).1)):=by
     rw [Hid,HNX.o,HRF.o.1];exact HO.o
    have HF5:Hid ((B0 l (k+1)).2=f):=by rw [Hid,HNX.o,HRF.o.2]
    clear HY HN;go_wp2
    go_roundw
    case rel=>exact ⟨_,k+1,rfl,by omega,by go_num,by rw [HF5.o],HR5.o,HBR.o⟩
    case measure=>simp [intOf];omega
  ·have hke:k=l.length:=by omega
   subst hke
   have hki:¬ (l.length:Int)<(l.length:Int):=by omega
   obtain ⟨R,hR⟩:∃ x,(B0 l l.length).1=x:=⟨_,rfl⟩;obtain ⟨f,hf⟩:∃ x,(B0 l l.length).2=x:=⟨_,rfl⟩;rw [hR,hf] at HWE;rw [hR] at hown hsc;rw [hf] at hsc ⊢;have HO:Hid (wr.ownsRow w.heap.size 9 1 v R.length (Am R)):=hown
   have hx:(⟨l.toArray⟩:ByteArray).extract f l.length=⟨(l.drop f).toArray⟩:=by rw [Qo,List.take_of_length_le (by simp)]
   obtain ⟨r,hr⟩:∃ x,l.drop f=x:=⟨_,rfl⟩;rw [hr] at hx HWE
   have hfk:(f:Int)≤(l.length:Int):=by omega
   clear hR hf hown hbr HO0 HBA hr
   go_wp2_with (at_builtin;refine wpList_append_own _ rfl (.tmp 26) (.tmp 30) 23 rfl w.heap.size 9 i0 (.string ⟨#[]⟩) 1 16 underlying23 hi hz0 hz1 hz2 rfl (by decide) _ _ _ rfl (HO.o.alloc _) ⟨wr.heap.size,0,none⟩ 1 1 [.string ⟨r.toArray⟩] rfl rfl (World.news_of_block (heap_alloc_new wr _)) (Rf _) (by unfold maxLen;omega) (by omega) (by simp;have:=HSZ.o;omega) ?_;intro v5 w5 o5 g5 _)
   have q5:BW w w5:=(HBR.o.alloc (by have:=HSZ.o;omega) _).grown g5 (by have:=HSZ.o;simp;omega) HLT.o
   have HR5:Hid (w5.ownsRow w.heap.size 9 1 v5 WW.length (Am WW)):=by
    rw [Hid,HWE.o,List.length_append,F6];exact o5
   obtain ⟨a,cp,hv,-,-⟩:=Ov HR5.o;subst hv;clear o5 g5 hx;go_wp2;go_ret;exact ⟨a,cp,rfl,HR5.o,q5⟩
theorem Uh {x a b:Int} (h:a≤x) (g:x≤b):Gk x a b=true:=by simp [Gk,h,g]
theorem bN {x a b:Int} (h:x<a∨b<x):Gk x a b=false:=by simp [Gk];omega
theorem A9 (x:Int) (w:World) :
  Calls prog 102 #[.int .i64 x] w fun e w'=>e=.returned (.bool (Dn x))∧w'=w:=by
 go_enter func102,ntmps102
 go_wp2_with (go_at_call 134;refine (Dl _ _ _ _).mono ?_;rintro e w' ⟨rfl,rfl⟩)
 go_ret;exact ⟨rfl,rfl⟩
theorem Bm (x:Int) (w:World) :
  Calls prog 99 #[.int .i64 x] w fun e w'=>e=.returned (.bool (Dn x))∧w'=w:=by
 by_cases h1:0≤x
 ·by_cases h2:x≤80000
  ·go_enter func99,ntmps99
   go_wp2;go_ret
   exact ⟨by simp [Dn,h1,h2],rfl⟩
  ·go_enter func99,ntmps99
   go_wp2;go_ret
   exact ⟨by simp [Dn,h1,h2],rfl⟩
 ·go_enter func99,ntmps99
  go_wp2;go_ret
  exact ⟨by simp [Dn];omega,rfl⟩
def wdV (d:Int):Int:=if Dn d=true then (d+5) % 7 else -1
theorem Pt {d:Int} (h:Dn d=true):wdV d=(d+5) % 7:=if_pos h
theorem kW {d:Int} (h:Dn d=false):wdV d = -1:=if_neg (by rw [h];decide)
theorem M6 (x:Int) (w:World) :
  Calls prog 326 #[.int .i64 x] w fun e w'=>e=.returned (.int .i64 (wdV x))∧w'=w:=by
 cases h:Dn x
 ·have HV:Hid _:=kW h
  go_enter func326,ntmps326
  go_wp2_with (go_at_call 102;refine (A9 _ _).mono ?_;rintro e w' ⟨rfl,rfl⟩)
  go_ret;exact ⟨Af HV.o.symm,rfl⟩
 ·have HV:Hid _:=Pt h
  have hb:=Ei h
  go_enter func326,ntmps326
  go_wp2_with (go_at_call 102;refine (A9 _ _).mono ?_;rintro e w' ⟨rfl,rfl⟩)
  go_ret;exact ⟨Af HV.o.symm,rfl⟩
theorem Ur (x:Int) (w:World) :
  Calls prog 358 #[.int .i64 x] w fun e w'=>e=.returned (.int .i64 (wdV x))∧w'=w:=by
 cases h:Dn x
 ·have HV:Hid _:=kW h
  go_enter func358,ntmps358
  go_wp2_with (go_at_call 99;refine (Bm _ _).mono ?_;rintro e w' ⟨rfl,rfl⟩)
  go_ret;exact ⟨Af HV.o.symm,rfl⟩
 ·have HV:Hid _:=Pt h
  have hb:=Ei h
  go_enter func358,ntmps358
  go_wp2_with (go_at_call 99;refine (Bm _ _).mono ?_;rintro e w' ⟨rfl,rfl⟩)
  go_ret;exact ⟨Af HV.o.symm,rfl⟩
end Go.Proofs.YtomiclakhjncbaaGreatDoor
namespace Go.Proofs.YtomiclakhjncbaaGreatDoor.Kb
open Go.RowKit Go.Conc.Locks Go.Proofs.Tryz
set_option maxRecDepth 100000
set_option maxHeartbeats 12800000
abbrev muL:MuLink:={ lock:=113,unlock:=114,ilock:=156,iunlock:=157,lockSlow:=195,unlockSlow:=198,disable:=191,enable:=193,acquire:=194,relMerge:=196,cas32:=192,add32:=197,tMutex:=141,tIMutex:=139,tPMutex:=192,tPIMutex:=236,tPI32:=238,tUP:=203,tNoCopy:=136,tU32:=137 }
theorem muH:MuLib prog muL:=⟨func113,func114,func156,func157,func191,func193,func194,func196,func192,func197,underlying139,runUnderlying139,sizeOf139,isAgg139,zeroValue139,underlying141,runUnderlying141,sizeOf141,isAgg141,zeroValue141,underlying192,runUnderlying192,sizeOf192,isAgg192,zeroValue192,underlying236,runUnderlying236,sizeOf236,isAgg236,zeroValue236,underlying238,runUnderlying238,sizeOf238,isAgg238,zeroValue238,underlying203,runUnderlying203,sizeOf203,isAgg203,zeroValue203,underlying136,runUnderlying136,sizeOf136,isAgg136,zeroValue136,underlying21,runUnderlying21,sizeOf21,isAgg21,zeroValue21,by kernel_rfl⟩
end Go.Proofs.YtomiclakhjncbaaGreatDoor.Kb
namespace Go.Proofs.YtomiclakhjncbaaGreatDoor
open Go.Proofs.Tryz
set_option maxRecDepth 100000
set_option maxHeartbeats 12800000
def Er:Int→List Int→Bool
 | _,[]=>true
 | l,z::r=>decide (l<z∧0≤z∧z≤80000) && Er z r
def Ct (zs:List Int):Bool:=decide (zs.length≤400) && Er (-1) zs
theorem Wj (zs:List Int) (k:Nat) (l:Int) (h:k<zs.length):Er l (zs.drop k)=(decide (l<zs.getD k 0∧0≤zs.getD k 0∧zs.getD k 0≤80000) && Er (zs.getD k 0) (zs.drop (k+1))):=by
 rw [List.drop_eq_getElem_cons h,Er]
 simp [List.getD_eq_getElem?_getD,h]
theorem oM:∀ (zs:List Int) (l:Int),Er l zs=true→∀ z ∈ zs,l<z:=by
 intro zs
 induction zs with
 | nil=>intro l _ z hz;cases hz
 | cons a r ih =>
  intro l h z hz
  simp [Er] at h
  rcases List.mem_cons.1 hz with rfl | hz
  ·exact h.1.1
  ·have:=ih a h.2 z hz;omega
theorem Ye:∀ (zs:List Int) (l:Int),Er l zs=true→∀ i j,i<j→j<zs.length→zs.getD i 0<zs.getD j 0:=by
 intro zs
 induction zs with
 | nil=>intro l _ i j _ h;simp at h
 | cons a r ih =>
  intro l h i j hij hj
  simp [Er] at h
  cases j with
  | zero=>omega
  | succ j =>
   have hj':j<r.length:=by simpa using hj
   cases i with
   | zero =>
    have:=oM r a h.2 (r.getD j 0) (by simp [List.getD_eq_getElem?_getD,hj'])
    simpa [List.getD_eq_getElem?_getD] using this
   | succ i =>
    have:=ih a h.2 i j (by omega) hj'
    simpa [List.getD_eq_getElem?_getD] using this
theorem pD {zs:List Int} (h:Ct zs=true):Er (-1) zs=true:=by simp [Ct] at h;exact h.2
theorem pF {zs:List Int} (h:Ct zs=true):zs.length≤400:=by simp [Ct] at h;exact h.1
theorem cP {zs:List Int} (h:400<zs.length):Ct zs=false:=by simp [Ct];omega
theorem Mg {zs:List Int} (h:Er (-1) zs=false):Ct zs=false:=by simp [Ct,h]
theorem cG {zs:List Int} (h:zs.length≤400) (g:Er (-1) zs=true):Ct zs=true:=by simp [Ct,h,g]
theorem Yl {zs:List Int} {t:Int} {i:Nat} (ha:Er (-1) zs=true) (h1:∀ k,k<i→zs.getD k 0<t) (h2:∀ k,i≤k→k<zs.length→t≤zs.getD k 0) :
  (t ∈ zs) ↔ (i<zs.length∧zs.getD i 0=t):=by
 constructor
 ·intro hm
  obtain ⟨k,hk,rfl⟩:=List.mem_iff_getElem.1 hm
  have e:zs.getD k 0=zs[k]:=by simp [List.getD_eq_getElem?_getD,hk]
  have hik:i≤k:=by
   rcases Nat.lt_or_ge k i with h | h
   ·have:=h1 k h;omega
   ·exact h
  by_cases h:i=k
  ·subst h;exact ⟨hk,e⟩
  ·have a:=Ye zs _ ha i k (by omega) hk
   have b:=h2 i nL (by omega)
   omega
 ·rintro ⟨hi,rfl⟩
  simp [List.getD_eq_getElem?_getD,hi]
def wk (zs:List Int) (d:Int):Bool:=decide ((d+5) % 7<5) && !decide (d ∈ zs)
def wd (zs:List Int):Nat→List Int
 | 0=>[]
 | f+1=>if wk zs (80000 - f)=true then (80000 - (f:Int))::wd zs f else wd zs f
def Pk (zs:List Int) (f:Nat):Nat→Option Int
 | 0=>some (80000 - (f:Int))
 | n+1=>(wd zs f)[n]?
def Lh (d n:Int) (zs:List Int):Option Int:=if Dn d=true∧0≤n∧n≤400∧Ct zs=true then Pk zs (80000 - d).toNat n.toNat else none
theorem mN {zs:List Int} {f:Nat} (h:wk zs (80000 - f)=true):wd zs (f+1)=(80000 - (f:Int))::wd zs f:=by rw [wd,if_pos h]
theorem kN {zs:List Int} {f:Nat} (h:wk zs (80000 - f)=false):wd zs (f+1)=wd zs f:=by rw [wd,if_neg (by rw [h];decide)]
theorem Wb (zs:List Int) (f:Nat):Pk zs f 0=some (80000 - (f:Int)):=rfl
theorem pC (zs:List Int) (n:Nat):Pk zs 0 (n+1)=none:=by simp [Pk,wd]
theorem oO {zs:List Int} {f n:Nat} (h:wk zs (80000 - f)=true):Pk zs (f+1) (n+1)=Pk zs f n:=by
 rw [Pk,mN h]
 cases n with
 | zero=>simp [Pk]
 | succ n=>simp [Pk]
theorem qO {zs:List Int} {f n:Nat} (h:wk zs (80000 - f)=false):Pk zs (f+1) (n+1)=Pk zs f (n+1):=by
 rw [Pk,kN h];rfl
end Go.Proofs.YtomiclakhjncbaaGreatDoor
namespace Go.Proofs.YtomiclakhjncbaaGreatDoor
open Go.RowKit Go.Proofs.Tryz
set_option maxRecDepth 100000
set_option maxHeartbeats 12800000
def Bv (t d:Int):Bool:=Dn t && Dn d && decide (d<t)
theorem Sr {t d:Int} (h:Dn t=false):Bv t d=false:=by simp [Bv,h]
theorem To {t d:Int} (h:Dn d=false):Bv t d=false:=by simp [Bv,h]
theorem Tk {t d:Int} (h:Dn t=true) (g:Dn d=true):Bv t d=decide (d<t):=by simp [Bv,h,g]
theorem N2 (t d:Int) (w:World) :
  Calls prog 91 #[.int .i64 t,.int .i64 d] w fun e w'=>e=.returned (.bool (Bv t d))∧w'=w:=by
 cases h1:Dn t
 ·have HV:Hid _:=Sr (d:=d) h1
  go_enter func91,ntmps91
  go_wp2_with (go_at_call 99;refine (Bm _ _).mono ?_;rintro e w' ⟨rfl,rfl⟩)
  go_ret;exact ⟨Aa HV.o.symm,rfl⟩
 ·cases h2:Dn d
  ·have HV:Hid _:=To (t:=t) h2
   go_enter func91,ntmps91
   go_wp2_with (go_at_call 99;refine (Bm _ _).mono ?_;rintro e w' ⟨rfl,rfl⟩)
   go_ret;exact ⟨Aa HV.o.symm,rfl⟩
  ·have HV:Hid _:=Tk h1 h2
   go_enter func91,ntmps91
   go_wp2_with (go_at_call 99;refine (Bm _ _).mono ?_;rintro e w' ⟨rfl,rfl⟩)
   go_ret;exact ⟨Aa HV.o.symm,rfl⟩
theorem Kp (t d:Int) (w:World) :
  Calls prog 92 #[.int .i64 t,.int .i64 d] w fun e w'=>e=.returned (.bool (Bv t d))∧w'=w:=by
 cases h1:Dn t
 ·have HV:Hid _:=Sr (d:=d) h1
  go_enter func92,ntmps92
  go_wp2_with (go_at_call 102;refine (A9 _ _).mono ?_;rintro e w' ⟨rfl,rfl⟩)
  go_ret;exact ⟨Aa HV.o.symm,rfl⟩
 ·cases h2:Dn d
  ·have HV:Hid _:=To (t:=t) h2
   go_enter func92,ntmps92
   go_wp2_with (go_at_call 102;refine (A9 _ _).mono ?_;rintro e w' ⟨rfl,rfl⟩)
   go_ret;exact ⟨Aa HV.o.symm,rfl⟩
  ·have HV:Hid _:=Tk h1 h2
   go_enter func92,ntmps92
   go_wp2_with (go_at_call 102;refine (A9 _ _).mono ?_;rintro e w' ⟨rfl,rfl⟩)
   go_ret;exact ⟨Aa HV.o.symm,rfl⟩
end Go.Proofs.YtomiclakhjncbaaGreatDoor
namespace Go.Proofs.YtomiclakhjncbaaGreatDoor
open Go.Proofs.Tryz
set_option maxRecDepth 100000
set_option maxHeartbeats 12800000
abbrev Cd:=Int×Int
def Li (x y:Cd):Bool:=decide (x.1<y.1∨(x.1=y.1∧x.2<y.2))
theorem qL (x:Cd):Li x x=false:=by simp only [Li,decide_eq_false_iff_not];omega
theorem nC {x y:Cd} (h:Li x y=true):Li y x=false:=by simp only [Li,decide_eq_true_eq,decide_eq_false_iff_not] at *;omega
theorem V2 {x y z:Cd} (h:Li z y=false) (g:Li y x=false):Li z x=false:=by simp only [Li,decide_eq_false_iff_not] at *;omega
theorem kT {k p j:Cd} (h:Li k p=false) (g:Li j p=true):Li k j=false:=by simp only [Li,decide_eq_true_eq,decide_eq_false_iff_not] at *;omega
def Lp (j:Nat):Nat:=(j - 1) / 2
theorem J0 {j:Nat} (h:0<j):Lp j<j:=by unfold Lp;omega
def lT (f:Nat→Cd) (n:Nat):Prop:=∀ k,0<k→k<n→Li (f k) (f (Lp k))=false
def dH (f:Nat→Cd) (n j:Nat):Prop:=(∀ k,0<k→k<n→k≠j→Li (f k) (f (Lp k))=false)∧(0<j→∀ k,0<k→k<n→Lp k=j→Li (f k) (f (Lp j))=false)
def Me (f:Nat→Cd) (i k:Nat):Nat→Cd:=fun m=>if m=i then f k else if m=k then f i else f m
theorem Px (f:Nat→Cd) (i k:Nat):Me f i k i=f k:=if_pos rfl
theorem La (f:Nat→Cd) (i k:Nat):Me f i k k=f i:=by
 unfold Me
 by_cases h:k=i
 ·rw [if_pos h,h]
 ·rw [if_neg h,if_pos rfl]
theorem Gz (f:Nat→Cd) {i k m:Nat} (h:m≠i) (g:m≠k):Me f i k m=f m:=by unfold Me;rw [if_neg h,if_neg g]
theorem Tt {f:Nat→Cd} {n j:Nat} (h:dH f n j) (hj:j=0∨Li (f j) (f (Lp j))=false):lT f n:=by
 intro k h0 hk
 by_cases e:k=j
 ·subst e
  rcases hj with rfl | hj
  ·omega
  ·exact hj
 ·exact h.1 k h0 hk e
theorem dR {f:Nat→Cd} {n j:Nat} (h:dH f n j) (h0:0<j) (hj:j<n) (hl:Li (f j) (f (Lp j))=true):dH (Me f (Lp j) j) n (Lp j):=by
 have hp:=J0 h0
 refine ⟨fun k k0 kn kp=>?_,fun p0 k k0 kn kp=>?_⟩
 ·by_cases kj:k=j
  ·subst kj
   rw [La,Px];exact nC hl
  ·rw [Gz f kp kj]
   by_cases e1:Lp k=Lp j
   ·rw [e1,Px]
    have:=h.1 k k0 kn kj
    rw [e1] at this;exact kT this hl
   ·by_cases e2:Lp k=j
    ·rw [e2,La]
     exact h.2 h0 k k0 kn e2
    ·rw [Gz f e1 e2]
     exact h.1 k k0 kn kj
 ·have hpp:=J0 p0
  rw [Gz f (show Lp (Lp j)≠Lp j by omega) (show Lp (Lp j)≠j by omega)]
  have hq:=h.1 (Lp j) p0 (by omega) (by omega)
  by_cases kj:k=j
  ·subst kj
   rw [La];exact hq
  ·have hkp:=J0 k0
   rw [Gz f (show k≠Lp j by omega) kj]
   have:=h.1 k k0 kn kj
   rw [kp] at this;exact V2 this hq
theorem iO {f:Nat→Cd} {n:Nat} (h:lT f n):∀ k,k<n→Li (f k) (f 0)=false:=by
 intro k
 induction k using Nat.strongRecOn with
 | _ k ih =>
  intro hk
  by_cases k0:k=0
  ·subst k0;exact qL _
  ·have hp:=J0 (show 0<k by omega)
   exact V2 (h k (by omega) hk) (ih (Lp k) hp (by omega))
def Bc (H:List Cd) (k:Nat):Cd:=H.getD k (0,0)
theorem Md {H:List Cd} {k:Nat} (h:k<H.length):Bc H k=H[k]:=by simp [Bc,List.getD_eq_getElem?_getD,h]
def F1 (H:List Cd):Prop:=lT (Bc H) H.length
def Qr (H:List Cd) (j:Nat):Prop:=dH (Bc H) H.length j
def Cu (H:List Cd) (i k:Nat):List Cd:=(H.set i (Bc H k)).set k (Bc H i)
theorem Hc (H:List Cd) (i k:Nat):(Cu H i k).length=H.length:=by simp [Cu]
theorem Fi {H:List Cd} {i k:Nat} (hi:i<H.length) (hk:k<H.length) (m:Nat):Bc (Cu H i k) m=Me (Bc H) i k m:=by
 unfold Me Cu
 by_cases hm:m<H.length
 ·rw [Md (by simp;exact hm)]
  by_cases e2:m=k
  ·subst e2
   rw [List.getElem_set_self]
   by_cases e1:m=i
   ·rw [if_pos e1,e1]
   ·rw [if_neg e1,if_pos rfl]
  ·rw [List.getElem_set_ne (by omega)]
   by_cases e1:m=i
   ·subst e1
    rw [List.getElem_set_self,if_pos rfl]
   ·rw [List.getElem_set_ne (by omega),if_neg e1,if_neg e2,Md hm]
 ·have e1:m≠i:=by omega
  have e2:m≠k:=by omega
  rw [if_neg e1,if_neg e2]
  simp [Bc,List.getD_eq_getElem?_getD,hm]
theorem gP {H:List Cd} {i k:Nat} (hi:i<H.length) (hk:k<H.length):Bc (Cu H i k)=Me (Bc H) i k:=funext (Fi hi hk)
def Fv (H G:List Cd):Prop:=G.length=H.length∧(∀ i,i<H.length→∃ j,j<H.length∧Bc G i=Bc H j)∧(∀ j,j<H.length→∃ i,i<H.length∧Bc G i=Bc H j)
theorem Fv.refl (H:List Cd):Fv H H:=⟨rfl,fun i hi=>⟨i,hi,rfl⟩,fun j hj=>⟨j,hj,rfl⟩⟩
theorem Fv.trans {H G K:List Cd} (h:Fv H G) (g:Fv G K):Fv H K:=by
 refine ⟨g.1.trans h.1,fun i hi=>?_,fun j hj=>?_⟩
 ·obtain ⟨a,ha,e⟩:=g.2.1 i (by rw [h.1];exact hi)
  obtain ⟨b,hb,e'⟩:=h.2.1 a (by rw [h.1] at ha;exact ha)
  exact ⟨b,hb,e.trans e'⟩
 ·obtain ⟨a,ha,e⟩:=h.2.2 j hj
  obtain ⟨b,hb,e'⟩:=g.2.2 a (by rw [h.1];exact ha)
  exact ⟨b,by rw [h.1] at hb;exact hb,e'.trans e⟩
theorem gQ {H:List Cd} {i k:Nat} (hi:i<H.length) (hk:k<H.length):Fv H (Cu H i k):=by
 refine ⟨Hc H i k,fun m hm=>?_,fun m hm=>?_⟩
 ·rw [Fi hi hk]
  by_cases e1:m=i
  ·exact ⟨k,hk,by rw [e1,Px]⟩
  ·by_cases e2:m=k
   ·exact ⟨i,hi,by rw [e2,La]⟩
   ·exact ⟨m,hm,Gz _ e1 e2⟩
 ·by_cases e1:m=i
  ·exact ⟨k,hk,by rw [Fi hi hk,La,e1]⟩
  ·by_cases e2:m=k
   ·exact ⟨i,hi,by rw [Fi hi hk,Px,e2]⟩
   ·exact ⟨m,hm,by rw [Fi hi hk,Gz _ e1 e2]⟩
theorem Nn {H:List Cd} {x:Cd} {k:Nat} (h:k<H.length):Bc (H++[x]) k=Bc H k:=by
 rw [Md (by simp;omega),Md h,List.getElem_append_left h]
theorem S9 (H:List Cd) (x:Cd):Bc (H++[x]) H.length=x:=by
 rw [Md (by simp)];simp
theorem eK {H:List Cd} (h:F1 H) (x:Cd):Qr (H++[x]) H.length:=by
 refine ⟨fun k k0 kn kj=>?_,fun j0 k k0 kn kp=>?_⟩
 ·have hk:k<H.length:=by simp at kn;omega
  have hp:=J0 k0
  rw [Nn hk,Nn (by omega)]
  exact h k k0 hk
 ·have hp:=J0 k0
  simp at kn
  omega
structure Gu (sc:Nat→Int) (n:Nat) (H:List Cd):Prop where
 heap:F1 H
 only:∀ i,i<H.length→∃ m,m<n∧Bc H i=(sc m,(m:Int))∧0≤sc m
 all:∀ m,m<n→0≤sc m→∃ i,i<H.length∧Bc H i=(sc m,(m:Int))
 le:H.length≤n
theorem Gu.start (sc:Nat→Int):Gu sc 0 []:=⟨fun k _ h=>by simp at h,fun i h=>by simp at h,fun m h=>by omega,nL⟩
theorem Gu.skip {sc:Nat→Int} {n:Nat} {H:List Cd} (h:Gu sc n H) (hs:sc n<0):Gu sc (n+1) H:=by
 refine ⟨h.heap,fun i hi=>?_,fun m hm h0=>?_,Nat.le_succ_of_le h.le⟩
 ·obtain ⟨m,hm,e⟩:=h.only i hi
  exact ⟨m,by omega,e⟩
 ·by_cases e:m=n
  ·subst e;omega
  ·exact h.all m (by omega) h0
theorem Gu.push {sc:Nat→Int} {n:Nat} {H G:List Cd} (h:Gu sc n H) (hs:0≤sc n) (hg:F1 G) (hsame:Fv (H++[(sc n,(n:Int))]) G):Gu sc (n+1) G:=by
 have hl:=hsame.1
 simp at hl
 have hle:=h.le
 refine ⟨hg,fun i hi=>?_,fun m hm h0=>?_,by omega⟩
 ·obtain ⟨j,hj,e⟩:=hsame.2.1 i (by simp;omega)
  rw [e]
  simp at hj
  by_cases ej:j=H.length
  ·subst ej
   rw [S9]
   exact ⟨n,by omega,rfl,hs⟩
  ·rw [Nn (show j<H.length by omega)]
   obtain ⟨m,hm,e2⟩:=h.only j (by omega)
   exact ⟨m,by omega,e2⟩
 ·by_cases e:m=n
  ·subst e
   obtain ⟨i,hi,e2⟩:=hsame.2.2 H.length (by simp)
   rw [S9] at e2
   exact ⟨i,by simp at hi;omega,e2⟩
  ·obtain ⟨j,hj,e2⟩:=h.all m (by omega) h0
   obtain ⟨i,hi,e3⟩:=hsame.2.2 j (by simp;omega)
   rw [Nn hj] at e3
   exact ⟨i,by simp at hi;omega,e3.trans e2⟩
def Io (sc:Nat→Int) (n:Nat) (x:Int):Prop:=(x = -1∧∀ k,k<n→sc k<0)∨∃ i:Nat,i<n∧x=(i:Int)∧0≤sc i∧∀ k,k<n→0≤sc k→(sc i<sc k∨(sc i=sc k∧i≤k))
theorem kD {sc:Nat→Int} {n:Nat} {x y:Int} (h:Io sc n x) (g:Io sc n y):x=y:=by
 rcases h with ⟨rfl,h⟩ | ⟨i,hi,rfl,hs,h⟩
 ·rcases g with ⟨rfl,_⟩ | ⟨k,hk,rfl,gs,_⟩
  ·rfl
  ·have:=h k hk;omega
 ·rcases g with ⟨rfl,g⟩ | ⟨k,hk,rfl,gs,g⟩
  ·have:=g i hi;omega
  ·have h1:=h k hk gs
   have h2:=g i hi hs
   omega
theorem fB {sc:Nat→Int} {n:Nat} {H:List Cd} (h:Gu sc n H) (h0:H.length=0):Io sc n (-1):=by
 refine .inl ⟨rfl,fun k hk=>?_⟩
 by_cases e:sc k<0
 ·exact e
 ·obtain ⟨i,hi,_⟩:=h.all k hk (by omega)
  omega
theorem eB {sc:Nat→Int} {n:Nat} {H:List Cd} (h:Gu sc n H) (h0:0<H.length):Io sc n (Bc H 0).2:=by
 obtain ⟨m,hm,e,hs⟩:=h.only 0 h0
 refine .inr ⟨m,hm,by rw [e],hs,fun k hk ks=>?_⟩
 obtain ⟨i,hi,e2⟩:=h.all k hk ks
 have:=iO h.heap i hi
 rw [e,e2] at this
 simp only [Li,decide_eq_false_iff_not] at this
 omega
theorem gK {sc:Nat→Int} {n:Nat} {x:Int} (h:Io sc n x) (hs:sc n<0):Io sc (n+1) x:=by
 rcases h with ⟨rfl,h⟩ | ⟨i,hi,rfl,h1,h⟩
 ·exact .inl ⟨rfl,fun k hk=>by by_cases e:k=n;subst e;exact hs;exact h k (by omega)⟩
 ·exact .inr ⟨i,by omega,rfl,h1,fun k hk ks=>by by_cases e:k=n;subst e;omega;exact h k (by omega) ks⟩
theorem Yv {sc:Nat→Int} {n:Nat} (h:Io sc n (-1)) (hs:0≤sc n):Io sc (n+1) (n:Int):=by
 refine .inr ⟨n,by omega,rfl,hs,fun k hk ks=>?_⟩
 rcases h with ⟨_,h⟩ | ⟨i,_,e,_⟩
 ·by_cases e:k=n
  ·subst e;omega
  ·have:=h k (by omega);omega
 ·omega
theorem mK {sc:Nat→Int} {n i:Nat} (h:Io sc n (i:Int)) (hs:0≤sc n) (hl:sc n<sc i):Io sc (n+1) (n:Int):=by
 refine .inr ⟨n,by omega,rfl,hs,fun k hk ks=>?_⟩
 rcases h with ⟨e,_⟩ | ⟨j,hj,e,_,h⟩
 ·omega
 ·have ej:j=i:=by omega
  subst ej
  by_cases e:k=n
  ·subst e;omega
  ·have:=h k (by omega) ks;omega
theorem jH {sc:Nat→Int} {n i:Nat} (h:Io sc n (i:Int)) (hl:¬ sc n<sc i):Io sc (n+1) (i:Int):=by
 rcases h with ⟨e,_⟩ | ⟨j,hj,e,h1,h⟩
 ·omega
 ·have ej:j=i:=by omega
  subst ej
  exact .inr ⟨j,by omega,rfl,h1,fun k hk ks=>by by_cases e:k=n;subst e;omega;exact h k (by omega) ks⟩
end Go.Proofs.YtomiclakhjncbaaGreatDoor
namespace Go.Proofs.YtomiclakhjncbaaGreatDoor
open Go.RowKit Go.Proofs.Tryz
set_option maxRecDepth 100000
set_option maxHeartbeats 12800000
theorem dW (a:Int) (w:World) :
  Calls prog 147 #[.int .i64 a] w fun e w'=>e=.returned (.bool (Cb a))∧w'=w:=by
 by_cases h1:1≤a
 ·by_cases h2:a≤9999
  ·have HE:Hid (Cb a=true):=by simp [Hid,Cb,h1,h2]
   go_enter func147,ntmps147
   go_wp2;go_ret;exact ⟨Aa HE.o.symm,rfl⟩
  ·have HE:Hid (Cb a=false):=by simp [Hid,Cb,h1,h2]
   go_enter func147,ntmps147
   go_wp2;go_ret;exact ⟨Aa HE.o.symm,rfl⟩
 ·have HE:Hid (Cb a=false):=by simp [Hid,Cb];omega
  go_enter func147,ntmps147
  go_wp2;go_ret;exact ⟨Aa HE.o.symm,rfl⟩
theorem C9 {a:Int} {q:Bool} (h:Cb a=q) (w:World):Calls prog 147 #[.int .i64 a] w fun e w'=>e=.returned (.bool q)∧w'=w:=by rw [← h];exact dW a w
theorem Rd {c:Int} (w:World) (d:Int) (h:Dc c=d) (hc:(Lit.int .i64 c).wf=true):Calls prog 148 #[.int .i64 c] w fun e w'=>e=.returned (.int .i64 d)∧BW w w':=by rw [← h];exact Eb c w hc
theorem kH (a b c:Int) (w:World) :
  Calls prog 107 #[.agg #[.int .i64 a,.int .i64 b,.int .i64 c]] w fun e w'=>e=.returned (.agg #[.int .i64 a,.int .i64 b])∧BW w w':=by
 go_enter func107,ntmps107
 go_wp2
 go_returns
 refine ⟨rfl,?_⟩
 go_grown
theorem Nm (a b c m:Int) (w:World) (hc:(Lit.int .i64 c).wf=true) :
  Calls prog 313 #[.agg #[.int .i64 a,.int .i64 b,.int .i64 c,.int .i64 m]] w fun e w'=>e=.returned (.bool (Bt (a,b,c,m)))∧BW w w':=by
 have bel:Below w.heap.size w (w.alloc (.cells #[.int .i64 a,.int .i64 b,.int .i64 c,.int .i64 m] 269)):=by go_grown
 have HC:Hid _:=hc;clear hc
 cases h1:Cb a
 ·have HE:Hid (Bt (a,b,c,m)=false):=by simp [Hid,Bt,h1]
  have H1:Hid _:=h1;clear h1
  go_enter func313,ntmps313
  go_wp2_with fail
  refine (C9 H1.o _).mono ?_;rintro e w1 ⟨rfl,hw⟩;rw [hw];clear hw;go_wp2;go_ret;exact ⟨Aa HE.o.symm,bel⟩
 have H1:Hid _:=h1
 cases h2:Cb b
 ·have HE:Hid (Bt (a,b,c,m)=false):=by simp [Hid,Bt,h2]
  have H2:Hid _:=h2;clear h1 h2
  go_enter func313,ntmps313
  go_wp2_with fail
  refine (C9 H1.o _).mono ?_;rintro e w1 ⟨rfl,hw⟩;rw [hw];clear hw;go_wp2_with fail
  refine (C9 H2.o _).mono ?_;rintro e w2 ⟨rfl,hw⟩;rw [hw];clear hw;go_wp2;go_ret;exact ⟨Aa HE.o.symm,bel⟩
 have H2:Hid _:=h2
 by_cases h3:a=b
 ·have HE:Hid (Bt (a,b,c,m)=false):=by simp [Hid,Bt,h3]
  have h3':(a != b)=false:=by simpa using h3
  clear h1 h2 h3
  go_enter func313,ntmps313
  go_wp2_with fail
  refine (C9 H1.o _).mono ?_;rintro e w1 ⟨rfl,hw⟩;rw [hw];clear hw;go_wp2_with fail
  refine (C9 H2.o _).mono ?_;rintro e w2 ⟨rfl,hw⟩;rw [hw];clear hw;go_wp2;go_ret;exact ⟨Aa HE.o.symm,bel⟩
 have h3':(a != b)=true:=by simpa using h3
 have hx:∀ q:Bool,(decide (0≤Dc c) && decide (1≤m∧m≤1000000000000))=q→Bt (a,b,c,m)=q:=by
  intro q hq
  simp only [Bt,h1,h2,Bool.true_and,decide_eq_true h3]
  exact hq
 obtain ⟨d,hd⟩:∃ d,Dc c=d:=⟨_,rfl⟩;have HD:Hid _:=hd
 have HE:Hid (Bt (a,b,c,m)=(decide (0≤d) && decide (1≤m∧m≤1000000000000))):=hx _ (by rw [hd])
 clear hx hd h3 h1 h2
 go_enter func313,ntmps313
 go_wp2_with fail
 refine (C9 H1.o _).mono ?_;rintro e w1 ⟨rfl,hw⟩;rw [hw];clear hw;go_wp2_with fail
 refine (C9 H2.o _).mono ?_;rintro e w2 ⟨rfl,hw⟩;rw [hw];clear hw;go_wp2_with fail
 refine (Rd _ d HD.o HC.o).mono ?_;rintro e w3 ⟨rfl,b3⟩
 have x3:=(b3.cell (p:=⟨w.heap.size,3,none⟩) (by simp)).trans (show _=some (.int .i64 m) by simp)
 have q3:=bel.trans (b3.mono bel.size);clear b3 bel
 by_cases h4:0≤d
 ·by_cases h5:1≤m
  ·by_cases h6:m≤1000000000000
   ·have HX:Hid (Bt (a,b,c,m)=true):=by rw [Hid,HE.o];simp [h4,h5,h6]
    clear HE;go_wp2;go_ret;exact ⟨Aa HX.o.symm,q3⟩
   ·have HX:Hid (Bt (a,b,c,m)=false):=by rw [Hid,HE.o];simp [h6]
    have H6:Hid (decide (m≤1000000000000)=false):=decide_eq_false h6;clear HE;go_wp2;go_ret
    exact ⟨Aa (by rw [HX.o,H6.o]),q3⟩
  ·have HX:Hid (Bt (a,b,c,m)=false):=by rw [Hid,HE.o];simp [h5]
   clear HE;go_wp2;go_ret;exact ⟨Aa HX.o.symm,q3⟩
 ·have HX:Hid (Bt (a,b,c,m)=false):=by rw [Hid,HE.o];simp [h4]
  clear HE;go_wp2;go_ret;exact ⟨Aa HX.o.symm,q3⟩
theorem iQ (l:List UInt8):decide (0≤Lib.indexByte l 32)=l.any (fun c=>c == 32):=by
 induction l with
 | nil=>rfl
 | cons b l ih =>
  have hg:=Lib.indexByte_ge l 32
  by_cases hb:b=32
  ·have h1:(b == 32)=true:=by simp [hb]
   have h0:Lib.indexByte (b::l) 32=0:=by rw [Lib.indexByte,if_pos h1]
   rw [h0,List.any_cons,h1];rfl
  ·have h1:(b == 32)=false:=by simp [hb]
   rw [List.any_cons,h1,Bool.false_or,← ih]
   by_cases h:Lib.indexByte l 32 = -1
   ·have h0:Lib.indexByte (b::l) 32 = -1:=by rw [Lib.indexByte,if_neg (by rw [h1];decide),if_pos (by simp [h])]
    rw [h0,h]
   ·have h0:Lib.indexByte (b::l) 32=Lib.indexByte l 32+1:=by rw [Lib.indexByte,if_neg (by rw [h1];decide),if_neg (by simp [h])]
    rw [h0,decide_eq_true (show 0≤Lib.indexByte l 32+1 by omega),decide_eq_true (show 0≤Lib.indexByte l 32 by omega)]
theorem Y3 (l:List UInt8):A6 33 126 l=(A6 32 126 l && !decide (0≤Lib.indexByte l 32)):=by
 rw [iQ]
 induction l with
 | nil=>rfl
 | cons b l ih =>
  simp only [A6,List.all_cons,List.any_cons] at ih ⊢
  rw [ih]
  by_cases hb:b.toNat=32
  ·have h1:(b == 32)=true:=by
     have:b=32:=UInt8.toNat_inj.1 hb
     simp [this]
   have h2:decide (33≤b.toNat)=false:=by simp [hb]
   rw [h1,h2]
   simp
  ·have h1:(b == 32)=false:=by
     cases h:(b == 32)
     ·rfl
     ·have:b=32:=by simpa using h
      subst this;exact absurd rfl hb
   have h2:decide (33≤b.toNat)=decide (32≤b.toNat):=by
    by_cases h:33≤b.toNat
    ·rw [decide_eq_true h,decide_eq_true (show 32≤b.toNat by omega)]
    ·rw [decide_eq_false h,decide_eq_false (show ¬ 32≤b.toNat by omega)]
   rw [h1,h2,Bool.false_or]
   cases decide (32≤b.toNat) <;> cases decide (b.toNat≤126) <;> simp
theorem lU (l:List UInt8) (w:World) (hl:l.length≤1099511627776) :
  Calls prog 276 #[.string ⟨l.toArray⟩] w fun e w'=>e=.returned (.bool (Kk l))∧w'=w:=by
 by_cases h12:l.length=12
 ·have hq:((l.length:Int) == 12)=true:=by simp [h12]
  have HR:Hid (Kk l=(A6 32 126 l && !decide (0≤Lib.indexByte l 32))):=by rw [Hid,Kk,Y3,decide_eq_true h12,Bool.true_and]
  clear h12
  cases hp:A6 32 126 l
  ·go_enter func276,ntmps276
   go_wp2_with fail
   refine (Lx l _ hl).mono ?_;rintro e w1 ⟨rfl,hw⟩;subst hw;rw [hp];go_wp2;go_ret
   exact ⟨Aa (by rw [HR.o,hp];rfl),rfl⟩
  ·go_enter func276,ntmps276
   go_wp2_with fail
   refine (Lx l _ hl).mono ?_;rintro e w1 ⟨rfl,hw⟩;subst hw;rw [hp];go_wp2_with fail
   refine (strings_Contains_one ⟨l.toArray⟩ 32 _).mono ?_;rintro e w1 ⟨rfl,hw⟩;subst hw;obtain ⟨q,hqq⟩:∃ q,decide (0≤Lib.indexByte (⟨l.toArray⟩:ByteArray).data.toList 32)=q:=⟨_,rfl⟩;rw [hqq];have HQ:Hid (decide (0≤Lib.indexByte l 32)=q):=hqq;clear hqq;go_wp2;go_ret
   exact ⟨Aa (by rw [HR.o,hp,HQ.o];rfl),rfl⟩
 ·have hq:((l.length:Int) == 12)=false:=by simp;omega
  have HR:Hid (Kk l=false):=by rw [Hid,Kk,decide_eq_false h12];rfl
  clear h12
  go_enter func276,ntmps276
  go_wp2;go_ret;exact ⟨Aa HR.o.symm,rfl⟩
theorem Nd {l:List UInt8} {q:Bool} (h:Kk l=q) (w:World) (hl:l.length≤1099511627776):Calls prog 276 #[.string ⟨l.toArray⟩] w fun e w'=>e=.returned (.bool q)∧w'=w:=by rw [← h];exact lU l w hl
theorem Oi (a:Au) (w:World) (hl:a.ref.length≤1099511627776) (hc:Bf a.cur) :
  Calls prog 248 #[Fe a] w fun e w'=>e=.returned (.bool (Gy a))∧BW w w':=by
 obtain ⟨r,i,c,m,d,u⟩:=a
 simp only [Fe] at hl hc ⊢
 have HV:Hid (Gy ⟨r,i,c,m,d,u⟩=(Kk r && (Cb i && (decide (0≤Dc c) && (decide (1≤m∧m≤100000000000) && Dn d))))):=rfl
 have b0:∀ o,Below w.heap.size w (w.alloc o):=fun o=>bR.alloc nL _
 cases hr:Kk r
 ·go_enter func248,ntmps248
  go_wp2_with fail
  refine (Nd hr _ hl).mono ?_;rintro e w1 ⟨rfl,hw⟩;subst hw;go_wp2;go_ret
  exact ⟨Aa (by rw [HV.o,hr];rfl),b0 _⟩
 cases hi:Cb i
 ·go_enter func248,ntmps248
  go_wp2_with fail
  refine (Nd hr _ hl).mono ?_;rintro e w1 ⟨rfl,hw⟩;subst hw;go_wp2_with fail
  refine (C9 hi _).mono ?_;rintro e w1 ⟨rfl,hw⟩;subst hw;go_wp2;go_ret
  exact ⟨Aa (by rw [HV.o,hr,hi];rfl),b0 _⟩
 obtain ⟨W,hW⟩:∃ W,w.alloc (.cells #[.string ⟨r.toArray⟩,.int .i64 i,.int .i64 c,.int .i64 m,.int .i64 d,.bool u] 107)=W:=⟨_,rfl⟩;have bW:BW w W:=hW ▸ b0 _
 have c3:W.cell? ⟨w.heap.size,3,none⟩=some (.int .i64 m):=by rw [← hW];simp
 have c4:W.cell? ⟨w.heap.size,4,none⟩=some (.int .i64 d):=by rw [← hW];simp
 have c2:W.cell? ⟨w.heap.size,2,none⟩=some (.int .i64 c):=by rw [← hW];simp
 have lW:w.heap.size<W.heap.size:=by rw [← hW];simp
 have HW:Hid _:=hW;clear hW
 by_cases hd:0≤Dc c
 ·by_cases hm:1≤m∧m≤100000000000
  ·obtain ⟨hm1,hm2⟩:=hm
   obtain ⟨q,hq⟩:∃ q,Dn d=q:=⟨_,rfl⟩;have HQ:Hid (Dn d=q):=hq;clear hq
   have HVV:Hid (Gy ⟨r,i,c,m,d,u⟩=q):=by rw [Hid,HV.o,hr,hi,decide_eq_true hd,decide_eq_true (show 1≤m∧m≤100000000000 from ⟨hm1,hm2⟩),HQ.o];rfl
   clear HV
   go_enter func248,ntmps248
   go_wp2_with fail
   refine (Nd hr _ hl).mono ?_;rintro e w1 ⟨rfl,hw⟩;subst hw;go_wp2_with fail
   refine (C9 hi _).mono ?_;rintro e w1 ⟨rfl,hw⟩;subst hw;rw [HW.o];go_wp2_with fail
   refine (Eb c _ hc).mono ?_;rintro e w2 ⟨rfl,b2⟩;have e3:w2.cell? ⟨w.heap.size,3,none⟩=some (.int .i64 m):=(b2.cell (p:=⟨w.heap.size,3,none⟩) lW).trans c3;have e4:w2.cell? ⟨w.heap.size,4,none⟩=some (.int .i64 d):=(b2.cell (p:=⟨w.heap.size,4,none⟩) lW).trans c4;have HB:Hid (BW w w2):=bW.trans (b2.mono bW.size)
   generalize Dc c=g at hd
   clear c2 c3 c4 bW b2 HW;go_wp2_with fail
   refine (Bm d _).mono ?_;rintro e w3 ⟨rfl,hw⟩;subst hw;rw [HQ.o];go_wp2;go_ret;exact ⟨Aa HVV.o.symm,HB.o⟩
  ·have HVV:Hid (Gy ⟨r,i,c,m,d,u⟩=false):=by rw [Hid,HV.o,hr,hi,decide_eq_true hd,decide_eq_false hm];rfl
   clear HV
   go_enter func248,ntmps248
   go_wp2_with fail
   refine (Nd hr _ hl).mono ?_;rintro e w1 ⟨rfl,hw⟩;subst hw;go_wp2_with fail
   refine (C9 hi _).mono ?_;rintro e w1 ⟨rfl,hw⟩;subst hw;rw [HW.o];go_wp2_with fail
   refine (Eb c _ hc).mono ?_;rintro e w2 ⟨rfl,b2⟩;have e3:w2.cell? ⟨w.heap.size,3,none⟩=some (.int .i64 m):=(b2.cell (p:=⟨w.heap.size,3,none⟩) lW).trans c3;have HB:Hid (BW w w2):=bW.trans (b2.mono bW.size)
   generalize Dc c=g at hd
   clear c2 c3 c4 bW b2 HW
   by_cases hm1:1≤m
   ·have hm2:100000000000<m:=by omega
    clear hm;go_wp2;go_ret;exact ⟨Aa HVV.o.symm,HB.o⟩
   ·clear hm
    go_wp2;go_ret;exact ⟨Aa HVV.o.symm,HB.o⟩
 ·have HVV:Hid (Gy ⟨r,i,c,m,d,u⟩=false):=by rw [Hid,HV.o,hr,hi,decide_eq_false hd];rfl
  clear HV
  go_enter func248,ntmps248
  go_wp2_with fail
  refine (Nd hr _ hl).mono ?_;rintro e w1 ⟨rfl,hw⟩;subst hw;go_wp2_with fail
  refine (C9 hi _).mono ?_;rintro e w1 ⟨rfl,hw⟩;subst hw;rw [HW.o];go_wp2_with fail
  refine (Eb c _ hc).mono ?_;rintro e w2 ⟨rfl,b2⟩;have HB:Hid (BW w w2):=bW.trans (b2.mono bW.size)
  generalize Dc c=g at hd
  clear c2 c3 c4 bW b2 HW;go_wp2;go_ret;exact ⟨Aa HVV.o.symm,HB.o⟩
structure Jo (b:Nat) (a:Au) (u:World):Prop where
 c0:u.cell? ⟨b,0,none⟩=some (.string ⟨a.ref.toArray⟩)
 c1:u.cell? ⟨b,1,none⟩=some (.int .i64 a.iss)
 c2:u.cell? ⟨b,2,none⟩=some (.int .i64 a.cur)
 c3:u.cell? ⟨b,3,none⟩=some (.int .i64 a.am)
 c4:u.cell? ⟨b,4,none⟩=some (.int .i64 a.day)
 c5:u.cell? ⟨b,5,none⟩=some (.bool a.used)
theorem Jo.lt {b:Nat} {a:Au} {u:World} (x:Jo b a u):b<u.heap.size:=World.block_lt_of_cell? u _ x.c0
theorem Jo.below {b:Nat} {a:Au} {u u':World} (x:Jo b a u) (h:BW u u'):Jo b a u':=by
 have l:=x.lt;exact ⟨(h.cell (p:=⟨b,0,none⟩) l).trans x.c0,(h.cell (p:=⟨b,1,none⟩) l).trans x.c1,(h.cell (p:=⟨b,2,none⟩) l).trans x.c2,(h.cell (p:=⟨b,3,none⟩) l).trans x.c3,(h.cell (p:=⟨b,4,none⟩) l).trans x.c4,(h.cell (p:=⟨b,5,none⟩) l).trans x.c5⟩
theorem Jo.new (w:World) (a:Au) (t:TypeId):Jo w.heap.size a (w.alloc (.cells #[.string ⟨a.ref.toArray⟩,.int .i64 a.iss,.int .i64 a.cur,.int .i64 a.am,.int .i64 a.day,.bool a.used] t)) :=
 ⟨by simp,by simp,by simp,by simp,by simp,by simp⟩
theorem cL {x:Int} (h:(Lit.int .i64 x).wf=true):-9223372036854775808≤x∧x≤9223372036854775807:=by
 simpa [Lit.wf,IntKind.min,IntKind.max,IntKind.signed,IntKind.bits] using h
theorem Vt {a:Au} {iss cur am day:Int} (h:Xr a iss cur am day=false):Co a iss cur am day = -1:=by rw [Co,if_neg (by rw [h];decide)]
theorem Tj {a:Au} {iss cur am day:Int} (h:Xr a iss cur am day=true):Co a iss cur am day=8*Ue (am - a.am)+day - a.day:=by rw [Co,if_pos h]
theorem lP (a:Au) (iss cur am day:Int):Xr a iss cur am day=(Gy a && (!a.used && (decide (a.iss=iss) && (decide (a.cur=cur) && (E9 a day && Ia a am))))):=rfl
theorem pK (x:Int):max x (-x)=Ue x:=by unfold Ue;split <;> omega
theorem eC (a:Au) (day:Int) (w:World) (hd:0≤a.day∧a.day≤80000) (hb:day≤9223372036854775807) :
  Calls prog 279 #[Fe a,.int .i64 day] w fun e w'=>e=.returned (.bool (E9 a day))∧BW w w':=by
 obtain ⟨r,i,c,m,d,u⟩:=a
 simp only [Fe] at hd ⊢
 have b0:∀ o,Below w.heap.size w (w.alloc o):=fun o=>bR.alloc nL _
 by_cases h1:d≤day
 ·by_cases h2:day - d≤7
  ·have HV:Hid (E9 ⟨r,i,c,m,d,u⟩ day=true):=by rw [Hid,E9];exact decide_eq_true (show d≤day∧day≤d+7 by omega)
   go_enter func279,ntmps279
   go_wp2;go_ret;exact ⟨Aa HV.o.symm,b0 _⟩
  ·have HV:Hid (E9 ⟨r,i,c,m,d,u⟩ day=false):=by rw [Hid,E9];exact decide_eq_false (show ¬ (d≤day∧day≤d+7) by omega)
   go_enter func279,ntmps279
   go_wp2;go_ret;exact ⟨Aa HV.o.symm,b0 _⟩
 ·have HV:Hid (E9 ⟨r,i,c,m,d,u⟩ day=false):=by rw [Hid,E9];exact decide_eq_false (show ¬ (d≤day∧day≤d+7) by omega)
  go_enter func279,ntmps279
  go_wp2;go_ret;exact ⟨Aa HV.o.symm,b0 _⟩
theorem jN (a:Au) (am:Int) (w:World) (hd:1≤a.am∧a.am≤100000000000) :
  Calls prog 280 #[Fe a,.int .i64 am] w fun e w'=>e=.returned (.bool (Ia a am))∧BW w w':=by
 obtain ⟨r,i,c,m,d,u⟩:=a
 simp only [Fe] at hd ⊢
 have b0:∀ o,Below w.heap.size w (w.alloc o):=fun o=>bR.alloc nL _
 have hq:m.tdiv 10=m / 10:=Int.tdiv_eq_ediv_of_nonneg (by omega)
 obtain ⟨t,ht⟩:∃ t,m / 10=t:=⟨_,rfl⟩
 have ht1:0≤t∧t≤10000000000:=by omega
 have HV:Hid (Ia ⟨r,i,c,m,d,u⟩ am=decide (1≤am∧am≤m+t)):=by rw [Hid,Ia,ht]
 rw [ht] at hq
 by_cases h1:1≤am
 ·by_cases h2:am≤m+t
  ·have HW:Hid (Ia ⟨r,i,c,m,d,u⟩ am=true):=by rw [Hid,HV.o];exact decide_eq_true ⟨h1,h2⟩
   clear HV
   go_enter func280,ntmps280
   go_wp2;go_ret;exact ⟨Aa HW.o.symm,b0 _⟩
  ·have HW:Hid (Ia ⟨r,i,c,m,d,u⟩ am=false):=by rw [Hid,HV.o];exact decide_eq_false (fun h=>h2 h.2)
   clear HV
   go_enter func280,ntmps280
   go_wp2;go_ret;exact ⟨Aa HW.o.symm,b0 _⟩
 ·have HW:Hid (Ia ⟨r,i,c,m,d,u⟩ am=false):=by rw [Hid,HV.o];exact decide_eq_false (fun h=>h1 h.1)
  clear HV
  go_enter func280,ntmps280
  go_wp2;go_ret;exact ⟨Aa HW.o.symm,b0 _⟩
theorem aV (a:Au) (iss cur am day:Int) (w:World) (hl:a.ref.length≤1099511627776) (hc:Bf a.cur) (_w3:(Lit.int .i64 am).wf=true) (w4:(Lit.int .i64 day).wf=true) :
  Calls prog 251 #[Fe a,.int .i64 iss,.int .i64 cur,.int .i64 am,.int .i64 day] w fun e w'=>e=.returned (.int .i64 (Co a iss cur am day))∧BW w w':=by
 have hday:=cL w4;have HV:=lP a iss cur am day;obtain ⟨q,hq⟩:∃ q,Gy a=q:=⟨_,rfl⟩
 have HO:Hid (∀ u,Calls prog 248 #[Fe a] u fun e w'=>e=.returned (.bool q)∧BW u w'):=fun u=>by rw [← hq];exact Oi a u hl hc
 have HN:Hid (Xr a iss cur am day=false→Co a iss cur am day = -1):=Vt;have HY:Hid (Xr a iss cur am day=true→Co a iss cur am day=8*Ue (am - a.am)+day - a.day):=Tj;obtain ⟨W,hW⟩:∃ W,W=w.alloc (.cells #[.string ⟨a.ref.toArray⟩,.int .i64 a.iss,.int .i64 a.cur,.int .i64 a.am,.int .i64 a.day,.bool a.used] 107):=⟨_,rfl⟩
 have B:Jo w.heap.size a W:=by rw [hW];exact Jo.new w a _
 have HBB:Hid (Jo w.heap.size a W):=B
 have bW:BW w W:=by rw [hW];exact bR.alloc nL _
 have HBW:Hid (BW w W):=bW;clear bW _w3 w4
 cases q
 ·have HE:Hid (Co a iss cur am day = -1):=HN.o (by rw [HV,hq];rfl)
  clear HV HN HY hq HBB;obtain ⟨r,i,c,m,d,u⟩:=a;unfold Fe at HO ⊢
  simp only at hW HO ⊢
  have HW:Hid _:=hW;obtain ⟨f0,f1,f2,f3,f4,f5⟩:=B;clear hW
  go_enter func251,ntmps251
  go_upto_region 1 with fail
  rw [← HW.o];go_wp2_with fail
  refine (HO.o _).mono ?_;rintro e u1 ⟨rfl,b1⟩;have HB1:Hid (BW w u1):=next HBW.o b1;clear b1 f0 f1 f2 f3 f4 f5;go_wp2;go_ret;exact ⟨Af HE.o.symm,HB1.o⟩
 obtain ⟨-,-,-,hmm,hdd⟩:=L0 hq;have hdb:=Ei hdd
 have HT:Hid (∀ u,Calls prog 279 #[Fe a,.int .i64 day] u fun e w'=>e=.returned (.bool (E9 a day))∧BW u w'):=fun u=>eC a day u hdb hday.2
 have HS:Hid (∀ u,Calls prog 280 #[Fe a,.int .i64 am] u fun e w'=>e=.returned (.bool (Ia a am))∧BW u w'):=fun u=>jN a am u hmm
 have HTB:Hid (E9 a day=true→a.day≤day∧day≤a.day+7):=fun h=>of_decide_eq_true h
 have HSB:Hid (Ia a am=true→1≤am∧am≤a.am+a.am / 10):=fun h=>of_decide_eq_true h
 rw [hq,Bool.true_and] at HV;clear hq hdd
 cases hu:a.used
 ·rw [hu,Bool.not_false,Bool.true_and] at HV
  cases hi:(a.iss != iss)
  ·have hi':decide (a.iss=iss)=true:=decide_eq_true (by simpa using hi)
   rw [hi',Bool.true_and] at HV
   cases hcu:(a.cur != cur)
   ·have hc':decide (a.cur=cur)=true:=decide_eq_true (by simpa using hcu)
    rw [hc',Bool.true_and] at HV
    cases ht:E9 a day
    ·have HE:Hid (Co a iss cur am day = -1):=HN.o (by rw [HV,ht];rfl)
     rw [ht] at HT;clear HV HN HY ht HS HTB HSB hi' hc';obtain ⟨r,i,c,m,d,u⟩:=a;unfold Fe at HO HT ⊢
     simp only at hW HO HT hu hi hcu hmm hdb ⊢
     subst hu;have HW:Hid _:=hW;obtain ⟨f0,f1,f2,f3,f4,f5⟩:=B;clear hW
     go_enter func251,ntmps251
     go_upto_region 1 with fail
     rw [← HW.o];go_wp2_with fail
     refine (HO.o _).mono ?_;rintro e u1 ⟨rfl,b1⟩;have B1:=HBB.o.below b1;have HB1:Hid (BW w u1):=next HBW.o b1;clear b1 f0 f1 f2 f3 f4 f5;obtain ⟨f0,f1,f2,f3,f4,f5⟩:=B1
     simp only at f0 f1 f2 f3 f4 f5
     go_wp2_with fail
     refine (HT.o _).mono ?_;rintro e u2 ⟨rfl,b2⟩;have HB2:Hid (BW w u2):=next HB1.o b2;clear b2 f0 f1 f2 f3 f4 f5;go_wp2;go_ret;exact ⟨Af HE.o.symm,HB2.o⟩
    ·rw [ht,Bool.true_and] at HV
     rw [ht] at HT;have htb:=HTB.o ht
     cases hs:Ia a am
     ·have HE:Hid (Co a iss cur am day = -1):=HN.o (by rw [HV,hs])
      rw [hs] at HS;clear HV HN HY ht HTB HSB hi' hc' hs htb;obtain ⟨r,i,c,m,d,u⟩:=a;unfold Fe at HO HT HS ⊢
      simp only at hW HO HT HS hu hi hcu hmm hdb ⊢
      subst hu;have HW:Hid _:=hW;obtain ⟨f0,f1,f2,f3,f4,f5⟩:=B;clear hW
      go_enter func251,ntmps251
      go_upto_region 1 with fail
      rw [← HW.o];go_wp2_with fail
      refine (HO.o _).mono ?_;rintro e u1 ⟨rfl,b1⟩;have B1:=HBB.o.below b1;have HBB1:Hid (Jo w.heap.size ⟨r,i,c,m,d,false⟩ u1):=B1;have HB1:Hid (BW w u1):=next HBW.o b1;clear b1 f0 f1 f2 f3 f4 f5;obtain ⟨f0,f1,f2,f3,f4,f5⟩:=B1
      simp only at f0 f1 f2 f3 f4 f5
      go_wp2_with fail
      refine (HT.o _).mono ?_;rintro e u2 ⟨rfl,b2⟩;have B2:=HBB1.o.below b2;have HB2:Hid (BW w u2):=next HB1.o b2;clear b2 f0 f1 f2 f3 f4 f5;obtain ⟨f0,f1,f2,f3,f4,f5⟩:=B2
      simp only at f0 f1 f2 f3 f4 f5
      go_wp2_with fail
      refine (HS.o _).mono ?_;rintro e u3 ⟨rfl,b3⟩;have HB3:Hid (BW w u3):=next HB2.o b3;clear b3 f0 f1 f2 f3 f4 f5;go_wp2;go_ret;exact ⟨Af HE.o.symm,HB3.o⟩
     ·have hsb:=HSB.o hs
      have HE:Hid (Co a iss cur am day=8*max (am - a.am) (-(am - a.am))+day - a.day):=by rw [Hid,HY.o (by rw [HV,hs]),pK]
      rw [hs] at HS
      have hmx:0≤max (am - a.am) (-(am - a.am))∧max (am - a.am) (-(am - a.am))≤100000000000:=by omega
      clear HV HN HY ht HTB HSB hi' hc' hs;obtain ⟨r,i,c,m,d,u⟩:=a;unfold Fe at HO HT HS ⊢
      simp only at hW HO HT HS hu hi hcu hmm hdb htb hsb HE hmx ⊢
      subst hu;have HW:Hid _:=hW;obtain ⟨f0,f1,f2,f3,f4,f5⟩:=B;clear hW
      go_enter func251,ntmps251
      go_upto_region 1 with fail
      rw [← HW.o];go_wp2_with fail
      refine (HO.o _).mono ?_;rintro e u1 ⟨rfl,b1⟩;have B1:=HBB.o.below b1;have HBB1:Hid (Jo w.heap.size ⟨r,i,c,m,d,false⟩ u1):=B1;have HB1:Hid (BW w u1):=next HBW.o b1;clear b1 f0 f1 f2 f3 f4 f5;obtain ⟨f0,f1,f2,f3,f4,f5⟩:=B1
      simp only at f0 f1 f2 f3 f4 f5
      go_wp2_with fail
      refine (HT.o _).mono ?_;rintro e u2 ⟨rfl,b2⟩;have B2:=HBB1.o.below b2;have HBB2:Hid (Jo w.heap.size ⟨r,i,c,m,d,false⟩ u2):=B2;have HB2:Hid (BW w u2):=next HB1.o b2;clear b2 f0 f1 f2 f3 f4 f5;obtain ⟨f0,f1,f2,f3,f4,f5⟩:=B2
      simp only at f0 f1 f2 f3 f4 f5
      go_wp2_with fail
      refine (HS.o _).mono ?_;rintro e u3 ⟨rfl,b3⟩;have B3:=HBB2.o.below b3;have HB3:Hid (BW w u3):=next HB2.o b3;clear b3 f0 f1 f2 f3 f4 f5;obtain ⟨f0,f1,f2,f3,f4,f5⟩:=B3
      simp only at f0 f1 f2 f3 f4 f5
      go_wp2;go_ret;exact ⟨Af HE.o.symm,HB3.o⟩
   ·have hc':decide (a.cur=cur)=false:=decide_eq_false (by simpa using hcu)
    have HE:Hid (Co a iss cur am day = -1):=HN.o (by rw [HV,hc'];rfl)
    clear HV HN HY HT HS HTB HSB hi' hc';obtain ⟨r,i,c,m,d,u⟩:=a;unfold Fe at HO ⊢
    simp only at hW HO hu hi hcu hmm hdb ⊢
    subst hu;have HW:Hid _:=hW;obtain ⟨f0,f1,f2,f3,f4,f5⟩:=B;clear hW
    go_enter func251,ntmps251
    go_upto_region 1 with fail
    rw [← HW.o];go_wp2_with fail
    refine (HO.o _).mono ?_;rintro e u1 ⟨rfl,b1⟩;have B1:=HBB.o.below b1;have HB1:Hid (BW w u1):=next HBW.o b1;clear b1 f0 f1 f2 f3 f4 f5;obtain ⟨f0,f1,f2,f3,f4,f5⟩:=B1
    simp only at f0 f1 f2 f3 f4 f5
    go_wp2;go_ret;exact ⟨Af HE.o.symm,HB1.o⟩
  ·have hi':decide (a.iss=iss)=false:=decide_eq_false (by simpa using hi)
   have HE:Hid (Co a iss cur am day = -1):=HN.o (by rw [HV,hi'];rfl)
   clear HV HN HY HT HS HTB HSB hi';obtain ⟨r,i,c,m,d,u⟩:=a;unfold Fe at HO ⊢
   simp only at hW HO hu hi hmm hdb ⊢
   subst hu;have HW:Hid _:=hW;obtain ⟨f0,f1,f2,f3,f4,f5⟩:=B;clear hW
   go_enter func251,ntmps251
   go_upto_region 1 with fail
   rw [← HW.o];go_wp2_with fail
   refine (HO.o _).mono ?_;rintro e u1 ⟨rfl,b1⟩;have B1:=HBB.o.below b1;have HB1:Hid (BW w u1):=next HBW.o b1;clear b1 f0 f1 f2 f3 f4 f5;obtain ⟨f0,f1,f2,f3,f4,f5⟩:=B1
   simp only at f0 f1 f2 f3 f4 f5
   go_wp2;go_ret;exact ⟨Af HE.o.symm,HB1.o⟩
 ·have HE:Hid (Co a iss cur am day = -1):=HN.o (by rw [HV,hu];rfl)
  clear HV HN HY HT HS HTB HSB;obtain ⟨r,i,c,m,d,u⟩:=a;unfold Fe at HO ⊢
  simp only at hW HO hu hmm hdb ⊢
  subst hu;have HW:Hid _:=hW;obtain ⟨f0,f1,f2,f3,f4,f5⟩:=B;clear hW
  go_enter func251,ntmps251
  go_upto_region 1 with fail
  rw [← HW.o];go_wp2_with fail
  refine (HO.o _).mono ?_;rintro e u1 ⟨rfl,b1⟩;have B1:=HBB.o.below b1;have HB1:Hid (BW w u1):=next HBW.o b1;clear b1 f0 f1 f2 f3 f4 f5;obtain ⟨f0,f1,f2,f3,f4,f5⟩:=B1
  simp only at f0 f1 f2 f3 f4 f5
  go_wp2;go_ret;exact ⟨Af HE.o.symm,HB1.o⟩
def txF:ByteArray:=⟨#[102,114,97,117,100]⟩
def txN:ByteArray:=⟨#[110,111,110,101]⟩
def txT:ByteArray:=⟨#[116,119,105,99,101]⟩
def txA:ByteArray:=⟨#[97,109,111,117,110,116]⟩
def txQ:ByteArray:=⟨#[113,117,97,108,105,116,121]⟩
def txC:ByteArray:=⟨#[99,97,110,99,101,108,108,101,100]⟩
def oB (x:Int):ByteArray:=if x=4837 then txF else if x=4855 then txN else if x=4834 then txT else if x=4831 then txA else if x=4853 then txQ else if x=4841 then txC else ⟨#[]⟩
def rD0 (x:Int):Int:=if x=4837 then 85 else if x=4855 then 65 else if x=4834 then 45 else if x=4831 then 45 else if x=4853 then 65 else if x=4841 then 45 else 0
theorem qQ {x:Int} (h:x≠4837∧x≠4855∧x≠4834∧x≠4831∧x≠4853∧x≠4841):rD0 x=0:=by simp [rD0,h]
theorem oK {x:Int} (h:x≠4837∧x≠4855∧x≠4834∧x≠4831∧x≠4853∧x≠4841):oB x=⟨#[]⟩:=by simp [oB,h]
theorem oT {x:Int} (h:Oy x=true):rD0 x=Fs x:=by
 rcases K7 x with rfl | rfl | rfl | rfl | rfl | rfl | h'
 iterate 6 rfl
 rw [Up h'] at h;cases h
theorem S4 {x:Int} (h:Oy x=false):Fs x = -1:=by
 rcases K7 x with rfl | rfl | rfl | rfl | rfl | rfl | h'
 iterate 6 cases h
 exact jX h'
theorem Ay {a b:Int} (h:a≠b):(a == b)=false:=by simpa using h
theorem Fn (x:Int) (w:World) :
  Calls prog 328 #[.int .i64 x] w fun e w'=>e=.returned (.tuple #[.agg #[.string (oB x),.int .i64 (rD0 x),.bool (Gb x),.bool (E8 x)],.bool (Oy x)])∧BW w w':=by
 rcases K7 x with rfl | rfl | rfl | rfl | rfl | rfl | h
 iterate 6
  ·go_enter func328,ntmps328
   go_wp2
   go_returns
   exact ⟨rfl,by go_grown⟩
 ·have HV:Hid (Ending.returned (.tuple #[.agg #[.string (oB x),.int .i64 (rD0 x),.bool (Gb x),.bool (E8 x)],.bool (Oy x)])=.returned (.tuple #[.agg #[.string ⟨#[]⟩,.int .i64 0,.bool false,.bool false],.bool false])):=by
    rw [Hid,oK h,qQ h,mD h,gS h,Up h]
  obtain ⟨h1,h2,h3,h4,h5,h6⟩:=h;have g1:=Ay h1;have g2:=Ay h2;have g3:=Ay h3;have g4:=Ay h4;have g5:=Ay h5;have g6:=Ay h6;clear h1 h2 h3 h4 h5 h6
  go_enter func328,ntmps328
  go_wp2
  go_returns
  exact ⟨HV.o.symm,by go_grown⟩
theorem Rg (x:Int) (w:World) :
  Calls prog 312 #[.int .i64 x] w fun e w'=>e=.returned (.bool (Oy x))∧BW w w':=by
 go_enter func312,ntmps312
 go_wp2_with fail
 refine (Fn x _).mono ?_;rintro e w1 ⟨rfl,b1⟩;go_wp2;go_ret;exact ⟨rfl,b1.alloc b1.size _⟩
theorem X7 (x:Int) (w:World) :
  Calls prog 335 #[.int .i64 x] w fun e w'=>e=.returned (.int .i64 (Fs x))∧BW w w':=by
 cases h:Oy x
 ·have HV:Hid _:=S4 h
  go_enter func335,ntmps335
  go_wp2_with fail
  refine (Fn x _).mono ?_;rintro e w1 ⟨rfl,b1⟩;go_wp2;go_ret;exact ⟨Af HV.o.symm,b1.alloc b1.size _⟩
 ·have HV:Hid _:=oT h
  go_enter func335,ntmps335
  go_wp2_with fail
  refine (Fn x _).mono ?_;rintro e w1 ⟨rfl,b1⟩;go_wp2;go_ret;exact ⟨Af HV.o,b1.alloc b1.size _⟩
theorem X0 (x:Int) (w:World) :
  Calls prog 334 #[.int .i64 x] w fun e w'=>e=.returned (.bool (Gb x))∧BW w w':=by
 go_enter func334,ntmps334
 go_wp2_with fail
 refine (Fn x _).mono ?_;rintro e w1 ⟨rfl,b1⟩;go_wp2;go_ret;exact ⟨rfl,b1.alloc b1.size _⟩
theorem Xc (x:Int) (w:World) :
  Calls prog 332 #[.int .i64 x] w fun e w'=>e=.returned (.bool (E8 x))∧BW w w':=by
 go_enter func332,ntmps332
 go_wp2_with fail
 refine (Fn x _).mono ?_;rintro e w1 ⟨rfl,b1⟩;go_wp2;go_ret;exact ⟨rfl,b1.alloc b1.size _⟩
def rL:List Int:=[4837,4855,4834,4831,4853,4841]
def pX (x:Int):Int:=if x=4837 then 0 else if x=4855 then 1 else if x=4834 then 2 else if x=4831 then 3 else if x=4853 then 4 else if x=4841 then 5 else -1
theorem X5 {x:Int} (h:x≠4837∧x≠4855∧x≠4834∧x≠4831∧x≠4853∧x≠4841):pX x = -1:=by simp [pX,h]
theorem rR (x:Int):decide (0≤pX x)=Oy x:=by
 rcases K7 x with rfl | rfl | rfl | rfl | rfl | rfl | h'
 iterate 6 rfl
 rw [X5 h',Up h'];rfl
theorem sU {x:Int} {k:Nat} (hk:k<6) (h:rL.getD k 0=x):pX x=k:=by
 rcases (show k=0∨k=1∨k=2∨k=3∨k=4∨k=5 by omega) with rfl | rfl | rfl | rfl | rfl | rfl <;> (subst h;rfl)
theorem oX {x:Int} (h:∀ j,j<6→rL.getD j 0≠x):pX x = -1:=by
 have h0:=h 0 (by omega)
 have h1:=h 1 (by omega)
 have h2:=h 2 (by omega)
 have h3:=h 3 (by omega)
 have h4:=h 4 (by omega)
 have h5:=h 5 (by omega)
 simp [rL] at h0 h1 h2 h3 h4 h5
 exact X5 ⟨by omega,by omega,by omega,by omega,by omega,by omega⟩
theorem Ud (x:Int) (w:World) :
  Calls prog 298 #[.int .i64 x] w fun e w'=>e=.returned (.int .i64 (pX x))∧BW w w':=by
 have hcA:∀ k,k<6→(w.alloc (.cells #[.int .i64 4837,.int .i64 4855,.int .i64 4834,.int .i64 4831,.int .i64 4853,.int .i64 4841] 3)).cell? ⟨w.heap.size,k,none⟩=some (.int .i64 (rL.getD k 0)):=by
  intro k hk
  rcases (show k=0∨k=1∨k=2∨k=3∨k=4∨k=5 by omega) with rfl | rfl | rfl | rfl | rfl | rfl <;> simp [rL]
 have hbel:Below w.heap.size w (w.alloc (.cells #[.int .i64 4837,.int .i64 4855,.int .i64 4834,.int .i64 4831,.int .i64 4853,.int .i64 4841] 3)):=bR.alloc nL _
 go_enter func298,ntmps298
 go_wp2
 go_loop [4] (fun i=>∃ k:Nat,k≤6∧i=.int .i64 k∧∀ j,j<k→rL.getD j 0≠x) (fun i=>6 - (intOf i).toNat)
 case atStart=>exact ⟨0,by omega,rfl,fun j hj=>by omega⟩
 case round =>
  obtain ⟨k,hk,rfl,hno⟩:=hrel;have HN:Hid (∀ j,j<k→rL.getD j 0≠x):=hno;clear hno
  by_cases hlt:k<6
  ·have a1:=hcA k hlt
   clear hcA;obtain ⟨c,hc⟩:∃ c,rL.getD k 0=c:=⟨_,rfl⟩;rw [hc] at a1;have HC:Hid (rL.getD k 0=c):=hc;clear hc
   cases he:(c == x)
   ·have HE:Hid (rL.getD k 0≠x):=by rw [HC.o];simpa [Hid] using he
    go_wp2
    go_round
    case rel=>exact ⟨k+1,by omega,by go_num,fun j hj=>by rcases (show j<k∨j=k from by omega) with h | rfl;exact HN.o j h;exact HE.o⟩
    case measure=>simp [intOf];omega
   ·have HE:Hid (rL.getD k 0=x):=by rw [HC.o];simpa [Hid] using he
    go_wp2;go_ret;exact ⟨Af (sU hlt HE.o).symm,hbel⟩
  ·have:k=6:=by omega
   subst this;clear hcA;go_wp2;go_ret;exact ⟨Af (oX HN.o).symm,hbel⟩
theorem V7 (x:Int) (w:World) :
  Calls prog 259 #[.int .i64 x] w fun e w'=>e=.returned (.bool (Oy x))∧BW w w':=by
 have HV:Hid _:=rR x
 go_enter func259,ntmps259
 go_wp2_with fail
 refine (Ud x _).mono ?_;rintro e w1 ⟨rfl,b1⟩;go_wp2;go_ret;exact ⟨Aa HV.o,b1⟩
theorem aT (x:Int) (w:World) :
  Calls prog 301 #[.int .i64 x] w fun e w'=>e=.returned (.bool (Gb x))∧w'=w:=by
 obtain ⟨p,hp⟩:∃ p,(x == 4831)=p:=⟨_,rfl⟩
 have HV:Hid (Gb x=(p || x == 4853)):=by rw [Hid,Gb,hp]
 cases p
 ·go_enter func301,ntmps301
  go_wp2;go_ret
  exact ⟨Aa (by rw [HV.o];rfl),rfl⟩
 ·go_enter func301,ntmps301
  go_wp2;go_ret
  exact ⟨Aa (by rw [HV.o];rfl),rfl⟩
theorem Wt (x:Int) (w:World) :
  Calls prog 300 #[.int .i64 x] w fun e w'=>e=.returned (.bool (E8 x))∧w'=w:=by
 obtain ⟨p,hp⟩:∃ p,(x == 4837)=p:=⟨_,rfl⟩
 have HV:Hid (E8 x=(p || x == 4834)):=by rw [Hid,E8,hp]
 cases p
 ·go_enter func300,ntmps300
  go_wp2;go_ret
  exact ⟨Aa (by rw [HV.o];rfl),rfl⟩
 ·go_enter func300,ntmps300
  go_wp2;go_ret
  exact ⟨Aa (by rw [HV.o];rfl),rfl⟩
theorem lA {x:Int} (h:Oy x=true):∃ k:Nat,k<6∧pX x=k∧Fs x=([85,65,45,45,65,45]:List Int).getD k 0:=by
 rcases K7 x with rfl | rfl | rfl | rfl | rfl | rfl | h'
 ·exact ⟨0,by decide,rfl,rfl⟩
 ·exact ⟨1,by decide,rfl,rfl⟩
 ·exact ⟨2,by decide,rfl,rfl⟩
 ·exact ⟨3,by decide,rfl,rfl⟩
 ·exact ⟨4,by decide,rfl,rfl⟩
 ·exact ⟨5,by decide,rfl,rfl⟩
 ·rw [Up h'] at h;cases h
theorem Xy (x:Int) (w:World) :
  Calls prog 302 #[.int .i64 x] w fun e w'=>e=.returned (.int .i64 (Fs x))∧BW w w':=by
 cases h:Oy x
 ·have HV:Hid _:=S4 h
  have hA:pX x = -1:=by
   rcases K7 x with rfl | rfl | rfl | rfl | rfl | rfl | h'
   iterate 6 cases h
   exact X5 h'
  have HA:Hid _:=hA;clear hA
  go_enter func302,ntmps302
  go_wp2_with fail
  refine (Ud x _).mono ?_;rintro e w1 ⟨rfl,b1⟩;rw [HA.o];go_wp2;go_ret;exact ⟨Af HV.o.symm,b1⟩
 ·obtain ⟨k,hk,hA,hD⟩:=lA h
  have HA:Hid _:=hA;have HD:Hid _:=hD;clear hA hD
  go_enter func302,ntmps302
  go_wp2_with fail
  refine (Ud x _).mono ?_;rintro e w1 ⟨rfl,b1⟩;rw [HA.o];have bel:Below w.heap.size w (w1.alloc (.cells #[.int .i64 85,.int .i64 65,.int .i64 45,.int .i64 45,.int .i64 65,.int .i64 45] 3)):=b1.alloc b1.size _
  have hc:(w1.alloc (.cells #[.int .i64 85,.int .i64 65,.int .i64 45,.int .i64 45,.int .i64 65,.int .i64 45] 3)).cell? ⟨w1.heap.size,k,none⟩=some (.int .i64 (([85,65,45,45,65,45]:List Int).getD k 0)):=by
   rcases (show k=0∨k=1∨k=2∨k=3∨k=4∨k=5 by omega) with rfl | rfl | rfl | rfl | rfl | rfl <;> simp
  obtain ⟨v,hv⟩:∃ v,([85,65,45,45,65,45]:List Int).getD k 0=v:=⟨_,rfl⟩;rw [hv] at hc;have HV:Hid _:=hv;have HB:Hid _:=bel;clear hv bel b1 h;go_wp2;go_ret
  exact ⟨Af (by rw [HD.o,HV.o]),HB.o⟩
def Mt:List Int:=[30,30,15,60,20]
def Ki (x:Int):Int:=if 0≤x∧x≤4 then Mt.getD x.toNat 0 else -1
theorem Vp {x:Int} (h:x<0∨4<x):Ki x = -1:=if_neg (by omega)
theorem St {k:Nat} (h:k<5):Ki (k:Int)=Mt.getD k 0:=by rw [Ki,if_pos (by omega)];rfl
theorem Rm (x:Int):(x<0∨4<x)∨∃ k:Nat,k<5∧x=(k:Int):=by
 by_cases h:x<0∨4<x
 ·exact .inl h
 ·exact .inr ⟨x.toNat,by omega,by omega⟩
def Di (w : World) : Prop := Lib.TabIs prog w "loop.example/g00126/impl.stepDays" .i64 Mt
theorem Di.below {w w':World} (h:Di w) (hb:BW w w'):Di w':=Lib.tabBelow_of_tabIs h w' hb
theorem Di.cell {w:World} (h:Di w) (i:Nat) (hi:i<5):w.cell? ⟨16,i,none⟩=some (.int .i64 (Mt.getD i 0)) :=
 Lib.TabIs.cell h (by kernel_rfl) i hi
theorem dS (x:Int) (w:World) (ht:Di w) :
  Calls prog 331 #[.int .i64 x] w fun e w'=>e=.returned (.int .i64 (Ki x))∧w'=w:=by
 rcases Rm x with h | ⟨k,hk,rfl⟩
 ·have HV:Hid _:=Vp h
  clear ht
  rcases h with h | h
  ·go_enter func331,ntmps331
   go_wp2;go_ret;exact ⟨Af HV.o.symm,rfl⟩
  ·go_enter func331,ntmps331
   go_wp2;go_ret;exact ⟨Af HV.o.symm,rfl⟩
 ·have hc:=ht.cell k hk
  have HL:Hid _:=St hk;obtain ⟨v,hv⟩:∃ v,Mt.getD k 0=v:=⟨_,rfl⟩;rw [hv] at hc;have HV:Hid _:=hv;clear ht hv
  go_enter func331,ntmps331
  go_wp2;go_ret
  exact ⟨Af (by rw [HL.o,HV.o]),rfl⟩
theorem I1 (x:Int) (w:World) :
  Calls prog 223 #[.int .i64 x] w fun e w'=>e=.returned (.int .i64 (Ki x))∧BW w w':=by
 rcases Rm x with h | ⟨k,hk,rfl⟩
 ·have HV:Hid _:=Vp h
  have hi:Gk x 0 4=false:=bN h
  go_enter func223,ntmps223
  go_wp2_with (go_at_call 134;refine (Dl _ _ _ _).mono ?_;rintro e w' ⟨rfl,rfl⟩)
  go_ret;exact ⟨Af HV.o.symm,bR⟩
 ·have hi:Gk (k:Int) 0 4=true:=Uh (by omega) (by omega)
  have HB:Hid (Below w.heap.size w (w.alloc (.cells #[.int .i64 30,.int .i64 30,.int .i64 15,.int .i64 60,.int .i64 20] 3))):=bR.alloc nL _
  have hc:(w.alloc (.cells #[.int .i64 30,.int .i64 30,.int .i64 15,.int .i64 60,.int .i64 20] 3)).cell? ⟨w.heap.size,k,none⟩=some (.int .i64 (Mt.getD k 0)):=by
   rcases (show k=0∨k=1∨k=2∨k=3∨k=4 by omega) with rfl | rfl | rfl | rfl | rfl <;> simp [Mt]
  have HL:Hid _:=St hk;obtain ⟨v,hv⟩:∃ v,Mt.getD k 0=v:=⟨_,rfl⟩;rw [hv] at hc;have HV:Hid _:=hv;clear hv
  go_enter func223,ntmps223
  go_wp2_with (go_at_call 134;refine (Dl _ _ _ _).mono ?_;rintro e w' ⟨rfl,rfl⟩)
  go_ret
  exact ⟨Af (by rw [HL.o,HV.o]),HB.o⟩
end Go.Proofs.YtomiclakhjncbaaGreatDoor
namespace Go.Proofs.YtomiclakhjncbaaGreatDoor
open Go.Proofs.Tryz
set_option maxRecDepth 100000
set_option maxHeartbeats 12800000
def Cf:List Ln→Int→Int→Option Int
 | [],_,_=>none
 | x::r,a,c=>if x.1=a∧x.2.1=c then some x.2.2 else Cf r a c
def iD (f:Int→Int→Option Int) (a c m:Int):Int→Int→Option Int:=fun a' c' =>
 if a'=a∧c'=c then (if (f a c).getD 0+m=0 then none else some ((f a c).getD 0+m)) else f a' c'
def Va (ls:List Ln):Prop:=ls.Pairwise (fun x y=>E3 x y=true)
def NZ (ls:List Ln):Prop:=∀ x ∈ ls,x.2.2≠0
theorem Ev {x y:Ln} : E3 x y=true ↔ x.1<y.1∨x.1=y.1∧x.2.1<y.2.1:=by simp [E3]
theorem Jj {x y z:Ln} (h1:E3 x y=true) (h2:E3 y z=true):E3 x z=true:=by
 rw [Ev] at *;omega
theorem N3 {ls:List Ln} {a c:Int} (h:∀ x ∈ ls,¬ (x.1=a∧x.2.1=c)):Cf ls a c=none:=by
 induction ls with
 | nil=>rfl
 | cons y r ih =>
  simp only [Cf]
  rw [if_neg (h y (List.mem_cons_self ..))]
  exact ih fun x hx=>h x (List.mem_cons_of_mem _ hx)
theorem Mr {ls:List Ln} {a c v:Int} (h:Cf ls a c=some v):(a,c,v) ∈ ls:=by
 induction ls with
 | nil=>simp [Cf] at h
 | cons y r ih =>
  simp only [Cf] at h
  split at h
  ·rename_i hk
   obtain ⟨y1,y2,y3⟩:=y
   simp at hk h
   obtain ⟨rfl,rfl⟩:=hk;subst h;exact List.mem_cons_self ..
  ·exact List.mem_cons_of_mem _ (ih h)
def cV (ls:List Ln):Prop:=ls.Pairwise (fun x y=>¬ (x.1=y.1∧x.2.1=y.2.1))
theorem Va.apart {ls:List Ln} (h:Va ls):cV ls:=h.imp fun {x y} hxy=>by rw [Ev] at hxy;omega
theorem Q3 {ls:List Ln} (h:cV ls) {a c v:Int} : (a,c,v) ∈ ls ↔ Cf ls a c=some v:=by
 refine ⟨fun hm=>?_,Mr⟩
 induction ls with
 | nil=>cases hm
 | cons y r ih =>
  obtain ⟨h1,h2⟩:=List.pairwise_cons.1 h
  rcases List.mem_cons.1 hm with rfl | hr
  ·simp [Cf]
  ·have hk:=h1 _ hr
   simp only at hk
   simp only [Cf]
   rw [if_neg hk];exact ih h2 hr
theorem gE (ls:List Ln) (x:Ln) (a c:Int):Cf (ls++[x]) a c=match Cf ls a c with | some v=>some v | none=>if x.1=a∧x.2.1=c then some x.2.2 else none:=by
 induction ls with
 | nil=>simp [Cf]
 | cons y r ih =>
  simp only [List.cons_append,Cf]
  split
  ·rfl
  ·exact ih
theorem fN {ls:List Ln} (hs:Va ls) (hz:NZ ls) {k:Nat} (hk:k<ls.length):Cf (ls.take (k+1))=iD (Cf (ls.take k)) (Cg ls k).1 (Cg ls k).2.1 (Cg ls k).2.2:=by
 have hn:Cf (ls.take k) (Cg ls k).1 (Cg ls k).2.1=none:=by
  refine N3 fun x hx=>?_
  obtain ⟨i,hi,rfl⟩:=List.mem_iff_getElem.1 hx
  simp only [List.length_take] at hi
  have hp:=List.pairwise_iff_getElem.1 hs i k (by omega) hk (by omega)
  rw [Ev] at hp;rw [List.getElem_take,Pu hk]
  omega
 have h0:(Cg ls k).2.2≠0:=hz _ (Ex hk)
 funext a c
 rw [Kl ls k hk,gE];unfold iD;rw [hn]
 by_cases he:a=(Cg ls k).1∧c=(Cg ls k).2.1
 ·obtain ⟨rfl,rfl⟩:=he
  rw [hn]
  simp [h0]
 ·rw [if_neg he,if_neg (fun h=>he ⟨h.1.symm,h.2.symm⟩)]
  cases Cf (ls.take k) a c <;> rfl
theorem Wf {ls:List Ln} {a c m:Int} {x:Ln} (h:x ∈ Cr ls a c m):x ∈ ls∨x.1=a∧x.2.1=c:=by
 induction ls with
 | nil=>simp [Cr] at h;subst h;exact .inr ⟨rfl,rfl⟩
 | cons y r ih =>
  simp only [Cr] at h
  split at h
  ·split at h
   ·split at h
    ·rcases List.mem_cons.1 h with rfl | h
     ·exact .inr ⟨rfl,rfl⟩
     ·exact .inl (List.mem_cons_of_mem _ h)
    ·exact .inl (List.mem_cons_of_mem _ h)
   ·rcases List.mem_cons.1 h with rfl | h
    ·exact .inr ⟨rfl,rfl⟩
    ·exact .inl h
  ·rcases List.mem_cons.1 h with rfl | h
   ·exact .inl (List.mem_cons_self ..)
   ·exact (ih h).imp (List.mem_cons_of_mem _) id
theorem Kv {x:Ln} {a c:Int} : My x a c=true ↔ a<x.1∨x.1=a∧c≤x.2.1:=by simp [My]
theorem Rn {ls:List Ln} (hs:Va ls) (a c m:Int):Va (Cr ls a c m):=by
 induction ls with
 | nil=>simp [Cr,Va]
 | cons y r ih =>
  obtain ⟨h1,h2⟩:=List.pairwise_cons.1 hs
  simp only [Cr]
  split
  ·rename_i hr
   rw [Kv] at hr
   split
   ·rename_i he
    split
    ·refine List.pairwise_cons.2 ⟨fun z hz=>?_,h2⟩
     have:=h1 z hz
     rw [Ev] at this ⊢
     simp only
     omega
    ·exact h2
   ·rename_i he
    refine List.pairwise_cons.2 ⟨fun z hz=>?_,hs⟩
    have hy:E3 (a,c,m) y=true:=by rw [Ev];simp only;omega
    rcases List.mem_cons.1 hz with rfl | hz
    ·exact hy
    ·exact Jj hy (h1 z hz)
  ·rename_i hr
   rw [Kv] at hr
   refine List.pairwise_cons.2 ⟨fun z hz=>?_,ih h2⟩
   rcases Wf hz with hz | ⟨e1,e2⟩
   ·exact h1 z hz
   ·rw [Ev];omega
theorem Tb {ls:List Ln} (hs:Va ls) (a c:Int) {m:Int} (hm:m≠0):Cf (Cr ls a c m)=iD (Cf ls) a c m:=by
 induction ls with
 | nil =>
  funext a' c'
  simp only [Cr,Cf,iD,Option.getD_none,Int.zero_add,if_neg hm]
  by_cases h:a'=a∧c'=c
  ·rw [if_pos h,if_pos ⟨h.1.symm,h.2.symm⟩]
  ·rw [if_neg h,if_neg (fun q=>h ⟨q.1.symm,q.2.symm⟩)]
 | cons y r ih =>
  obtain ⟨h1,h2⟩:=List.pairwise_cons.1 hs;have ih':=ih h2
  funext a' c'
  simp only [Cr]
  split
  ·rename_i hr
   rw [Kv] at hr
   split
   ·rename_i he
    have hnr:Cf r a c=none:=N3 fun x hx hk=>by
     have:=h1 x hx
     rw [Ev] at this;omega
    have hl:Cf (y::r) a c=some y.2.2:=by simp [Cf,he]
    unfold iD;rw [hl]
    simp only [Option.getD_some]
    split
    ·rename_i h0
     by_cases h:a'=a∧c'=c
     ·rw [if_pos h];simp [Cf,h.1,h.2]
     ·rw [if_neg h]
      have e1:¬ (a=a'∧c=c'):=fun q=>h ⟨q.1.symm,q.2.symm⟩
      simp only [Cf]
      rw [if_neg e1,if_neg (by rw [he.1,he.2];exact e1)]
    ·rename_i h0
     have h0':y.2.2+m=0:=by omega
     by_cases h:a'=a∧c'=c
     ·rw [if_pos h,if_pos h0',h.1,h.2];exact hnr
     ·rw [if_neg h]
      have e1:¬ (a=a'∧c=c'):=fun q=>h ⟨q.1.symm,q.2.symm⟩
      simp only [Cf]
      rw [if_neg (by rw [he.1,he.2];exact e1)]
   ·rename_i he
    have hn:Cf (y::r) a c=none:=N3 fun x hx hk=>by
     rcases List.mem_cons.1 hx with rfl | hx
     ·exact he hk
     ·have:=h1 x hx
      rw [Ev] at this;omega
    unfold iD;rw [hn]
    simp only [Option.getD_none,Int.zero_add,if_neg hm]
    by_cases h:a'=a∧c'=c
    ·rw [if_pos h];simp [Cf,h.1,h.2]
    ·have e1:¬ (a=a'∧c=c'):=fun q=>h ⟨q.1.symm,q.2.symm⟩
     rw [if_neg h];conv=>lhs;rw [Cf]
     rw [if_neg e1]
  ·rename_i hr
   rw [Kv] at hr
   have hya:¬ (y.1=a∧y.2.1=c):=by omega
   have hl:Cf (y::r) a c=Cf r a c:=by simp only [Cf];rw [if_neg hya]
   have hx:=congrFun (congrFun ih' a') c'
   conv=>lhs;rw [Cf]
   unfold iD at hx ⊢;rw [hl,hx]
   by_cases h:a'=a∧c'=c
   ·rw [if_neg (by rw [h.1,h.2];exact hya),if_pos h,if_pos h]
   ·rw [if_neg h,if_neg h];simp only [Cf]
theorem aQ {l1 l2:List Ln} (h1:Va l1) (h2:Va l2) (h:∀ a c,Cf l1 a c=Cf l2 a c):l1=l2:=by
 have hm:∀ x:Ln,x ∈ l1 ↔ x ∈ l2:=fun ⟨a,c,v⟩=>by rw [Q3 h1.apart,Q3 h2.apart,h]
 clear h
 induction l1 generalizing l2 with
 | nil =>
  cases l2 with
  | nil=>rfl
  | cons y r=>exact absurd ((hm y).2 (List.mem_cons_self ..)) (by simp)
 | cons x r ih =>
  cases l2 with
  | nil=>exact absurd ((hm x).1 (List.mem_cons_self ..)) (by simp)
  | cons y s =>
   obtain ⟨p1,p2⟩:=List.pairwise_cons.1 h1;obtain ⟨q1,q2⟩:=List.pairwise_cons.1 h2
   have irr:∀ z:Ln,E3 z z=true→False:=fun z hz=>by rw [Ev] at hz;omega
   have hxy:x=y:=by
    rcases List.mem_cons.1 ((hm x).1 (List.mem_cons_self ..)) with h | h
    ·exact h
    ·rcases List.mem_cons.1 ((hm y).2 (List.mem_cons_self ..)) with h' | h'
     ·exact h'.symm
     ·exact (irr x (Jj (p1 y h') (q1 x h))).elim
   subst hxy
   refine congrArg (x::·) (ih p2 q2 fun z=>⟨fun hz=>?_,fun hz=>?_⟩)
   ·rcases List.mem_cons.1 ((hm z).1 (List.mem_cons_of_mem _ hz)) with rfl | h
    ·exact (irr z (p1 z hz)).elim
    ·exact h
   ·rcases List.mem_cons.1 ((hm z).2 (List.mem_cons_of_mem _ hz)) with rfl | h
    ·exact (irr z (q1 z hz)).elim
    ·exact h
theorem Qn {ls:List Ln} (h:Az none ls=true):Va ls:=by
 have key:∀ (r:List Ln) (p:Ln),Az (some p) r=true→(∀ x ∈ r,E3 p x=true)∧Va r:=by
  intro r
  induction r with
  | nil=>intro p _;exact ⟨(fun x hx=>by cases hx),List.Pairwise.nil⟩
  | cons y s ih =>
   intro p hp
   simp only [Az,Bool.and_eq_true] at hp
   obtain ⟨a1,a2⟩:=ih y hp.2
   refine ⟨fun x hx=>?_,List.pairwise_cons.2 ⟨a1,a2⟩⟩
   rcases List.mem_cons.1 hx with rfl | hx
   ·exact hp.1.2
   ·exact Jj hp.1.2 (a1 x hx)
 cases ls with
 | nil=>exact List.Pairwise.nil
 | cons y s =>
  simp only [Az,Bool.and_eq_true] at h
  obtain ⟨a1,a2⟩:=key s y h.2;exact List.pairwise_cons.2 ⟨a1,a2⟩
theorem Rz {ls:List Ln} (h:Az none ls=true):NZ ls:=fun x hx=>(Ig (Dv h x hx)).2.2.2
theorem U2 {c:Int} (h:0≤Dc c):c ∈ Gi:=by
 unfold Dc at h
 simp only [Gi,List.mem_cons,List.not_mem_nil,or_false]
 repeat' split at h
 all_goals omega
theorem fR {c:Int} {ls:List Ln} (h:∀ x ∈ ls,x.2.1≠c):Ec c ls=0:=by
 induction ls with
 | nil=>rfl
 | cons y r ih =>
  have h1:=h y (List.mem_cons_self ..)
  have h2:=ih fun x hx=>h x (List.mem_cons_of_mem _ hx)
  simp only [Ec,List.map_cons,List.sum_cons] at h2 ⊢
  rw [if_neg h1,h2];rfl
theorem hH {ls:List Ln} (h:∀ x ∈ ls,0≤Dc x.2.1):Wo ls=true ↔ ∀ x ∈ ls,Ec x.2.1 ls=0:=by
 unfold Wo;rw [List.all_eq_true]
 constructor
 ·intro ha x hx
  simpa using ha _ (U2 (h x hx))
 ·intro ha c _
  by_cases hc:∃ x ∈ ls,x.2.1=c
  ·obtain ⟨x,hx,rfl⟩:=hc
   simpa using ha x hx
  ·have:=fR (c:=c) (ls:=ls) fun x hx e=>hc ⟨x,hx,e⟩
   simp [this]
def Qm (a b:Int):Int:=if a<b then -1 else if b<a then 1 else 0
def oL (x y:Int):Int:=if x≠0 then x else y
def Qh (x y:Ln):Int:=oL (Qm x.1 y.1) (Qm x.2.1 y.2.1)
theorem cY (x y:Ln):Qh x y<0 ↔ E3 x y=true:=by
 simp only [Qh,oL,Qm,E3,decide_eq_true_eq]
 repeat' split
 all_goals omega
end Go.Proofs.YtomiclakhjncbaaGreatDoor
namespace Go.Proofs.YtomiclakhjncbaaGreatDoor.Kb
open Go.RowKit Go.Proofs.Tryz
set_option maxRecDepth 100000
set_option maxHeartbeats 12800000
theorem mZ {l:List UInt8} (h:∀ c ∈ l,c≠32):∀ i,i≤l.length→B0 l i=([],0):=by
 intro i
 induction i with
 | zero=>intro _;rfl
 | succ i ih =>
  intro hi
  have hg:l.getD i 0=l[i]:=by
   rw [List.getD_eq_getElem?_getD,List.getElem?_eq_getElem (by omega)];rfl
  rw [J7 (by rw [hg];exact h _ (List.getElem_mem _))]
  exact ih (by omega)
theorem Qw {l:List UInt8} (h:∀ c ∈ l,c≠32):Ab l=[l]:=by
 rw [Ab,mZ h _ nL];rfl
theorem Zx {x r:List UInt8} (hx:∀ c ∈ x,c≠32):∀ i,i≤x.length→B0 (x++32::r) i=([],0):=by
 intro i
 induction i with
 | zero=>intro _;rfl
 | succ i ih =>
  intro hi
  have hg:(x++32::r).getD i 0=x[i]:=by
   rw [List.getD_eq_getElem?_getD,List.getElem?_append_left (by omega),List.getElem?_eq_getElem (by omega)]
   rfl
  rw [J7 (by rw [hg];exact hx _ (List.getElem_mem _))]
  exact ih (by omega)
theorem cX (x r:List UInt8) (s:Nat):(x++32::r).drop (x.length+1+s)=r.drop s:=by
 rw [List.drop_append,List.drop_of_length_le (by omega),List.nil_append,show x.length+1+s - x.length=s+1 from by omega]
 rfl
theorem Yo {x r:List UInt8} (hx:∀ c ∈ x,c≠32):∀ j,j≤r.length→B0 (x++32::r) (x.length+1+j)=(x::(B0 r j).1,x.length+1+(B0 r j).2):=by
 intro j
 induction j with
 | zero =>
  intro _
  have hg:(x++32::r).getD x.length 0=32:=by simp [List.getD_eq_getElem?_getD]
  show B0 (x++32::r) (x.length+1)=_
  rw [Kw hg,Zx hx _ nL]
  simp [B0]
 | succ j ih =>
  intro hj
  have h:=ih (by omega)
  have hg:(x++32::r).getD (x.length+1+j) 0=r.getD j 0:=by
   rw [List.getD_eq_getElem?_getD,List.getElem?_append_right (by omega),show x.length+1+j - x.length=j+1 from by omega]
   simp [List.getD_eq_getElem?_getD]
  have hle:=(Mo r j).1
  by_cases h32:r.getD j 0=32
  ·rw [show x.length+1+(j+1)=(x.length+1+j)+1 from by omega,Kw (by rw [hg];exact h32),h,Kw h32]
   simp only [List.cons_append]
   rw [cX,show x.length+1+j - (x.length+1+(B0 r j).2)=j - (B0 r j).2 from by omega]
   rfl
  ·rw [show x.length+1+(j+1)=(x.length+1+j)+1 from by omega,J7 (by rw [hg];exact h32),h,J7 h32]
theorem Xo {x r:List UInt8} (hx:∀ c ∈ x,c≠32):Ab (x++32::r)=x::Ab r:=by
 have h:=Yo hx (r:=r) r.length nL
 have hl:(x++32::r).length=x.length+1+r.length:=by simp;omega
 rw [Ab,hl,h,Ab]
 simp only [List.cons_append]
 rw [cX]
theorem Yf {c:UInt8} : ∀ {l:List UInt8},(∀ x ∈ l,x≠c)→Lib.indexByte l c = -1
 | [],_=>rfl
 | b::l,h=>by
  have hb:(b == c)=false:=by simpa using h b (by simp)
  rw [Lib.indexByte,hb,Yf (fun x hx=>h x (by simp [hx]))]
  simp
theorem Og {c:UInt8} {r:List UInt8} : ∀ {x:List UInt8},(∀ y ∈ x,y≠c)→Lib.indexByte (x++c::r) c=x.length
 | [],_=>by simp [Lib.indexByte]
 | b::l,h=>by
  have hb:(b == c)=false:=by simpa using h b (by simp)
  have ih:=Og (r:=r) (x:=l) (fun y hy=>h y (by simp [hy]))
  rw [List.cons_append,Lib.indexByte,hb,ih]
  have:¬ ((l.length:Int) = -1):=by omega
  simp [this]
theorem Ok:∀ (n:Nat) (l:List UInt8),l.length≤n→Lib.splitK [32] 0 (l.count 32) l=Ab l
 | 0,l,h=>by
  have:l=[]:=List.eq_nil_of_length_eq_zero (by omega)
  subst this
  rw [Qw (fun c hc=>by cases hc)]
  rfl
 | n+1,l,h=>by
  by_cases hm:(32:UInt8) ∈ l
  ·obtain ⟨x,r,rfl,hx⟩:=List.eq_append_cons_of_mem hm
   have hx':∀ c ∈ x,c≠32:=fun c hc e=>hx (e ▸ hc)
   have h0:x.count 32=0:=List.count_eq_zero.2 hx
   have hc:(x++32::r).count 32=r.count 32+1:=by
    rw [List.count_append,h0,List.count_cons_self];omega
   have hi:Lib.index (x++32::r) [32]=(x.length:Int):=by rw [Lib.index_one,Og hx']
   rw [hc,Lib.splitK,hi,if_neg (by simp),Xo hx']
   have e1:(x++32::r).take ((x.length:Int).toNat+0)=x:=by simp
   have e2:(x++32::r).drop ((x.length:Int).toNat+[(32:UInt8)].length)=r:=by simp
   rw [e1,e2,Ok n r (by simp at h;omega)]
  ·have hx:∀ c ∈ l,c≠32:=fun c hc e=>hm (e ▸ hc)
   rw [List.count_eq_zero.2 hm,Qw hx]
   rfl
theorem jP (l:List UInt8):((Lib.splitB ⟨#[32]⟩ 0 (Lib.countB ⟨l.toArray⟩ ⟨#[32]⟩) ⟨l.toArray⟩).map Value.string)=Am (Ab l)∧Lib.countB ⟨l.toArray⟩ ⟨#[32]⟩+1=(Ab l).length:=by
 have hc:Lib.countB ⟨l.toArray⟩ ⟨#[32]⟩=l.count 32:=by
  show Lib.count l.toArray.toList [32]=l.count 32
  rw [Lib.count_one]
 have hd:=Lib.splitB_data ⟨#[32]⟩ 0 (l.count 32) ⟨l.toArray⟩
 have hd2:(Lib.splitB ⟨#[32]⟩ 0 (l.count 32) ⟨l.toArray⟩).map (·.data.toList)=Ab l:=by
  rw [hd];exact Ok l.length l nL
 have hl:=Lib.splitB_all ⟨#[32]⟩ (by decide) 0 (l.count 32) ⟨l.toArray⟩ hc
 rw [hc]
 constructor
 ·rw [← hd2,Am,List.map_map]
  apply List.map_congr_left;intro s _
  simp [Py]
 ·rw [← hd2,List.length_map,hl]
theorem qS (l:List UInt8) (m:Int) (w:World) (hl:l.length≤1048576) (hm:w.cell? ⟨10,0,none⟩=some (.int .i64 m)) :
  Calls prog 66 #[.string ⟨l.toArray⟩,.string ⟨#[32]⟩] w fun e w'=>∃ a,e=.returned (.slice a (Ab l).length (Ab l).length)∧Bh w' a (Ab l)∧BW w w':=by
 obtain ⟨h1,h2⟩:=jP l
 have hs:(⟨l.toArray⟩:ByteArray).size<4294967281:=by
  show l.toArray.size<_
  rw [List.size_toArray];omega
 refine (strings_Split ⟨l.toArray⟩ ⟨#[32]⟩ m w hs hm (by decide)).mono ?_
 rintro e w' ⟨rfl,rfl⟩;rw [h1,h2]
 refine ⟨some ⟨w.heap.size,0,none⟩,rfl,.inr ⟨w.heap.size,0,rfl,by simp,fun i hi=>?_⟩,bR.alloc nL _⟩
 have:=Hd (Ab l) i hi
 simpa [go_sem] using this
end Go.Proofs.YtomiclakhjncbaaGreatDoor.Kb
namespace Go.Proofs.YtomiclakhjncbaaGreatDoor
open Go.RowKit Go.Proofs.Tryz
set_option maxRecDepth 100000
set_option maxHeartbeats 12800000
def Nj (x:Cd):List Value:=[.int .i64 x.1,.int .i64 x.2]
def Fj (H:List Cd):List Value:=H.flatMap Nj
theorem O0 (x:Cd) (r:List Cd):Fj (x::r)=.int .i64 x.1::.int .i64 x.2::Fj r:=rfl
theorem Sa (a b:List Cd):Fj (a++b)=Fj a++Fj b:=by simp [Fj]
theorem gH (H:List Cd):∀ k,k<H.length→(Fj H)[k*2]?=some (.int .i64 (Bc H k).1)∧(Fj H)[k*2+1]?=some (.int .i64 (Bc H k).2):=by
 induction H with
 | nil=>intro k h;simp at h
 | cons x r ih =>
  intro k h;rw [O0]
  cases k with
  | zero=>exact ⟨rfl,rfl⟩
  | succ k =>
   have:=ih k (by simpa using h)
   rw [show (k+1) * 2=k*2+1+1 by omega,List.getElem?_cons_succ,List.getElem?_cons_succ,List.getElem?_cons_succ,List.getElem?_cons_succ]
   exact this
theorem Yh (H:List Cd) (x:Cd):∀ k,k<H.length→((Fj H).set (k*2) (.int .i64 x.1)).set (k*2+1) (.int .i64 x.2)=Fj (H.set k x):=by
 induction H with
 | nil=>intro k h;simp at h
 | cons g r ih =>
  intro k h;rw [O0]
  cases k with
  | zero=>rfl
  | succ k =>
   have:=ih k (by simpa using h)
   rw [show (k+1) * 2=k*2+1+1 by omega,List.set_cons_succ,List.set_cons_succ,List.set_cons_succ,List.set_cons_succ,this]
   rfl
theorem Yu (H:List Cd):∀ u ∈ Fj H,u.oneCell'=true:=by
 intro u hu;obtain ⟨a,_,h⟩:=List.mem_flatMap.1 hu
 simp only [Nj,List.mem_cons,List.not_mem_nil,or_false] at h
 rcases h with rfl | rfl <;> rfl
theorem iP:(prog.info? 294).map (fun i=>(i.zero,i.size,i.bytes))=some (some (.agg #[.int .i64 0,.int .i64 0]),2,16):=by kernel_rfl
structure HP (q:Option (Nat×Obj)) (w:World) (H:List Cd) (ao:Option Addr) (cap:Nat) (u:World):Prop where
 bel:BW w u
 box:u.cell? ⟨w.heap.size,0,none⟩=some (.slice ao H.length cap)
 fz:u.frozen? ⟨w.heap.size,0,none⟩=false
 own:u.ownsRow (w.heap.size+1) 294 2 (.slice ao H.length cap) H.length (Fj H)
 kp:∀ b o,q=some (b,o)→u.heap[b]?=some o∧w.heap.size<b∧∀ x,(Value.slice ao H.length cap).ownBlock=some x→x≠b
theorem HP.lt {q:Option (Nat×Obj)} {w u:World} {H:List Cd} {ao:Option Addr} {cap:Nat} (h:HP q w H ao cap u):w.heap.size<u.heap.size:=World.block_lt_of_cell? u _ h.box
theorem pT {w w':World} {base n size:Nat} {t:TypeId} {v:Value} {xs:List Value} (h:w.ownsRow base t size v n xs) (hb:BW w w'):w'.ownsRow base t size v n xs:=by
 obtain ⟨h1,h2⟩:=h;refine ⟨h1,?_⟩
 rcases h2 with h | ⟨g,cap,cur,hv,hg,hh,a1,a2,a3,a4⟩
 ·exact .inl h
 ·have hlt:g<w.heap.size:=(Array.getElem?_eq_some_iff.1 hh).1
  exact .inr ⟨g,cap,cur,hv,hg,(hb.block g hlt).trans hh,a1,a2,a3,a4⟩
theorem HP.below {q:Option (Nat×Obj)} {w u u':World} {H:List Cd} {ao:Option Addr} {cap:Nat} (h:HP q w H ao cap u) (b:BW u u'):HP q w H ao cap u' :=
 ⟨h.bel.trans (b.mono h.bel.size),(b.cell (p:=⟨w.heap.size,0,none⟩) h.lt).trans h.box,(b.frozen (p:=⟨w.heap.size,0,none⟩) h.lt).trans h.fz,pT h.own b,fun x o e=>by
  obtain ⟨h1,h2,h3⟩:=h.kp x o e;exact ⟨(b.block x (Array.getElem?_eq_some_iff.1 h1).1).trans h1,h2,h3⟩⟩
theorem HP.row {q:Option (Nat×Obj)} {w u:World} {H:List Cd} {ao:Option Addr} {cap:Nat} (h:HP q w H ao cap u) (h0:0<H.length):∃ g,ao=some ⟨g,0,none⟩∧w.heap.size<g∧g<u.heap.size:=by
 rcases h.own.2 with ⟨hv,hn⟩ | ⟨g,c,cur,hv,hg,_⟩
 ·omega
 ·obtain ⟨rfl,rfl⟩:ao=some ⟨g,0,none⟩∧cap=c:=by simpa using hv
  exact ⟨g,rfl,by omega,(h.own.lt g rfl).2⟩
theorem HP.at {q:Option (Nat×Obj)} {w u:World} {H:List Cd} {g:Nat} {cap:Nat} (h:HP q w H (some ⟨g,0,none⟩) cap u) {k:Nat} (hk:k<H.length):u.cell? ⟨g,k*2,none⟩=some (.int .i64 (Bc H k).1)∧u.cell? ⟨g,k*2+1,none⟩=some (.int .i64 (Bc H k).2):=by
 have hl:=h.own.1
 rw [h.own.cellAt (k*2) (by omega),h.own.cellAt (k*2+1) (by omega)]
 exact gH H k hk
theorem HP.apart {q:Option (Nat×Obj)} {w u:World} {H:List Cd} {ao:Option Addr} {cap:Nat} (h:HP q w H ao cap u):some w.heap.size≠(Value.slice ao H.length cap).ownBlock:=fun e=>by have:=(h.own.lt _ e.symm).1;omega
theorem Qt {w:World} {g k g' k':Nat} {v u:Value} (h:g≠g') (hc:w.cell? ⟨g',k',none⟩=some u):(w.setCell ⟨g,k,none⟩ v).cell? ⟨g',k',none⟩=some u:=by
 rw [World.cell?_setCell_other w ⟨g,k,none⟩ v (b:=⟨g',k',none⟩) (fun e=>by injection e with e1 e2;exact h e1)];exact hc
theorem HP.setAt {q:Option (Nat×Obj)} {w u:World} {H:List Cd} {g:Nat} {cap:Nat} (h:HP q w H (some ⟨g,0,none⟩) cap u) {k:Nat} (hk:k<H.length) (x:Cd):HP q w (H.set k x) (some ⟨g,0,none⟩) cap ((u.setCell ⟨g,k*2,none⟩ (.int .i64 x.1)).setCell ⟨g,k*2+1,none⟩ (.int .i64 x.2)):=by
 obtain ⟨g',e,hg,_⟩:=h.row (by omega)
 obtain rfl:g=g':=by simpa using e
 have R0:=h.own.stored (k*2) (.int .i64 x.1);have R1:=R0.1.stored (k*2+1) (.int .i64 x.2);have R:=R1.1;rw [Yh H x k hk] at R
 refine ⟨(h.bel.setCell (Nat.le_of_lt hg) _).setCell (Nat.le_of_lt hg) _,?_,?_,by rw [List.length_set];exact R,fun b o e=>?_⟩
 ·rw [List.length_set]
  exact Qt (by omega) (Qt (by omega) h.box)
 ·simp [h.fz]
 ·obtain ⟨h1,h2,h3⟩:=h.kp b o e
  have hgb:g≠b:=h3 g rfl
  refine ⟨?_,h2,by rw [List.length_set];exact h3⟩
  rw [Below.heap_setCell _ _ _ _ (fun e=>hgb e.symm),Below.heap_setCell _ _ _ _ (fun e=>hgb e.symm)]
  exact h1
theorem mQ (a : Value) (w : World) : (method 501 322 a "Push").run prog w = .ok (403, a) w := by kernel_rfl
theorem nV (a : Value) (w : World) : (method 501 322 a "Pop").run prog w = .ok (402, a) w := by kernel_rfl
theorem rN (a : Addr) (nm : String) (w : World) : (Builtin.ssaWrapNilChk_ #[322] 322 #[.pointer (some a), strVal "", strVal nm]).run prog w = .ok (.pointer (some a)) w := rfl
theorem Uq (nm:String) {a:Addr} {v:Value} {w:World} (h:w.cell? a=some v):(receiverAt 322 (.val (.pointer (some a))) false (some nm)).run prog w=.ok v w:=by
 simp [receiverAt,run_underlying underlying322,Place.get,rN,asAddr,loadVar,isAgg291,h]
theorem Lw {t:TypeId} {nm:String} {f:FuncId} (im:(prog.info? t).map (fun i=>(i.methods.find? (·.name == nm)).map fun m=>(m.path,m.func))=some (some (#[],some (f,false)))) (n:Nat) (x:Value) (w:World) {v:Value}
  (hr:∀ s,(receiverAt t (.val x) false (some s)).run prog w=.ok v w):(method (n+1) t x nm).run prog w=.ok (f,v) w:=by
 cases hq:prog.info? t with
 | none=>rw [hq] at im;cases im
 | some i =>
  rw [hq] at im
  cases hm:i.methods.find? (·.name == nm) with
  | none=>simp [hm] at im
  | some m =>
   simp [hm] at im
   obtain ⟨h1,h2⟩:=im;rw [method]
   simp [typeInfo,hq,hm,follow,h1,h2]
   rw [hr]
   rfl
theorem bC {a : Addr} {v : Value} {w : World} (h : w.cell? a = some v) : (method 501 322 (.pointer (some a)) "Len").run prog w = .ok (282, v) w :=
 Lw (by kernel_rfl) _ _ w (fun _=>Uq _ h)
theorem Fk {a : Addr} {v : Value} {w : World} (h : w.cell? a = some v) : (method 501 322 (.pointer (some a)) "Less").run prog w = .ok (400, v) w :=
 Lw (by kernel_rfl) _ _ w (fun _=>Uq _ h)
theorem Iv {a : Addr} {v : Value} {w : World} (h : w.cell? a = some v) : (method 501 322 (.pointer (some a)) "Swap").run prog w = .ok (401, v) w :=
 Lw (by kernel_rfl) _ _ w (fun _=>Uq _ h)
end Go.Proofs.YtomiclakhjncbaaGreatDoor
namespace Go.Proofs.YtomiclakhjncbaaGreatDoor
open Go.RowKit Go.Maps Go.Proofs.Tryz
set_option maxRecDepth 100000
set_option maxHeartbeats 12800000
def Dp (a c:Int):Lit:=.string (keyBytes [.int .i64 a,.int .i64 c])
section
variable {P:Program} {k:TypeId} {f0 f1:Field}
theorem gJ {n : Nat} (hu : P.underlying k = some (.struct #[f0, f1])) (hkt : P.keyType k = true) (ck : P.cellsOf k = 2) (o0 : f0.offset = 0) (o1 : f1.offset = 1) (n0 : (f0.name != "_") = true) (n1 : (f1.name != "_") = true)
  (c0:P.cellsOf f0.type=1) (c1:P.cellsOf f1.type=1) (u0:P.underlying f0.type=some (.int .i64)) (u1:P.underlying f1.type=some (.int .i64)) (hn:P.types.size=n+1) {a c:Int} (ha:Bf a) (hc:Bf c):keyOf P k (.agg #[.int .i64 a,.int .i64 c])=some (Dp a c):=by
 have ha':(Lit.int .i64 a).wf=true:=ha;have hc':(Lit.int .i64 c).wf=true:=hc
 simp only [bne_iff_ne,ne_eq] at n0 n1
 simp [keyOf,hu,hkt,Value.formed,ck,hn,Program.keyLits,Value.cells,o0,o1,c0,c1,u0,u1,n0,n1,ha',hc',Dp]
theorem Pg {d:Nat} {t:TypeId} (u0:P.underlying t=some (.int .i64)) {u:Value} {l:List Lit} (h:P.keyLits (d+1) t [u]=some l):∃ x,u=.int .i64 x∧l=[.int .i64 x]∧Bf x:=by
 cases u <;> simp [Program.keyLits,u0] at h
 obtain ⟨⟨rfl,hw⟩,rfl⟩:=h;exact ⟨_,rfl,rfl,hw⟩
theorem Zs {n:Nat} (hu:P.underlying k=some (.struct #[f0,f1])) (hkt:P.keyType k=true) (ck:P.cellsOf k=2) (o0:f0.offset=0) (o1:f1.offset=1)
  (c0:P.cellsOf f0.type=1) (c1:P.cellsOf f1.type=1) (u0:P.underlying f0.type=some (.int .i64)) (u1:P.underlying f1.type=some (.int .i64)) (hn:P.types.size=n+1) {key:Value} {kl:Lit} (h:keyOf P k key=some kl) :
  ∃ a c,key=.agg #[.int .i64 a,.int .i64 c]∧kl=Dp a c∧Bf a∧Bf c:=by
 cases key <;> simp [keyOf,hu,hkt,Value.formed,ck] at h
 rename_i cs
 obtain ⟨l⟩:=cs;obtain ⟨hl,ls,hk,rfl⟩:=h
 match l,hl with
 | [u,v],_ =>
  rw [hn] at hk;unfold Program.keyLits at hk
  simp only [hu] at hk
  split at hk
  ·simp only [List.mapM_cons,List.mapM_nil,o0,o1,c0,c1,List.drop_zero] at hk
   have e1:(List.take 1 (Value.agg { toList:=[u,v] }).cells.toList)=[u]:=rfl;have e2:(List.take 1 (List.drop 1 (Value.agg { toList:=[u,v] }).cells.toList))=[v]:=rfl;rw [e1,e2] at hk
   cases h0:P.keyLits (n+1) f0.type [u] with
   | none=>rw [h0] at hk;cases hk
   | some l0 =>
    cases h1:P.keyLits (n+1) f1.type [v] with
    | none=>rw [h0,h1] at hk;cases hk
    | some l1 =>
     rw [h0,h1] at hk
     have hk':([l0,l1]:List (List Lit)).flatten=ls:=by simpa using hk
     obtain ⟨x,rfl,rfl,hx⟩:=Pg u0 h0;obtain ⟨y,rfl,rfl,hy⟩:=Pg u1 h1
     exact ⟨x,y,rfl,by rw [← hk'];rfl,hx,hy⟩
  ·cases hk
end
theorem Em:(128:TypeId)<prog.types.size:=of_decide_eq_true (by kernel_rfl)
theorem jF:prog.cellsOf 128=2:=by kernel_rfl
theorem pP:prog.keyType 128=true:=by kernel_rfl
theorem sB:(match prog.underlying 128 with | some (.array _ _) | some (.struct _)=>true | _=>false)=true:=by kernel_rfl
theorem jS:WideMaps.KeyLaw prog 128:=deep_law_laid Uc (m:=3) (by omega) Em (by kernel_rfl) sB
theorem Tx:Keyed prog 128:=Keyed.of_law jS
theorem Uf:prog.cellsOf 3=1:=by kernel_rfl
theorem jM:∃ n,prog.types.size=n+1:=⟨prog.types.size - 1,(Nat.succ_pred_eq_of_pos (Nat.lt_of_le_of_lt (Nat.zero_le _) Em)).symm⟩
theorem L9 {a c:Int} (ha:Bf a) (hc:Bf c):keyOf prog 128 (.agg #[.int .i64 a,.int .i64 c])=some (Dp a c) :=
 let ⟨_,hn⟩:=jM
 gJ underlying128 pP jF rfl rfl (by decide) (by decide) Uf Uf underlying3 underlying3 hn ha hc
theorem Sg {key:Value} {kl:Lit} (h:keyOf prog 128 key=some kl):∃ a c,key=.agg #[.int .i64 a,.int .i64 c]∧kl=Dp a c∧Bf a∧Bf c :=
 let ⟨_,hn⟩:=jM
 Zs underlying128 pP jF rfl rfl Uf Uf underlying3 underlying3 hn h
theorem Rh {a c a' c':Int} (ha:Bf a) (hc:Bf c) (ha':Bf a') (hc':Bf c') (h:Dp a c=Dp a' c'):a=a'∧c=c':=by
 have:=Tx.inj (L9 ha hc) (h ▸ L9 ha' hc')
 simpa using this
def F5 (w:World) (b n:Nat) (f:Int→Int→Option Int):Prop :=
 ∃ D:DataW Unit,w.ownsMap prog 128 (plainElem (H:=Unit) prog 3) b n D ∧
  (∀ a c,Bf a→Bf c→Maps.has D (Dp a c)=(f a c).isSome∧D.atKey (Dp a c) (.lit (.int .i64 0))=.lit (.int .i64 ((f a c).getD 0)))∧∀ a c,f a c≠none→Bf a∧Bf c
theorem Nh (a c:Int):WideAt.IsKeyLit (Dp a c):=trivial
theorem fO {D:DataW Unit} {f:Int→Int→Option Int} (hm:IsMap D) (h:∀ a c,Bf a→Bf c→Maps.has D (Dp a c)=(f a c).isSome∧D.atKey (Dp a c) (.lit (.int .i64 0))=.lit (.int .i64 ((f a c).getD 0))) {a c v:Int} (ha:Bf a) (hc:Bf c) :
  ∀ a' c',Bf a'→Bf c'→Maps.has (D.put (Dp a c) (.lit (.int .i64 v))) (Dp a' c')=(if a'=a∧c'=c then some v else f a' c').isSome∧(D.put (Dp a c) (.lit (.int .i64 v))).atKey (Dp a' c') (.lit (.int .i64 0))=.lit (.int .i64 ((if a'=a∧c'=c then some v else f a' c').getD 0)):=by
 intro a' c' ha' hc'
 by_cases he:a'=a∧c'=c
 ·obtain ⟨rfl,rfl⟩:=he
  rw [if_pos ⟨rfl,rfl⟩,Maps.has_put_same hm (Nh _ _),Maps.atKey_put_same hm (Nh _ _)];exact ⟨rfl,rfl⟩
 ·have hne:Dp a' c'≠Dp a c:=fun e=>he (Rh ha' hc' ha hc e)
  rw [if_neg he,Maps.has_put_other hne,Maps.atKey_put_other hne];exact h a' c' ha' hc'
theorem eN {D:DataW Unit} {f:Int→Int→Option Int} (h:∀ a c,Bf a→Bf c→Maps.has D (Dp a c)=(f a c).isSome∧D.atKey (Dp a c) (.lit (.int .i64 0))=.lit (.int .i64 ((f a c).getD 0))) {a c:Int} (ha:Bf a) (hc:Bf c) :
  ∀ a' c',Bf a'→Bf c'→Maps.has (D.del (Dp a c)) (Dp a' c')=(if a'=a∧c'=c then none else f a' c').isSome∧(D.del (Dp a c)).atKey (Dp a' c') (.lit (.int .i64 0))=.lit (.int .i64 ((if a'=a∧c'=c then none else f a' c').getD 0)):=by
 intro a' c' ha' hc'
 by_cases he:a'=a∧c'=c
 ·obtain ⟨rfl,rfl⟩:=he
  rw [if_pos ⟨rfl,rfl⟩,Maps.has_del_same,Maps.atKey_del_same];exact ⟨rfl,rfl⟩
 ·have hne:Dp a' c'≠Dp a c:=fun e=>he (Rh ha' hc' ha hc e)
  rw [if_neg he,Maps.has_del_other hne,Maps.atKey_del_other hne];exact h a' c' ha' hc'
theorem F5.kept {w w':World} {b n:Nat} {f:Int→Int→Option Int} {row:Option Nat} (h:F5 w b n f) (hg:w.grownBy w' row) (hne:some b≠row):F5 w' b n f:=by
 obtain ⟨D,h1,h2,h3⟩:=h;exact ⟨D,h1.kept hg hne,h2,h3⟩
theorem F5.lt {w:World} {b n:Nat} {f:Int→Int→Option Int} (h:F5 w b n f):b<w.heap.size:=by
 obtain ⟨D,h1,_⟩:=h;exact h1.lt
theorem F5.below {w w':World} {b n:Nat} {f:Int→Int→Option Int} (h:F5 w b n f) (hb:BW w w'):F5 w' b n f:=by
 have hl:=h.lt;obtain ⟨D,⟨es,clock,h1,r⟩,h2,h3⟩:=h;exact ⟨D,⟨es,clock,(hb.block b hl).trans h1,r⟩,h2,h3⟩
end Go.Proofs.YtomiclakhjncbaaGreatDoor
namespace Go.Proofs.YtomiclakhjncbaaGreatDoor
open Go.RowKit Go.Maps Go.MapKept Go.ChangeMaps Go.Proofs.Tryz
open Go.WideElems (Fit)
open Go.WideMaps (KeyLaw)
set_option maxRecDepth 100000
set_option maxHeartbeats 12800000
section
variable {H:Type} {P:Program} {w:World} {t k e:TypeId} {R:Value→Option (DataW H×List MemPlace)} {b:Nat} {es:Array MapEntry} {clock:Nat}
theorem Ob {α:Type} : ∀ (l:List α) (j:Nat) (x:α),l[j]?=some x→l.set j x=l
 | [],_,_,h=>by simp at h
 | y::r,0,x,h=>by simp at h;subst h;rfl
 | y::r,j+1,x,h=>by simp at h;simp [Ob r j x h]
theorem iU (K:KeyLaw P k) (ht:P.underlying t=some (.map k e)) {z:Value} (hz:∀ u:World,(zeroValue e).run P u=.ok z u) (hb:w.heap[b]?=some (.map es clock)) (F:Fit P k R es clock) {key:Value} {kl:Lit} (hkey:keyOf P k key=some kl) :
  ∃ (v0:Value) (st:Nat) (es1:Array MapEntry) (clock1:Nat),(Instr.mapEntry t (.map (some b)) key).run P w=.ok (.tuple #[v0,goInt st]) (setBlock w b (.map es1 clock1)) ∧
   (Instr.mapUpdate t (.map (some b)) key v0).run P w=.ok () (setBlock w b (.map es1 clock1))∧(Instr.lookup t (.map (some b)) key false).run P w=.ok v0 w:=by
 rcases K.find w hkey es.toList F.keys with ⟨h1,h2⟩ | ⟨j,e0,h1,h2,h3⟩
 ·refine ⟨z,clock,es.push ⟨key,z,clock⟩,clock+1,?_,?_,?_⟩
  ·simp [Instr.mapEntry,run_underlying ht,MapKept.run_getObj_map hb,K.check w false hkey,h1,hz,MapKept.run_setObj_map _ hb,Result.andThen,setBlock]
  ·simp [Instr.mapUpdate,run_underlying ht,MapKept.run_getObj_map hb,K.check w false hkey,h1,MapKept.run_setObj_map _ hb,Result.andThen,setBlock]
  ·simp [Instr.lookup,run_underlying ht,MapKept.run_getObj_map hb,K.check w _ hkey,h1,hz,Result.andThen]
 ·have hj:es[j]?=some e0:=by simpa using h2
  have m1:es.modify j (fun e=>{ e with key:=key })=es:=by
   apply Array.ext'
   rw [Array.toList_modify,modify_eq_set _ _ _ _ h2,show ({ e0 with key:=key } : MapEntry)=e0 by rw [← h3]]
   exact Ob _ _ _ h2
  have m2:es.modify j (fun e=>{ e with key:=key,val:=e0.val })=es:=by
   apply Array.ext'
   rw [Array.toList_modify,modify_eq_set _ _ _ _ h2,show ({ e0 with key:=key,val:=e0.val } : MapEntry)=e0 by rw [← h3]]
   exact Ob _ _ _ h2
  refine ⟨e0.val,e0.born,es,clock,?_,?_,?_⟩
  ·simp [Instr.mapEntry,run_underlying ht,MapKept.run_getObj_map hb,K.check w false hkey,h1,hj,h3,K.stays w hkey,m1,MapKept.run_setObj_map _ hb,Result.andThen,setBlock]
  ·simp [Instr.mapUpdate,run_underlying ht,MapKept.run_getObj_map hb,K.check w false hkey,h1,hj,h3,K.stays w hkey,m2,MapKept.run_setObj_map _ hb,Result.andThen,setBlock]
  ·simp [Instr.lookup,run_underlying ht,MapKept.run_getObj_map hb,K.check w _ hkey,h1,Result.andThen]
end
theorem gM {W:World} {b n:Nat} {f:Int→Int→Option Int} (h:F5 W b n f) {a c v m:Int} (ha:Bf a) (hc:Bf c) (hv:(f a c).getD 0=v) (hw:Bf (v+m)) (hn:n<maxLen) :
  ∃ (st:Nat) (W1 W2:World),(Instr.mapEntry 338 (.map (some b)) (.agg #[.int .i64 a,.int .i64 c])).run prog W=.ok (.tuple #[.int .i64 v,.int .i64 st]) W1 ∧
   (Instr.lookup 338 (.map (some b)) (.agg #[.int .i64 a,.int .i64 c]) false).run prog W=.ok (.int .i64 v) W ∧
   (Instr.lookup 338 (.map (some b)) (.agg #[.int .i64 a,.int .i64 c]) false).run prog W1=.ok (.int .i64 v) W1 ∧
   (Instr.entryStore 338 (.map (some b)) (.int .i64 st) (.int .i64 (v+m))).run prog W1=.ok () W2 ∧
   (Instr.lookup 338 (.map (some b)) (.agg #[.int .i64 a,.int .i64 c]) false).run prog W2=.ok (.int .i64 (v+m)) W2 ∧
   W.grownBy W1 (some b)∧W.grownBy W2 (some b)∧F5 W2 b (n+1) (fun a' c'=>if a'=a∧c'=c then some (v+m) else f a' c'):=by
 obtain ⟨D,hown,hview,hwf⟩:=h;have hkey:=L9 ha hc;obtain ⟨es,clock,hb,F,hs,hD⟩:=hown;have hown:W.ownsMap prog 128 (plainElem (H:=Unit) prog 3) b n D:=⟨es,clock,hb,F,hs,hD⟩;obtain ⟨v0,st,es1,clock1,hE,hU,hL⟩:=iU jS underlying338 Ox hb F hkey;obtain ⟨c0,hL',hat,hwc⟩:=hown.lookup_int Tx underlying338 underlying3 (Ox _) hkey
 have hc0:c0=v:=by
  have e:=hat.symm.trans (hview a c ha hc).2;rw [hv] at e
  injection e with e1;injection e1
 have hv0:v0=.int .i64 v:=by
  rw [hL] at hL';rw [← hc0];injection hL'
 subst hv0;rw [hc0] at hwc;obtain ⟨w1,hU',hown1,hg1⟩:=hown.update Tx underlying338 hn hkey (plainElem_int underlying3 hwc)
 have hw1:w1=setBlock W b (.map es1 clock1):=by
  rw [hU] at hU'
  injection hU' with _ e;exact e.symm
 subst hw1;obtain ⟨c1,hL1,hat1,_⟩:=hown1.lookup_int Tx underlying338 underlying3 (Ox _) hkey
 have hc1:c1=v:=by
  rw [Maps.atKey_put_same hown.isMap (Nh _ _)] at hat1
  injection hat1 with e1;injection e1 with _ e2;exact e2.symm
 subst hc1;obtain ⟨v0',st',es1',clock1',hE',_,hS⟩:=WideElems.entry_then_store jS underlying338 Ox hb F hkey;have hE2:=hE.symm.trans hE'
 have hst:st=st'∧setBlock W b (.map es1 clock1)=setBlock W b (.map es1' clock1'):=by
  simp only [Result.ok.injEq,Value.tuple.injEq,goInt] at hE2
  refine ⟨?_,hE2.2⟩
  have:=hE2.1
  simp at this
  exact Int.natCast_inj.1 this.2
 obtain ⟨rfl,hbe⟩:=hst
 have hb1:(setBlock W b (.map es1 clock1)).heap[b]?=some (.map es1' clock1'):=by rw [hbe];exact heap_setBlock_same hb _
 obtain ⟨es2,clock2,hS1,hU2⟩:=hS (setBlock W b (.map es1 clock1)) (.int .i64 (c1+m)) hb1;obtain ⟨w2,hU2',hown2,hg2⟩:=hown.update Tx underlying338 hn hkey (plainElem_int underlying3 hw)
 have hw2:w2=setBlock W b (.map es2 clock2):=by
  rw [hU2] at hU2'
  injection hU2' with _ e;exact e.symm
 subst hw2
 have hbb:setBlock (setBlock W b (.map es1 clock1)) b (.map es2 clock2)=setBlock W b (.map es2 clock2):=by simp [setBlock]
 rw [hbb] at hS1;obtain ⟨c2,hL2,hat2,_⟩:=hown2.lookup_int Tx underlying338 underlying3 (Ox _) hkey
 have hc2:c2=c1+m:=by
  rw [Maps.atKey_put_same hown.isMap (Nh _ _)] at hat2
  injection hat2 with e1;injection e1 with _ e2;exact e2.symm
 subst hc2
 refine ⟨st,_,_,hE,hL,hL1,hS1,hL2,hg1,hg2,_,hown2,fO hown.isMap hview ha hc,fun a' c' hf=>?_⟩
 by_cases he:a'=a∧c'=c
 ·obtain ⟨rfl,rfl⟩:=he;exact ⟨ha,hc⟩
 ·simp only [if_neg he] at hf;exact hwf a' c' hf
end Go.Proofs.YtomiclakhjncbaaGreatDoor
namespace Go.Proofs.YtomiclakhjncbaaGreatDoor
open Go.RowKit Go.Maps Go.Proofs.Tryz
set_option maxRecDepth 100000
set_option maxHeartbeats 12800000
theorem iZ {f:Int→Int→Option Int} {a c m v:Int} (hv:(f a c).getD 0=v) (h0:v+m=0):iD f a c m=fun a' c'=>if a'=a∧c'=c then none else if a'=a∧c'=c then some (v+m) else f a' c':=by
 funext a' c'
 unfold iD
 by_cases he:a'=a∧c'=c
 ·rw [if_pos he,if_pos he,hv,if_pos h0]
 ·rw [if_neg he,if_neg he,if_neg he]
theorem iG {f:Int→Int→Option Int} {a c m v:Int} (hv:(f a c).getD 0=v) (h0:v+m≠0):iD f a c m=fun a' c'=>if a'=a∧c'=c then some (v+m) else f a' c':=by
 funext a' c'
 unfold iD
 by_cases he:a'=a∧c'=c
 ·rw [if_pos he,if_pos he,hv,if_neg h0]
 ·rw [if_neg he,if_neg he]
theorem U6 (b n:Nat) (f:Int→Int→Option Int) (a c m v:Int) (w:World) (h:F5 w b n f) (ha:Bf a) (hc:Bf c) (hv:(f a c).getD 0=v) (hbd:-9000000000000000000≤v+m∧v+m≤9000000000000000000) (hn:n<maxLen) :
  Calls prog 315 #[.map (some b),.agg #[.int .i64 a,.int .i64 c],.int .i64 m] w fun e w'=>e=.returned (.tuple #[])∧F5 w' b (n+1) (iD f a c m)∧w.grownBy w' (some b):=by
 obtain ⟨W0,hW0⟩:∃ W0,W0=w.alloc (.cells #[.int .i64 a,.int .i64 c] 128):=⟨_,rfl⟩;have hbl:b<w.heap.size:=h.lt
 have k0:W0.cell? ⟨w.heap.size,0,none⟩=some (.int .i64 a):=by rw [hW0];simp
 have k1:W0.cell? ⟨w.heap.size,1,none⟩=some (.int .i64 c):=by rw [hW0];simp
 have hs0:w.heap.size<W0.heap.size:=by rw [hW0];simp
 have G0:w.grownBy W0 (some b):=by rw [hW0];exact World.grownBy_alloc w _ _
 have M0:F5 W0 b n f:=by rw [hW0];exact h.kept (World.grownBy_alloc w _ none) (by simp)
 have M1:F5 W0.drew b n f:=M0
 obtain ⟨st,W1,W2,hE,hL,hL1,hS,hL2,hg1,hg2,M2⟩:=gM (m:=m) M1 ha hc hv (WalkArith.wf_i64 (by omega)) hn
 have hwr:IntKind.i64.wrap (v+m)=v+m:=by simp [IntKind.wrap,IntKind.bits,IntKind.signed];omega
 have x0:=(hg1.cell_far ⟨w.heap.size,0,none⟩ hs0 (by simp;omega)).trans k0
 have x1:=(hg1.cell_far ⟨w.heap.size,1,none⟩ hs0 (by simp;omega)).trans k1
 have y0:=(hg2.cell_far ⟨w.heap.size,0,none⟩ hs0 (by simp;omega)).trans k0
 have y1:=(hg2.cell_far ⟨w.heap.size,1,none⟩ hs0 (by simp;omega)).trans k1
 have G2:W0.grownBy W2 (some b):=⟨hg2.os,hg2.tape,hg2.output,hg2.size,hg2.block⟩;have HG:Hid (w.grownBy W2 (some b)):=G0.trans G2
 have HM:Hid (F5 W2 b (n+1) (fun a' c'=>if a'=a∧c'=c then some (v+m) else f a' c')):=M2
 have HKY:Hid _:=L9 ha hc;have HA:Hid (Bf a):=ha;have HC:Hid (Bf c):=hc;clear h M0 M1 M2 hg1 hg2 G0 G2 ha hc
 by_cases h0:v+m=0
 ·have h0':(v+m == 0)=true:=by simpa using h0
  have HU:Hid _:=iZ hv h0;clear h0 hv
  go_enter func315,ntmps315
  go_upto_region 1 with fail
  rw [← hW0];clear hW0
  go_region
  all_goals
   obtain ⟨D,hown,hview,hwf⟩:=HM.o;have HO:Hid (W2.ownsMap prog 128 (plainElem (H:=Unit) prog 3) b (n+1) D):=hown;have HV:Hid _:=eN hview HA.o HC.o;have HWF:Hid _:=hwf;clear hown hview hwf
   go_wp2_with (at_delete;refine wpList_delete_own _ rfl _ _ 338 128 rfl 3 Tx underlying338 _ b (n+1) D rfl HO.o _ _ rfl HKY.o ?_;intro w3 hown3 hturn3)
   have hg3:=hturn3.grown;go_end0;refine ⟨rfl,⟨_,hown3,?_,?_⟩,HG.o.trans hg3⟩
   ·rw [HU.o];exact HV.o
   ·rw [HU.o]
    intro a' c' hf
    by_cases he:a'=a∧c'=c
    ·simp only [if_pos he] at hf;exact absurd rfl hf
    ·simp only [if_neg he] at hf
     exact HWF.o a' c' (by simp only [if_neg he];exact hf)
 ·have h0':(v+m == 0)=false:=by simpa using h0
  have HU:Hid _:=iG hv h0;clear h0 hv
  go_enter func315,ntmps315
  go_upto_region 1 with fail
  rw [← hW0];clear hW0
  go_region
  all_goals
   go_wp2;go_end0;refine ⟨rfl,?_,HG.o⟩
   rw [HU.o];exact HM.o
theorem eZ (w:World):F5 (w.alloc (.map #[] 0)) w.heap.size 0 (Cf []) :=
 ⟨.map [],World.ownsMap_made w prog 128 (plainElem (H:=Unit) prog 3),fun _ _ _ _=>⟨rfl,rfl⟩,fun _ _ h=>absurd rfl h⟩
theorem tP {ls:List Ln} (h:∀ x ∈ ls,-1000000000000≤x.2.2∧x.2.2≤1000000000000) (a c:Int):-1000000000000≤(Cf ls a c).getD 0∧(Cf ls a c).getD 0≤1000000000000:=by
 cases hl:Cf ls a c with
 | none=>simp
 | some v=>have:=h _ (Mr hl);simpa using this
theorem Ut (ao:Option Addr) (cap:Nat) (ls:List Ln) (w:World) (hz:Ai w ao ls) (hn:ls.length≤400) (hs:Va ls) (hnz:NZ ls) (hbd:∀ x ∈ ls,-1000000000000≤x.2.2∧x.2.2≤1000000000000) (hwf:∀ x ∈ ls,Hw x) :
  Calls prog 314 #[.agg #[.slice ao ls.length cap]] w fun e w'=>∃ g,e=.returned (.map (some g))∧w.heap.size≤g∧F5 w' g ls.length (Cf ls)∧BW w w':=by
 have hmm:=@run_makeMap prog;obtain ⟨W,hW⟩:∃ W,W=(w.alloc (.cells #[.slice ao ls.length cap] 29)).alloc (.map #[] 0):=⟨_,rfl⟩
 have bW:BW w W:=by rw [hW];go_grown
 have hWs:W.heap.size=w.heap.size+2:=by rw [hW];simp
 have k0:W.cell? ⟨w.heap.size,0,none⟩=some (.slice ao ls.length cap):=by rw [hW];simp [go_sem]
 have M0:F5 W (w.heap.size+1) 0 (Cf []):=by
  have:=eZ (w.alloc (.cells #[.slice ao ls.length cap] 29))
  rw [hW];simpa using this
 have HZ:Hid (Ai w ao ls):=hz;have HS:Hid (Va ls):=hs;have HNZ:Hid (NZ ls):=hnz;have HBD:Hid (∀ x ∈ ls,-1000000000000≤x.2.2∧x.2.2≤1000000000000):=hbd;have HWF:Hid (∀ x ∈ ls,Hw x):=hwf;have HWB:Hid (BW w W):=bW;have HM0:Hid _:=M0;clear hz hs hnz hbd hwf bW M0
 go_enter func314,ntmps314
 go_wp2;rw [← hW];clear hW
 go_loopw [10] (fun i wr=>∃ k:Nat,k≤ls.length∧i=.int .i64 k∧F5 wr (w.heap.size+1) k (Cf (ls.take k))∧BW w wr) (fun i _=>ls.length - (intOf i).toNat)
 case atStart=>exact ⟨0,Nat.zero_le _,rfl,HM0.o,HWB.o⟩
 case round =>
  obtain ⟨k,hk,rfl,hM,hbr⟩:=hrel;have HM:Hid (F5 wr (w.heap.size+1) k (Cf (ls.take k))):=hM;have hsz:w.heap.size≤wr.heap.size:=hbr.size;have hMl:w.heap.size+1<wr.heap.size:=hM.lt;clear hM HM0
  by_cases hlt:k<ls.length
  ·have hki:(k:Int)<(ls.length:Int):=by omega
   obtain ⟨b,off,rfl,hb2,c1,c2,c3⟩:=(HZ.o.below hbr).at hlt;have hLT:=fN HS.o HNZ.o hlt;have hbk:=HBD.o _ (Ex hlt);have hwk:=HWF.o _ (Ex hlt);obtain ⟨⟨x,y,z⟩,hx⟩:∃ x,Cg ls k=x:=⟨_,rfl⟩;rw [hx] at c1 c2 c3 hLT hbk hwk
   simp only at c1 c2 c3 hLT hbk
   have hlb:=tP (ls:=ls.take k) (fun q hq=>HBD.o q (List.mem_of_mem_take hq)) x y
   have HLT:Hid _:=hLT;have HWK:Hid (Bf x∧Bf y∧Bf z):=hwk;obtain ⟨V,hV⟩:∃ V,V=wr.alloc (.cells #[.int .i64 x,.int .i64 y,.int .i64 z] 113):=⟨_,rfl⟩
   have bV:BW w V:=by rw [hV];exact hbr.alloc hsz _
   have hVs:V.heap.size=wr.heap.size+1:=by rw [hV];simp
   have MV:F5 V (w.heap.size+1) k (Cf (ls.take k)):=by rw [hV];exact HM.o.kept (World.grownBy_alloc wr _ none) (by simp)
   have v0:V.cell? ⟨wr.heap.size,0,none⟩=some (.int .i64 x):=by rw [hV];simp
   have v1:V.cell? ⟨wr.heap.size,1,none⟩=some (.int .i64 y):=by rw [hV];simp
   have v2:V.cell? ⟨wr.heap.size,2,none⟩=some (.int .i64 z):=by rw [hV];simp
   obtain ⟨t,ht⟩:∃ t,(Cf (ls.take k) x y).getD 0=t:=⟨_,rfl⟩;rw [ht] at hlb;have HT:Hid _:=ht;have HBV:Hid (BW w V):=bV;have HMV:Hid (F5 V (w.heap.size+1) k (Cf (ls.take k))):=MV;have HVW:Hid (w.heap.size≤V.heap.size):=bV.size
   have HKP:Hid (∀ u,BW V u→u.cell? ⟨wr.heap.size,0,none⟩=some (.int .i64 x)∧u.cell? ⟨wr.heap.size,1,none⟩=some (.int .i64 y)∧u.cell? ⟨wr.heap.size,2,none⟩=some (.int .i64 z)):=fun u hu =>
    ⟨(hu.cell (p:=⟨wr.heap.size,0,none⟩) (by show wr.heap.size<V.heap.size;omega)).trans v0,(hu.cell (p:=⟨wr.heap.size,1,none⟩) (by show wr.heap.size<V.heap.size;omega)).trans v1,(hu.cell (p:=⟨wr.heap.size,2,none⟩) (by show wr.heap.size<V.heap.size;omega)).trans v2⟩
   have HADD:Hid (∀ u,BW V u→Calls prog 315 #[.map (some (w.heap.size+1)),.agg #[.int .i64 x,.int .i64 y],.int .i64 z] u fun e u'=>e=.returned (.tuple #[])∧F5 u' (w.heap.size+1) (k+1) (Cf (ls.take (k+1)))∧u.grownBy u' (some (w.heap.size+1))):=fun u hu=>by
    rw [HLT.o]
    exact U6 (w.heap.size+1) k _ x y z t u (HMV.o.below hu) HWK.o.1 HWK.o.2.1 HT.o ⟨by omega,by omega⟩ (by unfold maxLen;omega)
   clear hLT hx ht hwk hbk MV bV hbr hlb;go_upto_region 5 with fail
   rw [← hV];clear hV c1 c2 c3
   go_region_held3 (fun u=>u.cell? ⟨wr.heap.size,0,none⟩=some (.int .i64 x)∧u.cell? ⟨wr.heap.size,1,none⟩=some (.int .i64 y)∧u.cell? ⟨wr.heap.size,2,none⟩=some (.int .i64 z)) (first | exact ⟨v0,v1,v2⟩ | exact HKP.o _ q1 | exact HKP2.o) ((first
    | (go_at_call 107;refine (kH _ _ _ _).mono ?_;rintro e u1 ⟨rfl,b1⟩;have q1:BW V u1:=bR.drew.trans b1)
    | (go_at_call 315;refine (HADD.o _ q1).mono ?_;rintro e u2 ⟨rfl,m2,g2⟩;have HKP2:Hid (u2.cell? ⟨wr.heap.size,0,none⟩=some (.int .i64 x)∧u2.cell? ⟨wr.heap.size,1,none⟩=some (.int .i64 y)∧u2.cell? ⟨wr.heap.size,2,none⟩=some (.int .i64 z)):=⟨(g2.cell_far ⟨wr.heap.size,0,none⟩ (by have:=q1.size;show wr.heap.size<u1.heap.size;omega) (by simp;omega)).trans (HKP.o _ q1).1,(g2.cell_far ⟨wr.heap.size,1,none⟩ (by have:=q1.size;show wr.heap.size<u1.heap.size;omega) (by simp;omega)).trans (HKP.o _ q1).2.1,(g2.cell_far ⟨wr.heap.size,2,none⟩ (by have:=q1.size;show wr.heap.size<u1.heap.size;omega) (by simp;omega)).trans (HKP.o _ q1).2.2⟩)))
   all_goals
    have HM2:Hid _:=m2
    have q2:BW w u2:=(HBV.o.trans (q1.mono HVW.o)).grown g2 (HBV.o.trans (q1.mono HVW.o)).size (fun j hj=>by cases hj;omega)
    clear m2 g2 q1 b1 HKP HADD HKP2;go_wp2
    go_roundw
    case rel=>exact ⟨k+1,by omega,by go_num,HM2.o,q2⟩
    case measure=>simp [intOf];omega
  ·have hke:k=ls.length:=by omega
   subst hke
   have hki:¬ (ls.length:Int)<(ls.length:Int):=by omega
   rw [List.take_length] at HM;go_wp2;go_ret
   exact ⟨w.heap.size+1,rfl,by omega,HM.o,hbr⟩
end Go.Proofs.YtomiclakhjncbaaGreatDoor
namespace Go.Proofs.YtomiclakhjncbaaGreatDoor
open Go.RowKit Go.Proofs.Tryz
set_option maxRecDepth 100000
set_option maxHeartbeats 12800000
theorem G3 {w:World} {g k g' k':Nat} {v u:Value} (h:g=g'→k≠k') (hc:w.cell? ⟨g',k',none⟩=some u):(w.setCell ⟨g,k,none⟩ v).cell? ⟨g',k',none⟩=some u:=by
 rw [World.cell?_setCell_other w ⟨g,k,none⟩ v (b:=⟨g',k',none⟩) (fun e=>by injection e with e1 e2;exact h e1 e2)];exact hc
theorem tU {w:World} {g k:Nat} {v u:Value} (hc:w.cell? ⟨g,k,none⟩=some u):(w.setCell ⟨g,k,none⟩ v).cell? ⟨g,k,none⟩=some v:=World.cell?_setCell_same w ⟨g,k,none⟩ v hc
theorem O9 {w:World} {a b:Addr} {v:Value} (h:w.frozen? b=false):(w.setCell a v).frozen? b=false:=by simp [h]
def cT (B:Nat) (w:World) (g:Nat) (ao:Option Addr) (n:Nat):Prop :=
 n=0∨∃ b off,ao=some ⟨b,off,none⟩∧b≠g∧b<B∧∀ j,j<n→∃ v:Int,0≤v∧v≤255∧w.cell? ⟨b,off+j,none⟩=some (.int .u8 v)
def A2 (B:Nat) (w:World) (g:Nat):Prop :=
 ∃ (ao:Option Addr) (n cap:Nat) (i h:Int),0≤i∧i≤n∧n≤1048576∧(g<B∧B≤w.heap.size)∧w.cell? ⟨g,0,none⟩=some (.slice ao n cap)∧w.cell? ⟨g,1,none⟩=some (.int .i64 i) ∧
  w.cell? ⟨g,2,none⟩=some (.int .i64 h)∧w.frozen? ⟨g,1,none⟩=false∧w.frozen? ⟨g,2,none⟩=false∧cT B w g ao n
theorem wO (n:Nat) (h:n≤1073741823):IntKind.i64.wrap (n:Int)=n:=by
 simp [IntKind.wrap,IntKind.bits,IntKind.signed];omega
theorem yQ (a:Int) (m:Nat) (hm:m≤1073741823):0≤bits .and .i64 a (m:Int)∧bits .and .i64 a (m:Int)≤m:=by
 have h:(BitVec.ofInt 64 a &&& BitVec.ofInt 64 (m:Int)).toNat≤m:=by
  rw [BitVec.toNat_and];refine Nat.le_trans Nat.and_le_right ?_;rw [BitVec.toNat_ofInt]
  omega
 have e:bits .and .i64 a (m:Int)=IntKind.i64.wrap (((BitVec.ofInt 64 a &&& BitVec.ofInt 64 (m:Int)).toNat:Nat):Int):=rfl
 rw [e,wO _ (by omega)]
 omega
theorem vA (a:Int):0≤bits .and .i64 a 255∧bits .and .i64 a 255≤255:=yQ a 255 (by omega)
theorem uB (w:World) (g k:Nat) (v:Value):w.grownBy (w.setCell ⟨g,k,none⟩ v) (some g) :=
 ⟨rfl,rfl,rfl,by simp,fun j _ hj=>Below.heap_setCell _ _ _ _ (fun e=>hj (by rw [e]))⟩
theorem Z9 {w w':World} {row:Option Nat} (h:w.grownBy w' row) (n:Nat):w.grownBy (w'.drewN n) row:=⟨h.os,h.tape,h.output,h.size,h.block⟩
theorem uQ {B:Nat} {w:World} {g k n:Nat} {v:Value} {ao:Option Addr} (h:cT B w g ao n):cT B (w.setCell ⟨g,k,none⟩ v) g ao n:=by
 rcases h with h | ⟨b,off,h1,h2,h3,h4⟩
 ·exact .inl h
 ·refine .inr ⟨b,off,h1,h2,h3,fun j hj=>?_⟩
  obtain ⟨x,x0,x1,hx⟩:=h4 j hj
  exact ⟨x,x0,x1,G3 (fun e=>absurd e.symm h2) hx⟩
theorem vL {B:Nat} {w:World} {g:Nat} (hc:A2 B w g) (H:Int):A2 B (w.setCell ⟨g,2,none⟩ (.int .i64 H)) g:=by
 obtain ⟨ao,n,cap,i,h,h1,h2,h3,hg,c0,c1,c2,f1,f2,hb⟩:=hc
 exact ⟨ao,n,cap,i,H,h1,h2,h3,by simpa using hg,G3 (by omega) c0,G3 (by omega) c1,tU c2,O9 f1,O9 f2,uQ hb⟩
theorem yI {B:Nat} {w:World} {g n cap:Nat} {ao:Option Addr} (hc:A2 B w g) (h0:w.cell? ⟨g,0,none⟩=some (.slice ao n cap)) (j:Int) (j0:0≤j) (j1:j≤n):A2 B (w.setCell ⟨g,1,none⟩ (.int .i64 j)) g:=by
 obtain ⟨ao',n',cap',i,h,h1,h2,h3,hg,c0,c1,c2,f1,f2,hb⟩:=hc;rw [h0] at c0
 obtain ⟨rfl,rfl,rfl⟩:ao=ao'∧n=n'∧cap=cap':=by simpa using c0
 exact ⟨ao,n,cap,j,h,j0,j1,h3,by simpa using hg,G3 (by omega) h0,tU c1,G3 (by omega) c2,O9 f1,O9 f2,uQ hb⟩
theorem B9 {B:Nat} {w w':World} {g:Nat} (hc:A2 B w g) (hb:Below B w w'):A2 B w' g:=by
 obtain ⟨ao,n,cap,i,h,h1,h2,h3,hg,c0,c1,c2,f1,f2,hy⟩:=hc;have hl:=hg.1;refine ⟨ao,n,cap,i,h,h1,h2,h3,⟨hg.1,Nat.le_trans hg.2 hb.size⟩,(hb.cell hl).trans c0,(hb.cell hl).trans c1,(hb.cell hl).trans c2,(hb.frozen hl).trans f1,(hb.frozen hl).trans f2,?_⟩
 rcases hy with hy | ⟨b,off,y1,y2,y3,y4⟩
 ·exact .inl hy
 ·refine .inr ⟨b,off,y1,y2,y3,fun j hj=>?_⟩
  obtain ⟨x,x0,x1,hx⟩:=y4 j hj;exact ⟨x,x0,x1,(hb.cell (p:=⟨b,off+j,none⟩) y3).trans hx⟩
theorem K6 {B:Nat} {w:World} {g:Nat} (hc:A2 B w g):g<B∧B≤w.heap.size:=by
 obtain ⟨_,_,_,_,_,_,_,_,hg,_⟩:=hc;exact hg
theorem A4 {B:Nat} {w w':World} {g:Nat} (hc:A2 B w g) (hb:BW w w'):A2 B w' g:=B9 hc (hb.mono (K6 hc).2)
theorem V8 {B:Nat} (g:Nat) (w:World) (hc:A2 B w g) :
  Calls prog 129 #[.pointer (some ⟨g,0,none⟩)] w fun e w'=>∃ x:Int,e=.returned (.int .i64 x)∧0≤x∧x≤255∧A2 B w' g∧w.grownBy w' (some g):=by
 have HC:Hid (A2 B w g):=hc;obtain ⟨ao,n,cap,i,h,h1,h2,h3,hg,c0,c1,c2,f1,f2,hy⟩:=hc
 by_cases hlt:i<n
 ·rcases hy with hy | ⟨b,off,rfl,y2,y3,y4⟩
  ·omega
  ·obtain ⟨v,v0,v1,cb⟩:=y4 i.toNat (by omega)
   clear y4
   go_enter func129,ntmps129
   go_wp2
   generalize wrap64 (wrap64 (h*6364136223846793005)+1442695040888963407)=H
   obtain ⟨W,hW⟩:∃ W,w.setCell ⟨g,2,none⟩ (.int .i64 H)=W:=⟨_,rfl⟩
   have d0:W.cell? ⟨g,0,none⟩=some (.slice (some ⟨b,off,none⟩) n cap):=hW ▸ G3 (by omega) c0
   have d1:W.cell? ⟨g,1,none⟩=some (.int .i64 i):=hW ▸ G3 (by omega) c1
   have d2:W.cell? ⟨g,2,none⟩=some (.int .i64 H):=hW ▸ tU c2
   have db:W.cell? ⟨b,off+i.toNat,none⟩=some (.int .u8 v):=hW ▸ G3 (by omega) cb
   have e1:W.frozen? ⟨g,1,none⟩=false:=hW ▸ O9 f1;have HR:Hid (A2 B W g∧w.grownBy W (some g)):=hW ▸ ⟨vL HC.o H,uB w g 2 _⟩;rw [hW];clear hW c0 c1 c2 f1 f2 cb
   go_quiet (fail)
   go_wp2
   go_quiet (fail)
   go_wp2
   go_quiet (fail)
   go_wp2;go_ret
   exact ⟨_,rfl,(vA _).1,(vA _).2,yI HR.o.1 d0 _ (by omega) (by omega),Z9 (HR.o.2.trans (uB _ _ _ _)) _⟩
 ·go_enter func129,ntmps129
  go_wp2
  generalize wrap64 (wrap64 (h*6364136223846793005)+1442695040888963407)=H
  obtain ⟨W,hW⟩:∃ W,w.setCell ⟨g,2,none⟩ (.int .i64 H)=W:=⟨_,rfl⟩
  have d0:W.cell? ⟨g,0,none⟩=some (.slice ao n cap):=hW ▸ G3 (by omega) c0
  have d1:W.cell? ⟨g,1,none⟩=some (.int .i64 i):=hW ▸ G3 (by omega) c1
  have d2:W.cell? ⟨g,2,none⟩=some (.int .i64 H):=hW ▸ tU c2;have HR:Hid (A2 B W g∧w.grownBy W (some g)):=hW ▸ ⟨vL HC.o H,uB w g 2 _⟩;rw [hW];clear hW c0 c1 c2 f1 f2 hy
  go_quiet (fail)
  go_wp2
  go_quiet (fail)
  go_wp2;go_ret;exact ⟨_,rfl,(vA _).1,(vA _).2,HR.o.1,Z9 (Z9 HR.o.2 _) _⟩
theorem G4 {B:Nat} (g:Nat) (n:Int) (w:World) (hc:A2 B w g) (hn:n≤1099511627776) :
  Calls prog 79 #[.pointer (some ⟨g,0,none⟩),.int .i64 n] w fun e w'=>∃ x:Int,e=.returned (.int .i64 x)∧0≤x∧(1≤n→x<n)∧A2 B w' g∧w.grownBy w' (some g):=by
 by_cases h1:n≤0
 ·go_enter func79,ntmps79
  go_wp2;go_ret
  exact ⟨0,rfl,by omega,by omega,hc,World.grownBy.refl _ _⟩
 ·have hne:(n == 0)=false:=by simp;omega
  by_cases h2:n≤256
  ·go_enter func79,ntmps79
   go_wp2_with fail
   refine (V8 _ _ hc).mono ?_;rintro e w1 ⟨x,rfl,x0,x1,c1,g1⟩;go_wp2;go_ret
   exact ⟨_,rfl,Int.emod_nonneg _ (by omega),fun _=>Int.emod_lt_of_pos _ (by omega),c1,g1⟩
  ·go_enter func79,ntmps79
   go_wp2_with fail
   refine (V8 _ _ hc).mono ?_;rintro e w1 ⟨x,rfl,x0,x1,c1,g1⟩;go_wp2_with fail
   refine (V8 _ _ c1).mono ?_;rintro e w2 ⟨y,rfl,y0,y1,c2,g2⟩;go_wp2_with fail
   refine (V8 _ _ c2).mono ?_;rintro e w3 ⟨z,rfl,z0,z1,c3,g3⟩;go_wp2_with fail
   refine (V8 _ _ c3).mono ?_;rintro e w4 ⟨u,rfl,u0,u1,c4,g4⟩;go_wp2;go_ret
   exact ⟨_,rfl,Int.emod_nonneg _ (by omega),fun _=>Int.emod_lt_of_pos _ (by omega),c4,((g1.trans g2).trans g3).trans g4⟩
theorem Y7 {B:Nat} (g:Nat) (n:Int) (w:World) (hc:A2 B w g) (hn:n≤1099511627776) :
  Calls prog 97 #[.pointer (some ⟨g,0,none⟩),.int .i64 n] w fun e w'=>∃ x:Bool,e=.returned (.bool x)∧A2 B w' g∧w.grownBy w' (some g):=by
 go_enter func97,ntmps97
 go_wp2_with fail
 refine (G4 _ _ _ hc hn).mono ?_;rintro e w1 ⟨x,rfl,x0,x1,c1,g1⟩;go_wp2;go_ret;exact ⟨_,rfl,c1,g1⟩
theorem uX {w:World} {a:Option Addr} {len cap g:Nat} {zs:List Int} (h:pZ .u8 w a len cap zs) (hg:w.heap.size≤g):cT g w g a len:=by
 rcases h with ⟨rfl,rfl,rfl,rfl⟩ | ⟨x,rfl,hl,hm,hz,hcell,hwz⟩
 ·exact .inl rfl
 ·by_cases h0:len=0
  ·exact .inl h0
  ·obtain ⟨b,off,spot⟩:=x
   have hc:=hcell 0 (by omega)
   have hspot:spot=none:=by simpa [Addr.add] using World.cell?_spot hc
   subst hspot;have hlt:=World.block_lt_of_cell? w _ hc
   refine .inr ⟨b,off,rfl,by simp [Addr.add] at hlt;omega,by simp [Addr.add] at hlt;omega,fun j hj=>?_⟩
   have hj':=hcell j (by omega)
   have hwf:=hwz (zs.getD j 0) (by
    have:j<zs.length:=by omega
    simp [List.getD_eq_getElem?_getD,this])
   have hbd:0≤zs.getD j 0∧zs.getD j 0≤255:=by simpa [Lit.wf,IntKind.min,IntKind.max,IntKind.signed,IntKind.bits] using hwf
   refine ⟨zs.getD j 0,hbd.1,hbd.2,?_⟩
   by_cases e:j=0
   ·subst e;simpa [Addr.add] using hj'
   ·simpa [Addr.add,e] using hj'
theorem nE {w:World} {ao:Option Addr} {n cap:Nat} (h:Int) (t:TypeId) (hb:cT w.heap.size w w.heap.size ao n) (hn:n≤1048576) :
  A2 (w.heap.size+1) (w.alloc (.cells #[.slice ao n cap,.int .i64 0,.int .i64 h] t)) w.heap.size:=by
 refine ⟨ao,n,cap,0,h,by omega,by omega,hn,⟨by omega,by simp⟩,by simp,by simp,by simp,by simp,by simp,?_⟩
 rcases hb with hb | ⟨b,off,y1,y2,y3,y4⟩
 ·exact .inl hb
 ·refine .inr ⟨b,off,y1,y2,by omega,fun j hj=>?_⟩
  obtain ⟨x,x0,x1,hx⟩:=y4 j hj
  exact ⟨x,x0,x1,by rw [World.cell?_alloc_lt _ _ _ (by exact y3)];exact hx⟩
theorem zK (a:Option Addr) (len cap:Nat) (zs:List Int) (w:World) (hr:pZ .u8 w a len cap zs) (hn:len≤1048576) :
  Calls prog 77 #[.slice a len cap] w fun e w'=>e=.returned (.pointer (some ⟨w.heap.size,0,none⟩))∧A2 (w.heap.size+1) w' w.heap.size∧BW w w':=by
 have hb:=uX (g:=w.heap.size) hr nL;clear hr;have HB:Hid (cT w.heap.size w w.heap.size a len):=hb
 rcases hb with rfl | ⟨b,off,rfl,hbg,hbl,hbytes⟩
 ·go_enter func77,ntmps77
  go_wp2;refine wp_loop_rounds 1 ?_;rw [rounds_succ];go_wp2;go_ret;exact ⟨rfl,nE _ _ HB.o hn,bR.alloc nL _⟩
 ·go_enter func77,ntmps77
  go_wp2
  go_loop [3,4] (fun c i=>∃ (k:Nat) (H:Int),k≤len∧i=.int .i64 k∧c=.int .i64 H) (fun _ i=>len - (intOf i).toNat)
  case atStart=>exact ⟨0,_,Nat.zero_le _,rfl,rfl⟩
  case round =>
   obtain ⟨k,H,hk,rfl,rfl⟩:=hrel
   by_cases hlt:k<len
   ·have hki:(k:Int)<(len:Int):=by omega
    by_cases h4:(k:Int)<4000
    ·obtain ⟨v,v0,v1,cb⟩:=hbytes k hlt
     clear hbytes;go_wp2
     go_round
     case rel=>exact ⟨k+1,_,by omega,by go_num,rfl⟩
     case measure=>simp [intOf];omega
    ·clear hbytes
     go_wp2;go_ret;exact ⟨rfl,nE _ _ HB.o hn,bR.alloc nL _⟩
   ·clear hbytes
    go_wp2;go_ret;exact ⟨rfl,nE _ _ HB.o hn,bR.alloc nL _⟩
theorem tX (w:World) (zs:List Int) (arr:Array Value) (h:arr=(zs.map (Value.int .i64)).toArray) :
  ∀ i,i<zs.length→(w.alloc (.cells arr 3)).cell? ⟨w.heap.size,i,none⟩=some (.int .i64 (zs.getD i 0)):=by
 intro i hi;subst h
 simp [List.getD_eq_getElem?_getD,hi]
theorem R5 {B:Nat} {w:World} {g:Nat} (hc:A2 B w g):w.heap.size≠g:=by
 have:=K6 hc;omega
theorem A3 {B:Nat} {w:World} {g:Nat} (hc:A2 B w g) (o:Obj):A2 B (w.alloc o) g:=A4 hc (bR.alloc nL _)
theorem R2 {B:Nat} (g b cap:Nat) (zs:List Int) (w:World) (hc:A2 B w g) (hbg:b≠g) (hz:∀ i,i<zs.length→w.cell? ⟨b,i,none⟩=some (.int .i64 (zs.getD i 0))) (h1:1≤zs.length) (h2:zs.length≤1000) :
  Calls prog 131 #[.pointer (some ⟨g,0,none⟩),.slice (some ⟨b,0,none⟩) zs.length cap] w fun e w'=>∃ x:Int,e=.returned (.int .i64 x)∧x ∈ zs∧A2 B w' g∧w.grownBy w' (some g):=by
 go_enter func131,ntmps131
 go_wp2_with fail
 refine (G4 _ _ _ hc (by omega)).mono ?_
 rintro e w1 ⟨x,rfl,x0,x1,c1,g1⟩
 have hx:=x1 (by omega)
 obtain ⟨k,rfl⟩:=Int.eq_ofNat_of_zero_le x0
 have hk:k<zs.length:=by omega
 have cb:w1.cell? ⟨b,k,none⟩=some (.int .i64 (zs.getD k 0)):=g1.cell (a:=⟨b,k,none⟩) (hz k hk) (by simpa using hbg)
 have hm:zs.getD k 0 ∈ zs:=by simp [List.getD_eq_getElem?_getD,hk]
 generalize zs.getD k 0=z at cb hm
 clear hz x1;go_wp2;go_ret;exact ⟨z,rfl,hm,c1,g1⟩
theorem wZ {k:IntKind} {w w':World} {a:Option Addr} {len cap:Nat} {zs:List Int} (h:pZ k w a len cap zs) (hb:BW w w'):pZ k w' a len cap zs:=by
 rcases h with h | ⟨x,h1,h2,h3,h4,h5,h6⟩
 ·exact .inl h
 ·exact .inr ⟨x,h1,h2,h3,h4,fun i hi=>(hb.cell (World.block_lt_of_cell? w _ (h5 i hi))).trans (h5 i hi),h6⟩
theorem wP (a:Option Addr) (len cap:Nat) (w:World) :
  Calls prog 28 #[.slice a len cap] w fun e w'=>e=.returned (.bool (decide ((1048576:Int)<(len:Int))))∧w'=w:=by
 go_enter func28,ntmps28
 go_wp2;go_ret;exact ⟨rfl,rfl⟩
theorem vV {w w1 w2:World} {g:Nat} {row:Option Nat} (h:w.grownBy w1 (some g)) (h2:w1.grownBy w2 row) (hr:∀ j,row=some j→w.heap.size≤j):w.grownBy w2 (some g) :=
 ⟨h2.os.trans h.os,h2.tape.trans h.tape,h2.output.trans h.output,Nat.le_trans h.size h2.size,fun k hk hne=>(h2.block k (Nat.lt_of_lt_of_le hk h.size) (fun e=>by have:=hr k e.symm;omega)).trans (h.block k hk hne)⟩
theorem xR {B:Nat} (g:Nat) (w:World) (hc:A2 B w g) :
  Calls prog 98 #[.pointer (some ⟨g,0,none⟩)] w fun e w'=>∃ (ao:Option Addr) (c:Nat) (xs:List Int),e=.returned (.slice ao xs.length c)∧xs.length≤6∧w'.ownsRow w.heap.size 3 1 (.slice ao xs.length c) xs.length (xs.map (Value.int .i64))∧A2 B w' g∧w.grownBy w' (some g)∧w.heap.size≤w'.heap.size:=by
 obtain ⟨i0,hi,hz0,hz1,hz2⟩:=info_parts pQ;have cb:=K6 hc
 have own0:(w.alloc (.cells #[] 3)).ownsRow w.heap.size 3 1 (.slice (some ⟨w.heap.size,0,none⟩) 0 0) 0 []:=World.ownsRow_lit w #[] 0 nL (by unfold maxLen;omega) rfl
 go_enter func98,ntmps98
 go_wp2_with fail
 refine (G4 _ _ _ (A3 hc _) (by omega)).mono ?_
 rintro e w2 ⟨n,rfl,n0,n1,c2,g2⟩
 have hn8:=n1 (by omega)
 obtain ⟨m,rfl⟩:=Int.eq_ofNat_of_zero_le n0
 have own2:=own0.kept g2 (Aaa own0 (by omega))
 have b2:w.grownBy w2 (some g):=(World.grownBy_alloc w _ _).trans g2
 have s2:w.heap.size≤w2.heap.size:=by have:=g2.size;simp at this;omega
 clear own0 n1 g2 hc;go_wp2
 go_loopw [3,4,6] (fun v p i wr=>∃ (k:Nat) (y:Int) (xs:List Int),k≤m∧i=.int .i64 k∧p=.int .i64 y∧(0≤y∧y≤9000+60*k)∧xs.length=k∧wr.ownsRow w.heap.size 3 1 v k (xs.map (Value.int .i64))∧A2 B wr g∧w.grownBy wr (some g)∧w.heap.size≤wr.heap.size) (fun _ _ i _=>m - (intOf i).toNat)
 case atStart=>exact ⟨0,9000,[],Nat.zero_le _,rfl,rfl,by omega,rfl,own2,c2,b2,s2⟩
 case round =>
  obtain ⟨k,y,xs,hk,rfl,rfl,hy,hxl,ho,hc,hbr,hsz⟩:=hrel;clear own2 c2 b2 s2
  by_cases hlt:k<m
  ·have hki:(k:Int)<(m:Int):=by omega
   have HXL:Hid _:=hxl;clear hxl
   go_wp2_with (first | (go_at_call 79;refine (G4 _ _ _ hc (by omega)).mono ?_;rintro e w3 ⟨z,rfl,zz0,zz1,c3,g3⟩;have hzz:=zz1 (by omega);have o3:=ho.kept g3 (Aaa ho (by omega));have b3:w.grownBy w3 (some g):=hbr.trans g3;have s3:=g3.size) | (at_builtin;refine wpList_append_own _ rfl (.tmp 20) (.tmp 22) 22 rfl w.heap.size 3 i0 (.int .i64 0) 1 8 underlying22 hi hz0 hz1 hz2 rfl (by decide) _ _ _ rfl (o3.alloc _) ⟨w3.heap.size,0,none⟩ 1 1 [.int .i64 (y+1+z)] rfl rfl (cell_one_new _ _ _) (ints_oneCell .i64 [y+1+z]) (by unfold maxLen;omega) (by omega) (by simp;omega) ?_;intro v' w4 ho1 hg1 hn1))
   have hb1:w.grownBy w4 (some g):=vV (b3.trans (World.grownBy_alloc w3 _ _)) hg1 (fun j hj=>by have:=(o3.lt j hj).1;omega)
   have hc1:A2 B w4 g:=B9 c3 (((Below.refl _ w3).alloc (by omega) _).grown hg1 (by simp;omega) (fun j hj=>by have:=(o3.lt j hj).1;omega))
   have hs1:w.heap.size≤w4.heap.size:=by have:=hg1.size;simp at this;omega
   clear hg1 hn1 ho;go_wp2
   go_roundw
   case rel=>exact ⟨k+1,y+1+z,xs++[y+1+z],by omega,by go_num,rfl,by omega,by have:=HXL.o;simp;omega,by rw [List.map_append];exact ho1,hc1,hb1,hs1⟩
   case measure=>simp [intOf];omega
  ·have hkm:k=m:=by omega
   subst hkm;have HO:Hid _:=ho
   have hki:¬ (k:Int)<(k:Int):=by omega
   clear ho;go_wp2;go_ret;obtain ⟨ao,c,hv⟩:=Fz HO.o;subst hv;subst hxl
   exact ⟨ao,c,xs,rfl,by omega,HO.o,hc,hbr,hsz⟩
end Go.Proofs.YtomiclakhjncbaaGreatDoor
namespace Go.Proofs.YtomiclakhjncbaaGreatDoor
open Go.ChangeShapes Go.WideShapes Go.ChangeAt Go.RowKit Go.Proofs.Tryz
set_option maxRecDepth 100000
set_option maxHeartbeats 12800000
theorem rI:(Rows.laid_loop_example_g00126_impl_stepDays:DataW Unit)=Lib.tabData .i64 Mt:=by kernel_rfl
theorem rU : prog.globalNamed "loop.example/g00126/impl.stepDays" = some 16 := by kernel_rfl
theorem qY:(prog.globals[16]?).map (·.type)=some 352:=by kernel_rfl
theorem gF {rest : List (String × DataW Unit)} {w : World} (h : laidMet prog (("loop.example/g00126/impl.stepDays", Rows.laid_loop_example_g00126_impl_stepDays) :: rest) w) : Di w := by
 rw [rI] at h
 exact Lib.tabIs_of_head rU qY underlying352 underlying3 (by kernel_rfl) (by kernel_rfl) h
theorem iJ {w w':World} {n:String} {cs:Array Value} (h:w.var? prog n=some cs) (hb:BW w w'):w'.var? prog n=some cs:=by
 unfold World.var? at *
 cases hg:prog.globalNamed n with
 | none=>simp [hg] at h
 | some g =>
  simp only [hg,Option.bind_some] at h ⊢
  have hlt:g<w.heap.size:=by
   rcases Nat.lt_or_ge g w.heap.size with h' | h'
   ·exact h'
   ·rw [Array.getElem?_eq_none h'] at h;simp at h
  rw [hb.block g hlt];exact h
end Go.Proofs.YtomiclakhjncbaaGreatDoor
