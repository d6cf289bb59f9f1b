import Derived.Test.YtomiclakhjncbaaGreatDoorJA0a
import Derived.Test.YtomiclakhjncbaaGreatDoorKACur
import Derived.Test.YtomiclakhjncbaaGreatDoorKABase
import Derived.Deep.SlicePairs
import Derived.Deep.Strs
import Derived.Lib.SmallJoins
import Derived.Lib.AppendZeros
import Derived.Maps.AppendAt
import Derived.Deep.AppendLies
import Derived.Handy
import Derived.OwnWalk
import Derived.Deep.RegionWith
import Derived.Deep.RegionHeld3
import Derived.Conc.MuLone
import Derived.Deep.DeepCutAuto
import Derived.Lib.LaidTab
import Derived.Lib.AppendIntMem
import Derived.Lib.SplitLaws
import Derived.Lib.IndexBytes
import Derived.DeepKeys4
import Derived.Maps.OwnSet
import Derived.Maps.RangeWalk
import Derived.WideKeyEntry
namespace Go.Proofs.YtomiclakhjncbaaGreatDoor
set_option maxRecDepth 100000
set_option maxHeartbeats 12800000
abbrev Ln:=Int×Int×Int
abbrev En:=Int×Int×Int×Int
def lnAt (ls:List Ln) (k:Nat):Ln:=ls.getD k (0,0,0)
theorem lnAt_is {ls:List Ln} {k:Nat} (h:k<ls.length):lnAt ls k=ls[k]:=by simp [lnAt,List.getD_eq_getElem?_getD,h]
theorem lnAt_mem {ls:List Ln} {k:Nat} (h:k<ls.length):lnAt ls k ∈ ls:=by rw [lnAt_is h];exact List.getElem_mem h
theorem take_lnAt (ls:List Ln) (k:Nat) (h:k<ls.length):ls.take (k+1)=ls.take k++[lnAt ls k]:=by rw [List.take_succ_eq_append_getElem h,lnAt_is h]
theorem drop_lnAt (ls:List Ln) (k:Nat) (h:k<ls.length):ls.drop k=lnAt ls k::ls.drop (k+1):=by rw [List.drop_eq_getElem_cons h,lnAt_is h]
def acctOk (a:Int):Bool:=decide (1≤a∧a≤9999)
def lnOk (x:Ln):Bool:=acctOk x.1 && (decide (0≤digs x.2.1) && (mOk x.2.2 && decide (x.2.2≠0)))
def lnLt (x y:Ln):Bool:=decide (x.1<y.1∨x.1=y.1∧x.2.1<y.2.1)
def linesOk:Option Ln→List Ln→Bool
 | _,[]=>true
 | none,x::r=>lnOk x && linesOk (some x) r
 | some y,x::r=>(lnOk x && lnLt y x) && linesOk (some x) r
def sumC (cur:Int) (ls:List Ln):Int:=(ls.map fun x=>if x.2.1=cur then x.2.2 else 0).sum
theorem sumC_step (cur:Int) (ls:List Ln) (k:Nat) (h:k<ls.length):sumC cur (ls.take (k+1))=sumC cur (ls.take k)+if (lnAt ls k).2.1=cur then (lnAt ls k).2.2 else 0:=by
 rw [take_lnAt ls k h];simp [sumC]
def evenL (ls:List Ln):Bool:=curL.all fun c=>decide (sumC c ls=0)
def ledgerOk (ls:List Ln):Bool:=linesOk none ls && (decide (ls.length≤400) && evenL ls)
def entryOk (e:En):Bool:=acctOk e.1 && (acctOk e.2.1 && (decide (e.1≠e.2.1) && (decide (0≤digs e.2.2.1) && decide (1≤e.2.2.2∧e.2.2.2≤1000000000000))))
def reach (x:Ln) (a c:Int):Bool:=decide (a<x.1∨x.1=a∧c≤x.2.1)
def addL:List Ln→Int→Int→Int→List Ln
 | [],a,c,m=>[(a,c,m)]
 | x::r,a,c,m=>if reach x a c=true then (if x.1=a∧x.2.1=c then (if x.2.2+m≠0 then (a,c,x.2.2+m)::r else r) else (a,c,m)::x::r) else x::addL r a c m
def postTry (ls:List Ln) (e:En):List Ln:=addL (addL ls e.1 e.2.2.1 (-e.2.2.2)) e.2.1 e.2.2.1 e.2.2.2
def postOk (ls:List Ln) (e:En):Bool:=(ledgerOk ls && entryOk e) && ledgerOk (postTry ls e)
def postL (ls:List Ln) (e:En):List Ln:=if postOk ls e=true then postTry ls e else ls
def postsL:List Ln→List En→Option (List Ln)
 | ls,[]=>some ls
 | ls,e::r=>if postOk ls e=true then postsL (postTry ls e) r else none
theorem linesOk_mem {ls:List Ln} : ∀ {p:Option Ln},linesOk p ls=true→∀ x ∈ ls,lnOk x=true:=by
 induction ls with
 | nil=>intro p _ x hx;cases hx
 | cons y r ih =>
  intro p h x hx
  cases p with
  | none =>
   simp only [linesOk,Bool.and_eq_true] at h
   rcases List.mem_cons.1 hx with rfl | hr
   ·exact h.1
   ·exact ih h.2 x hr
  | some q =>
   simp only [linesOk,Bool.and_eq_true] at h
   rcases List.mem_cons.1 hx with rfl | hr
   ·exact h.1.1
   ·exact ih h.2 x hr
theorem lnOk_is {x:Ln} (h:lnOk x=true):(1≤x.1∧x.1≤9999)∧0≤digs x.2.1∧(-1000000000000≤x.2.2∧x.2.2≤1000000000000)∧x.2.2≠0:=by
 simp only [lnOk,acctOk,Bool.and_eq_true,decide_eq_true_eq] at h
 exact ⟨h.1,h.2.1,mOk_bd h.2.2.1,h.2.2.2⟩
theorem addL_len (ls:List Ln) (a c m:Int):(addL ls a c m).length≤ls.length+1:=by
 induction ls with
 | nil=>simp [addL]
 | cons x r ih =>
  simp only [addL]
  split
  ·split
   ·split <;> simp <;> omega
   ·simp
  ·simp;omega
structure Au where
 ref:List UInt8
 iss:Int
 cur:Int
 am:Int
 day:Int
 used:Bool
def zeroAu:Au:=⟨[],0,0,0,0,false⟩
def auAt (az:List Au) (k:Nat):Au:=az.getD k zeroAu
theorem auAt_is {az:List Au} {k:Nat} (h:k<az.length):auAt az k=az[k]:=by simp [auAt,List.getD_eq_getElem?_getD,h]
theorem auAt_mem {az:List Au} {k:Nat} (h:k<az.length):auAt az k ∈ az:=by rw [auAt_is h];exact List.getElem_mem h
def refOk (l:List UInt8):Bool:=decide (l.length=12) && within 33 126 l
def auOk (a:Au):Bool:=refOk a.ref && (acctOk a.iss && (decide (0≤digs a.cur) && (decide (1≤a.am∧a.am≤100000000000) && dOk a.day)))
def timeOk (a:Au) (day:Int):Bool:=decide (a.day≤day∧day≤a.day+7)
def sumOk (a:Au) (am:Int):Bool:=decide (1≤am∧am≤a.am+a.am / 10)
def canV (a:Au) (iss cur am day:Int):Bool:=auOk a && (!a.used && (decide (a.iss=iss) && (decide (a.cur=cur) && (timeOk a day && sumOk a am))))
def absV (x:Int):Int:=if x<0 then -x else x
def scoreV (a:Au) (iss cur am day:Int):Int:=if canV a iss cur am day=true then 8*absV (am - a.am)+day - a.day else -1
theorem auOk_parts {a:Au} (h:auOk a=true):refOk a.ref=true∧acctOk a.iss=true∧0≤digs a.cur∧(1≤a.am∧a.am≤100000000000)∧dOk a.day=true:=by
 simpa [auOk] using h
end Go.Proofs.YtomiclakhjncbaaGreatDoor
namespace Go.Proofs.YtomiclakhjncbaaGreatDoor
open Go.ChangeShapes Go.WideShapes Go.ChangeAt Go.RowKit Go.Deep
set_option maxRecDepth 100000
set_option maxHeartbeats 12800000
def wf64 (n:Int):Prop:=(Lit.int .i64 n).wf=true
def lnBd (x:Ln):Prop:=wf64 x.1∧wf64 x.2.1∧wf64 x.2.2
def enBd (e:En):Prop:=wf64 e.1∧wf64 e.2.1∧wf64 e.2.2.1∧wf64 e.2.2.2
def LinesAt (w:World) (ao:Option Addr) (ls:List Ln):Prop :=
 ls=[]∨∃ b off,ao=some ⟨b,off,none⟩∧b<w.heap.size∧∀ i,i<ls.length →
  w.cell? ⟨b,off+i*3,none⟩=some (.int .i64 (lnAt ls i).1)∧w.cell? ⟨b,off+i*3+1,none⟩=some (.int .i64 (lnAt ls i).2.1)∧w.cell? ⟨b,off+i*3+2,none⟩=some (.int .i64 (lnAt ls i).2.2)
theorem LinesAt.below {w w':World} {ao:Option Addr} {ls:List Ln} (h:LinesAt w ao ls) (hb:Below w.heap.size w w'):LinesAt w' ao ls:=by
 rcases h with h | ⟨b,off,h1,h2,h3⟩
 ·exact .inl h
 ·exact .inr ⟨b,off,h1,Nat.lt_of_lt_of_le h2 hb.size,fun i hi=>⟨(hb.cell (p:=⟨b,off+i*3,none⟩) h2).trans (h3 i hi).1,(hb.cell (p:=⟨b,off+i*3+1,none⟩) h2).trans (h3 i hi).2.1,(hb.cell (p:=⟨b,off+i*3+2,none⟩) h2).trans (h3 i hi).2.2⟩⟩
theorem LinesAt.at {w:World} {ao:Option Addr} {ls:List Ln} (h:LinesAt w ao ls) {k:Nat} (hk:k<ls.length) :
  ∃ b off,ao=some ⟨b,off,none⟩∧b<w.heap.size∧w.cell? ⟨b,off+k*3,none⟩=some (.int .i64 (lnAt ls k).1)∧w.cell? ⟨b,off+k*3+1,none⟩=some (.int .i64 (lnAt ls k).2.1)∧w.cell? ⟨b,off+k*3+2,none⟩=some (.int .i64 (lnAt ls k).2.2):=by
 rcases h with rfl | ⟨b,off,h1,h2,h3⟩
 ·simp at hk
 ·exact ⟨b,off,h1,h2,h3 k hk⟩
def enAt (es:List En) (k:Nat):En:=es.getD k (0,0,0,0)
theorem enAt_is {es:List En} {k:Nat} (h:k<es.length):enAt es k=es[k]:=by simp [enAt,List.getD_eq_getElem?_getD,h]
theorem enAt_mem {es:List En} {k:Nat} (h:k<es.length):enAt es k ∈ es:=by rw [enAt_is h];exact List.getElem_mem h
def EntsAt (w:World) (ao:Option Addr) (es:List En):Prop :=
 es=[]∨∃ b off,ao=some ⟨b,off,none⟩∧b<w.heap.size∧∀ i,i<es.length →
  w.cell? ⟨b,off+i*4,none⟩=some (.int .i64 (enAt es i).1)∧w.cell? ⟨b,off+i*4+1,none⟩=some (.int .i64 (enAt es i).2.1)∧w.cell? ⟨b,off+i*4+2,none⟩=some (.int .i64 (enAt es i).2.2.1)∧w.cell? ⟨b,off+i*4+3,none⟩=some (.int .i64 (enAt es i).2.2.2)
theorem EntsAt.below {w w':World} {ao:Option Addr} {es:List En} (h:EntsAt w ao es) (hb:Below w.heap.size w w'):EntsAt w' ao es:=by
 rcases h with h | ⟨b,off,h1,h2,h3⟩
 ·exact .inl h
 ·exact .inr ⟨b,off,h1,Nat.lt_of_lt_of_le h2 hb.size,fun i hi=>⟨(hb.cell (p:=⟨b,off+i*4,none⟩) h2).trans (h3 i hi).1,(hb.cell (p:=⟨b,off+i*4+1,none⟩) h2).trans (h3 i hi).2.1,(hb.cell (p:=⟨b,off+i*4+2,none⟩) h2).trans (h3 i hi).2.2.1,(hb.cell (p:=⟨b,off+i*4+3,none⟩) h2).trans (h3 i hi).2.2.2⟩⟩
theorem EntsAt.at {w:World} {ao:Option Addr} {es:List En} (h:EntsAt w ao es) {k:Nat} (hk:k<es.length) :
  ∃ b off,ao=some ⟨b,off,none⟩∧b<w.heap.size∧w.cell? ⟨b,off+k*4,none⟩=some (.int .i64 (enAt es k).1)∧w.cell? ⟨b,off+k*4+1,none⟩=some (.int .i64 (enAt es k).2.1)∧w.cell? ⟨b,off+k*4+2,none⟩=some (.int .i64 (enAt es k).2.2.1)∧w.cell? ⟨b,off+k*4+3,none⟩=some (.int .i64 (enAt es k).2.2.2):=by
 rcases h with rfl | ⟨b,off,h1,h2,h3⟩
 ·simp at hk
 ·exact ⟨b,off,h1,h2,h3 k hk⟩
section
variable {P:Program} {H:Type} {enc:TypeId×Value→H} {W:World}
end
def lcell (x:Ln):List Value:=[.int .i64 x.1,.int .i64 x.2.1,.int .i64 x.2.2]
def lcells (ls:List Ln):List Value:=ls.flatMap lcell
theorem lcells_cons (x:Ln) (r:List Ln):lcells (x::r)=.int .i64 x.1::.int .i64 x.2.1::.int .i64 x.2.2::lcells r:=rfl
theorem lcells_append (a b:List Ln):lcells (a++b)=lcells a++lcells b:=by simp [lcells]
theorem lcells_len (ls:List Ln):(lcells ls).length=ls.length*3:=by
 induction ls with
 | nil=>rfl
 | cons f r ih=>rw [lcells_cons];simp [ih];omega
theorem lcells_at (ls:List Ln):∀ k,k<ls.length→(lcells ls)[k*3]?=some (.int .i64 (lnAt ls k).1)∧(lcells ls)[k*3+1]?=some (.int .i64 (lnAt ls k).2.1)∧(lcells ls)[k*3+2]?=some (.int .i64 (lnAt ls k).2.2):=by
 induction ls with
 | nil=>intro k h;simp at h
 | cons f r ih =>
  intro k h
  rw [lcells_cons]
  cases k with
  | zero=>exact ⟨rfl,rfl,rfl⟩
  | succ k =>
   have:=ih k (by simpa using h)
   rw [show (k+1) * 3=k*3+1+1+1 by omega]
   simp only [List.getElem?_cons_succ]
   exact this
theorem lcells_set (ls:List Ln) (x:Ln):∀ k,k<ls.length→(((lcells ls).set (k*3) (.int .i64 x.1)).set (k*3+1) (.int .i64 x.2.1)).set (k*3+2) (.int .i64 x.2.2)=lcells (ls.set k x):=by
 induction ls with
 | nil=>intro k h;simp at h
 | cons g r ih =>
  intro k h
  rw [lcells_cons]
  cases k with
  | zero=>rfl
  | succ k =>
   have:=ih k (by simpa using h)
   rw [show (k+1) * 3=k*3+1+1+1 by omega]
   simp only [List.set_cons_succ]
   rw [this]
   rfl
theorem lcells_one (ls:List Ln):∀ u ∈ lcells ls,u.oneCell'=true:=by
 intro u hu
 simp only [lcells,List.mem_flatMap,lcell] at hu
 obtain ⟨f,_,hf⟩:=hu
 simp at hf
 rcases hf with rfl | rfl | rfl <;> rfl
theorem lines_of_own {w:World} {base n:Nat} {t:TypeId} {v:Value} {ls:List Ln} (h:w.ownsRow base t 3 v n (lcells ls)):∃ ao cap,v=.slice ao ls.length cap∧LinesAt w ao ls∧n=ls.length:=by
 have hn:n=ls.length:=by have:=h.1;rw [lcells_len] at this;omega
 subst hn
 rcases h.2 with ⟨rfl,hn⟩ | ⟨g,cap,cur,rfl,_⟩
 ·have:ls=[]:=List.eq_nil_of_length_eq_zero hn
  subst this
  exact ⟨none,0,rfl,.inl rfl,rfl⟩
 ·refine ⟨_,cap,rfl,?_,rfl⟩
  by_cases h0:ls=[]
  ·exact .inl h0
  ·refine .inr ⟨g,0,rfl,(h.lt g rfl).2,fun i hi=>?_⟩
   have:=lcells_at ls i hi
   rw [Nat.zero_add,h.cellAt (i*3) (by omega),h.cellAt (i*3+1) (by omega),h.cellAt (i*3+2) (by omega)]
   exact this
def aucells (a:Au):List Value:=[.string ⟨a.ref.toArray⟩,.int .i64 a.iss,.int .i64 a.cur,.int .i64 a.am,.int .i64 a.day,.bool a.used]
def auv (a:Au):Value:=.agg #[.string ⟨a.ref.toArray⟩,.int .i64 a.iss,.int .i64 a.cur,.int .i64 a.am,.int .i64 a.day,.bool a.used]
def AuthsAt (w:World) (ao:Option Addr) (az:List Au):Prop :=
 az=[]∨∃ b off,ao=some ⟨b,off,none⟩∧b<w.heap.size∧∀ i,i<az.length →
  w.cell? ⟨b,off+i*6,none⟩=some (.string ⟨(auAt az i).ref.toArray⟩)∧w.cell? ⟨b,off+i*6+1,none⟩=some (.int .i64 (auAt az i).iss)∧w.cell? ⟨b,off+i*6+2,none⟩=some (.int .i64 (auAt az i).cur)∧w.cell? ⟨b,off+i*6+3,none⟩=some (.int .i64 (auAt az i).am)∧w.cell? ⟨b,off+i*6+4,none⟩=some (.int .i64 (auAt az i).day)∧w.cell? ⟨b,off+i*6+5,none⟩=some (.bool (auAt az i).used)
theorem AuthsAt.below {w w':World} {ao:Option Addr} {az:List Au} (h:AuthsAt w ao az) (hb:Below w.heap.size w w'):AuthsAt w' ao az:=by
 rcases h with h | ⟨b,off,h1,h2,h3⟩
 ·exact .inl h
 ·exact .inr ⟨b,off,h1,Nat.lt_of_lt_of_le h2 hb.size,fun i hi=>⟨(hb.cell (p:=⟨b,off+i*6,none⟩) h2).trans (h3 i hi).1,(hb.cell (p:=⟨b,off+i*6+1,none⟩) h2).trans (h3 i hi).2.1,(hb.cell (p:=⟨b,off+i*6+2,none⟩) h2).trans (h3 i hi).2.2.1,(hb.cell (p:=⟨b,off+i*6+3,none⟩) h2).trans (h3 i hi).2.2.2.1,(hb.cell (p:=⟨b,off+i*6+4,none⟩) h2).trans (h3 i hi).2.2.2.2.1,(hb.cell (p:=⟨b,off+i*6+5,none⟩) h2).trans (h3 i hi).2.2.2.2.2⟩⟩
section
variable {P:Program} {H:Type} {enc:TypeId×Value→H} {W:World}
end
end Go.Proofs.YtomiclakhjncbaaGreatDoor
namespace Go.Proofs.YtomiclakhjncbaaGreatDoor
open Go.RowKit
set_option maxRecDepth 100000
set_option maxHeartbeats 12800000
theorem keepA {w w':World} {base n size:Nat} {t:TypeId} {v:Value} {xs:List Value} (h:w.ownsRow base t size v n xs) (hb:Below w.heap.size w w'):w'.ownsRow base t size v n xs:=by
 obtain ⟨h1,h2⟩:=h
 refine ⟨h1,?_⟩
 rcases h2 with h | ⟨g,cap,cur,hv,hg,hh,a1,a2,a3,a4⟩
 ·exact .inl h
 ·have hlt:g<w.heap.size:=(Array.getElem?_eq_some_iff.1 hh).1
  exact .inr ⟨g,cap,cur,hv,hg,(hb.block g hlt).trans hh,a1,a2,a3,a4⟩
theorem lowerA {w:World} {base base' n size:Nat} {t:TypeId} {v:Value} {xs:List Value} (h:w.ownsRow base t size v n xs) (hb:base'≤base):w.ownsRow base' t size v n xs:=by
 obtain ⟨h1,h2⟩:=h
 refine ⟨h1,?_⟩
 rcases h2 with h | ⟨g,cap,cur,hv,hg,r⟩
 ·exact .inl h
 ·exact .inr ⟨g,cap,cur,hv,Nat.le_trans hb hg,r⟩
def acells (az:List Au):List Value:=az.flatMap aucells
theorem acells_cons (a:Au) (r:List Au):acells (a::r)=.string ⟨a.ref.toArray⟩::.int .i64 a.iss::.int .i64 a.cur::.int .i64 a.am::.int .i64 a.day::.bool a.used::acells r:=rfl
theorem acells_append (a b:List Au):acells (a++b)=acells a++acells b:=by simp [acells]
theorem acells_len (az:List Au):(acells az).length=az.length*6:=by
 induction az with
 | nil=>rfl
 | cons a r ih=>rw [acells_cons];simp [ih];omega
theorem acells_at (az:List Au):∀ k,k<az.length→(acells az)[k*6]?=some (.string ⟨(auAt az k).ref.toArray⟩)∧(acells az)[k*6+1]?=some (.int .i64 (auAt az k).iss)∧(acells az)[k*6+2]?=some (.int .i64 (auAt az k).cur)∧(acells az)[k*6+3]?=some (.int .i64 (auAt az k).am)∧(acells az)[k*6+4]?=some (.int .i64 (auAt az k).day)∧(acells az)[k*6+5]?=some (.bool (auAt az k).used):=by
 induction az with
 | nil=>intro k h;simp at h
 | cons a r ih =>
  intro k h
  rw [acells_cons]
  cases k with
  | zero=>exact ⟨rfl,rfl,rfl,rfl,rfl,rfl⟩
  | succ k =>
   have:=ih k (by simpa using h)
   rw [show (k+1) * 6=k*6+1+1+1+1+1+1 by omega,show k*6+1+1+1+1+1+1+1=(k*6+1)+1+1+1+1+1+1 by omega,show k*6+1+1+1+1+1+1+2=(k*6+2)+1+1+1+1+1+1 by omega,show k*6+1+1+1+1+1+1+3=(k*6+3)+1+1+1+1+1+1 by omega,show k*6+1+1+1+1+1+1+4=(k*6+4)+1+1+1+1+1+1 by omega,show k*6+1+1+1+1+1+1+5=(k*6+5)+1+1+1+1+1+1 by omega]
   simp only [List.getElem?_cons_succ]
   exact this
theorem acells_set (az:List Au) (a:Au):∀ k,k<az.length→(((((((acells az).set (k*6) (.string ⟨a.ref.toArray⟩)).set (k*6+1) (.int .i64 a.iss)).set (k*6+2) (.int .i64 a.cur)).set (k*6+3) (.int .i64 a.am)).set (k*6+4) (.int .i64 a.day)).set (k*6+5) (.bool a.used))=acells (az.set k a):=by
 induction az with
 | nil=>intro k h;simp at h
 | cons g r ih =>
  intro k h
  rw [acells_cons]
  cases k with
  | zero=>rfl
  | succ k =>
   have:=ih k (by simpa using h)
   rw [show (k+1) * 6=k*6+1+1+1+1+1+1 by omega,show k*6+1+1+1+1+1+1+1=(k*6+1)+1+1+1+1+1+1 by omega,show k*6+1+1+1+1+1+1+2=(k*6+2)+1+1+1+1+1+1 by omega,show k*6+1+1+1+1+1+1+3=(k*6+3)+1+1+1+1+1+1 by omega,show k*6+1+1+1+1+1+1+4=(k*6+4)+1+1+1+1+1+1 by omega,show k*6+1+1+1+1+1+1+5=(k*6+5)+1+1+1+1+1+1 by omega]
   simp only [List.set_cons_succ,this]
   rfl
theorem set_there {xs:List Value} {k:Nat} {v:Value} (h:xs[k]?=some v):xs.set k v=xs:=by
 apply List.ext_getElem? 
 intro i
 by_cases e:k=i
 ·subst e
  rw [List.getElem?_set_self (List.getElem?_eq_some_iff.1 h).1,h]
 ·rw [List.getElem?_set_ne e]
theorem acells_set5 (az:List Au) (b:Bool) (k:Nat) (h:k<az.length):(acells az).set (k*6+5) (.bool b)=acells (az.set k ⟨(auAt az k).ref,(auAt az k).iss,(auAt az k).cur,(auAt az k).am,(auAt az k).day,b⟩):=by
 rw [← acells_set az _ k h]
 obtain ⟨h0,h1,h2,h3,h4,h5⟩:=acells_at az k h
 simp only
 rw [set_there h0,set_there h1,set_there h2,set_there h3,set_there h4]
theorem acells_one (az:List Au):∀ u ∈ acells az,u.oneCell'=true:=by
 intro u hu
 obtain ⟨a,_,h⟩:=List.mem_flatMap.1 hu
 simp only [aucells,List.mem_cons,List.not_mem_nil,or_false] at h
 rcases h with rfl | rfl | rfl | rfl | rfl | rfl <;> rfl
theorem auths_of_own {w:World} {base g n cap:Nat} {t:TypeId} {az:List Au} (h:w.ownsRow base t 6 (.slice (some ⟨g,0,none⟩) n cap) n (acells az)):AuthsAt w (some ⟨g,0,none⟩) az:=by
 have hl:=h.1
 rw [acells_len] at hl
 by_cases h0:az=[]
 ·exact .inl h0
 ·have hlt:=(h.lt g rfl).2
  refine .inr ⟨g,0,rfl,hlt,fun i hi=>?_⟩
  have:=acells_at az i hi
  rw [Nat.zero_add,h.cellAt (i*6) (by omega),h.cellAt (i*6+1) (by omega),h.cellAt (i*6+2) (by omega),h.cellAt (i*6+3) (by omega),h.cellAt (i*6+4) (by omega),h.cellAt (i*6+5) (by omega)]
  exact this
theorem auths_of_own' {w:World} {base n:Nat} {t:TypeId} {v:Value} {az:List Au} (h:w.ownsRow base t 6 v n (acells az)):∃ ao cap,v=.slice ao az.length cap∧AuthsAt w ao az∧n=az.length:=by
 have hn:n=az.length:=by have:=h.1;rw [acells_len] at this;omega
 subst hn
 rcases h.2 with ⟨rfl,hn⟩ | ⟨g,cap,cur,rfl,_⟩
 ·have:az=[]:=List.eq_nil_of_length_eq_zero hn
  subst this
  exact ⟨none,0,rfl,.inl rfl,rfl⟩
 ·exact ⟨_,cap,rfl,auths_of_own h,rfl⟩
theorem auths_any {w:World} {base n:Nat} {t:TypeId} {ao:Option Addr} {cap:Nat} {az:List Au} (h:w.ownsRow base t 6 (.slice ao n cap) n (acells az)):AuthsAt w ao az:=by
 obtain ⟨ao',cap',hv,hf,_⟩:=auths_of_own' h
 obtain ⟨rfl,_⟩:ao=ao'∧n=az.length∧cap=cap':=by simpa using hv
 exact hf
def halfA (az:List Au) (k:Nat):List Au:=az.take k++List.replicate (az.length - k) zeroAu
theorem halfA_zero (az:List Au):halfA az 0=List.replicate az.length zeroAu:=by simp [halfA]
theorem halfA_all (az:List Au):halfA az az.length=az:=by simp [halfA]
theorem halfA_len (az:List Au) (k:Nat) (h:k≤az.length):(halfA az k).length=az.length:=by simp [halfA];omega
theorem halfA_succ (az:List Au) (k:Nat) (h:k<az.length):(halfA az k).set k (auAt az k)=halfA az (k+1):=by
 unfold halfA
 rw [List.set_append,if_neg (by simp;omega),List.length_take,Nat.min_eq_left (Nat.le_of_lt h),Nat.sub_self,show az.length - k=az.length - (k+1)+1 by omega,List.replicate_succ,List.set_cons_zero,List.take_succ_eq_append_getElem h,auAt_is h,List.append_assoc]
 rfl
theorem halfA_at (az:List Au) (k:Nat) (h:k<az.length):auAt (halfA az k) k=zeroAu:=by
 simp [auAt,halfA,List.getD_eq_getElem?_getD,List.getElem?_append,Nat.min_eq_left (Nat.le_of_lt h),List.getElem?_replicate]
 split <;> rfl
theorem infoA:(Tryz.prog.info? 107).map (fun i=>(i.zero,i.size,i.bytes))=some (some (.agg #[.string ⟨#[]⟩,.int .i64 0,.int .i64 0,.int .i64 0,.int .i64 0,.bool false]),6,56):=by kernel_rfl
theorem cells_repA (m:Nat):(madeCells (Value.agg #[.string ⟨#[]⟩,.int .i64 0,.int .i64 0,.int .i64 0,.int .i64 0,.bool false]).cells (m*6)).toList=acells (List.replicate m zeroAu):=by
 apply List.ext_getElem?
 intro j
 by_cases hj:j<m*6
 ·have hq:j / 6<(List.replicate m zeroAu).length:=by simp;omega
  have ha:auAt (List.replicate m zeroAu) (j / 6)=zeroAu:=by
   simp [auAt,List.getD_eq_getElem?_getD,List.getElem?_replicate];split <;> rfl
  have h:=acells_at _ _ hq
  rw [ha] at h
  have hl:(madeCells (Value.agg #[.string ⟨#[]⟩,.int .i64 0,.int .i64 0,.int .i64 0,.int .i64 0,.bool false]).cells (m*6)).toList[j]?=some ((#[Value.string ⟨#[]⟩,.int .i64 0,.int .i64 0,.int .i64 0,.int .i64 0,.bool false]:Array Value)[j % 6]!):=by
   simp [madeCells,hj,Value.cells]
  obtain ⟨h0,h1,h2,h3,h4,h5⟩:=h
  rcases (show j % 6=0∨j % 6=1∨j % 6=2∨j % 6=3∨j % 6=4∨j % 6=5 by omega) with e | e | e | e | e | e
  ·rw [hl,e,show j=j / 6*6 by omega,h0];rfl
  ·rw [hl,e,show j=j / 6*6+1 by omega,h1];rfl
  ·rw [hl,e,show j=j / 6*6+2 by omega,h2];rfl
  ·rw [hl,e,show j=j / 6*6+3 by omega,h3];rfl
  ·rw [hl,e,show j=j / 6*6+4 by omega,h4];rfl
  ·rw [hl,e,show j=j / 6*6+5 by omega,h5];rfl
 ·rw [List.getElem?_eq_none (by rw [Array.length_toList,size_madeCells];omega),List.getElem?_eq_none (by rw [acells_len];simp;omega)]
end Go.Proofs.YtomiclakhjncbaaGreatDoor
namespace Go.Proofs.YtomiclakhjncbaaGreatDoor
set_option maxRecDepth 100000
set_option maxHeartbeats 12800000
structure Cs where
 iss:Int
 acq:Int
 cur:Int
 am:Int
 st:Int
 rsn:Int
 cl:Int
 bk:Int
 fee:Int
 cop:Bool
 sta:Int
 due:Int
structure Ac where
 kind:Int
 am:Int
 rsn:Int
def rOk (x:Int):Bool:=x == 4837 || x == 4855 || x == 4834 || x == 4831 || x == 4853 || x == 4841
def rDays (x:Int):Int:=if x=4837 then 85 else if x=4855 then 65 else if x=4834 then 45 else if x=4831 then 45 else if x=4853 then 65 else if x=4841 then 45 else -1
def rPart (x:Int):Bool:=x == 4831 || x == 4853
def rProof (x:Int):Bool:=x == 4837 || x == 4834
theorem r_cases (x:Int):x=4837∨x=4855∨x=4834∨x=4831∨x=4853∨x=4841∨(x≠4837∧x≠4855∧x≠4834∧x≠4831∧x≠4853∧x≠4841):=by omega
theorem rOk_no {x:Int} (h:x≠4837∧x≠4855∧x≠4834∧x≠4831∧x≠4853∧x≠4841):rOk x=false:=by simp [rOk,h]
theorem rDays_no {x:Int} (h:x≠4837∧x≠4855∧x≠4834∧x≠4831∧x≠4853∧x≠4841):rDays x = -1:=by simp [rDays,h]
theorem rPart_no {x:Int} (h:x≠4837∧x≠4855∧x≠4834∧x≠4831∧x≠4853∧x≠4841):rPart x=false:=by simp [rPart,h]
theorem rProof_no {x:Int} (h:x≠4837∧x≠4855∧x≠4834∧x≠4831∧x≠4853∧x≠4841):rProof x=false:=by simp [rProof,h]
def early (st:Int):Bool:=decide (0≤st∧st≤2) || decide (st=7)
def party (a:Int):Bool:=acctOk a && decide (a≠9999)
def reasonOkAt (r st:Int):Bool:=rOk r || (decide (r=0) && early st)
def caseOk (c:Cs):Bool :=
 party c.iss && (party c.acq && (decide (c.iss≠c.acq) && (decide (0≤digs c.cur) && (decide (1≤c.am∧c.am≤100000000000) && (decide (0≤c.st∧c.st≤7) && (reasonOkAt c.rsn c.st &&
  (decide (0≤c.cl∧c.cl≤c.am) && (decide (0≤c.bk∧c.bk≤c.am) && (decide (0≤c.fee∧c.fee≤500000) && (dOk c.sta && (dOk c.due || decide (c.due = -1))))))))))))
theorem caseOk_parts {c:Cs} (h:caseOk c=true):party c.iss=true∧party c.acq=true∧c.iss≠c.acq∧0≤digs c.cur∧(1≤c.am∧c.am≤100000000000)∧(0≤c.st∧c.st≤7)∧reasonOkAt c.rsn c.st=true ∧
  (0≤c.cl∧c.cl≤c.am)∧(0≤c.bk∧c.bk≤c.am)∧(0≤c.fee∧c.fee≤500000)∧dOk c.sta=true∧(dOk c.due=true∨c.due = -1):=by
 simpa [caseOk] using h
def startC (iss acq cur am day:Int):Cs:=⟨iss,acq,cur,am,0,0,0,0,0,false,day,-1⟩
end Go.Proofs.YtomiclakhjncbaaGreatDoor
namespace Go.Proofs.YtomiclakhjncbaaGreatDoor
open Go.RowKit
set_option maxRecDepth 100000
set_option maxHeartbeats 12800000
def cv (c:Cs):Value:=.agg #[.int .i64 c.iss,.int .i64 c.acq,.int .i64 c.cur,.int .i64 c.am,.int .i64 c.st,.int .i64 c.rsn,.int .i64 c.cl,.int .i64 c.bk,.int .i64 c.fee,.bool c.cop,.int .i64 c.sta,.int .i64 c.due]
def ccs (c:Cs):Array Value:=#[.int .i64 c.iss,.int .i64 c.acq,.int .i64 c.cur,.int .i64 c.am,.int .i64 c.st,.int .i64 c.rsn,.int .i64 c.cl,.int .i64 c.bk,.int .i64 c.fee,.bool c.cop,.int .i64 c.sta,.int .i64 c.due]
structure CB (s o:Nat) (c:Cs) (u:World):Prop where
 f0:u.cell? ⟨s,o,none⟩=some (.int .i64 c.iss)
 f1:u.cell? ⟨s,o+1,none⟩=some (.int .i64 c.acq)
 f2:u.cell? ⟨s,o+2,none⟩=some (.int .i64 c.cur)
 f3:u.cell? ⟨s,o+3,none⟩=some (.int .i64 c.am)
 f4:u.cell? ⟨s,o+4,none⟩=some (.int .i64 c.st)
 f5:u.cell? ⟨s,o+5,none⟩=some (.int .i64 c.rsn)
 f6:u.cell? ⟨s,o+6,none⟩=some (.int .i64 c.cl)
 f7:u.cell? ⟨s,o+7,none⟩=some (.int .i64 c.bk)
 f8:u.cell? ⟨s,o+8,none⟩=some (.int .i64 c.fee)
 f9:u.cell? ⟨s,o+9,none⟩=some (.bool c.cop)
 f10:u.cell? ⟨s,o+10,none⟩=some (.int .i64 c.sta)
 f11:u.cell? ⟨s,o+11,none⟩=some (.int .i64 c.due)
theorem CB.lt {s o:Nat} {c:Cs} {u:World} (h:CB s o c u):s<u.heap.size:=World.block_lt_of_cell? u _ h.f0
theorem CB.below {s o:Nat} {c:Cs} {u u':World} (h:CB s o c u) (b:Below u.heap.size u u'):CB s o c u':=by
 have l:=h.lt
 exact ⟨(b.cell (p:=⟨s,o,none⟩) l).trans h.f0,(b.cell (p:=⟨s,o+1,none⟩) l).trans h.f1,(b.cell (p:=⟨s,o+2,none⟩) l).trans h.f2,(b.cell (p:=⟨s,o+3,none⟩) l).trans h.f3,(b.cell (p:=⟨s,o+4,none⟩) l).trans h.f4,(b.cell (p:=⟨s,o+5,none⟩) l).trans h.f5,
  (b.cell (p:=⟨s,o+6,none⟩) l).trans h.f6,(b.cell (p:=⟨s,o+7,none⟩) l).trans h.f7,(b.cell (p:=⟨s,o+8,none⟩) l).trans h.f8,(b.cell (p:=⟨s,o+9,none⟩) l).trans h.f9,(b.cell (p:=⟨s,o+10,none⟩) l).trans h.f10,(b.cell (p:=⟨s,o+11,none⟩) l).trans h.f11⟩
theorem CB.grown {s o:Nat} {c:Cs} {u u':World} {row:Option Nat} (h:CB s o c u) (g:u.grownBy u' row) (hr:some s≠row):CB s o c u':=by
 have l:=h.lt
 exact ⟨(g.cell_far ⟨s,o,none⟩ l hr).trans h.f0,(g.cell_far ⟨s,o+1,none⟩ l hr).trans h.f1,(g.cell_far ⟨s,o+2,none⟩ l hr).trans h.f2,(g.cell_far ⟨s,o+3,none⟩ l hr).trans h.f3,(g.cell_far ⟨s,o+4,none⟩ l hr).trans h.f4,(g.cell_far ⟨s,o+5,none⟩ l hr).trans h.f5,
  (g.cell_far ⟨s,o+6,none⟩ l hr).trans h.f6,(g.cell_far ⟨s,o+7,none⟩ l hr).trans h.f7,(g.cell_far ⟨s,o+8,none⟩ l hr).trans h.f8,(g.cell_far ⟨s,o+9,none⟩ l hr).trans h.f9,(g.cell_far ⟨s,o+10,none⟩ l hr).trans h.f10,(g.cell_far ⟨s,o+11,none⟩ l hr).trans h.f11⟩
theorem CB.new (w:World) (c:Cs) (t:TypeId):CB w.heap.size 0 c (w.alloc (.cells #[.int .i64 c.iss,.int .i64 c.acq,.int .i64 c.cur,.int .i64 c.am,.int .i64 c.st,.int .i64 c.rsn,.int .i64 c.cl,.int .i64 c.bk,.int .i64 c.fee,.bool c.cop,.int .i64 c.sta,.int .i64 c.due] t)):=by
 exact ⟨by simp,by simp,by simp,by simp,by simp,by simp,by simp,by simp,by simp,by simp,by simp,by simp⟩
structure FZ (s o:Nat) (u:World):Prop where
 z0:u.frozen? ⟨s,o,none⟩=false
 z1:u.frozen? ⟨s,o+1,none⟩=false
 z2:u.frozen? ⟨s,o+2,none⟩=false
 z3:u.frozen? ⟨s,o+3,none⟩=false
 z4:u.frozen? ⟨s,o+4,none⟩=false
 z5:u.frozen? ⟨s,o+5,none⟩=false
 z6:u.frozen? ⟨s,o+6,none⟩=false
 z7:u.frozen? ⟨s,o+7,none⟩=false
 z8:u.frozen? ⟨s,o+8,none⟩=false
 z9:u.frozen? ⟨s,o+9,none⟩=false
 z10:u.frozen? ⟨s,o+10,none⟩=false
 z11:u.frozen? ⟨s,o+11,none⟩=false
theorem FZ.below {s o:Nat} {u u':World} (h:FZ s o u) (l:s<u.heap.size) (b:Below u.heap.size u u'):FZ s o u' :=
 ⟨(b.frozen (p:=⟨s,o,none⟩) l).trans h.z0,(b.frozen (p:=⟨s,o+1,none⟩) l).trans h.z1,(b.frozen (p:=⟨s,o+2,none⟩) l).trans h.z2,(b.frozen (p:=⟨s,o+3,none⟩) l).trans h.z3,(b.frozen (p:=⟨s,o+4,none⟩) l).trans h.z4,(b.frozen (p:=⟨s,o+5,none⟩) l).trans h.z5,(b.frozen (p:=⟨s,o+6,none⟩) l).trans h.z6,(b.frozen (p:=⟨s,o+7,none⟩) l).trans h.z7,(b.frozen (p:=⟨s,o+8,none⟩) l).trans h.z8,(b.frozen (p:=⟨s,o+9,none⟩) l).trans h.z9,(b.frozen (p:=⟨s,o+10,none⟩) l).trans h.z10,(b.frozen (p:=⟨s,o+11,none⟩) l).trans h.z11⟩
theorem FZ.grown {s o:Nat} {u u':World} {row:Option Nat} (h:FZ s o u) (l:s<u.heap.size) (g:u.grownBy u' row) (hr:some s≠row):FZ s o u' :=
 ⟨(g.frozen_far ⟨s,o,none⟩ l hr).trans h.z0,(g.frozen_far ⟨s,o+1,none⟩ l hr).trans h.z1,(g.frozen_far ⟨s,o+2,none⟩ l hr).trans h.z2,(g.frozen_far ⟨s,o+3,none⟩ l hr).trans h.z3,(g.frozen_far ⟨s,o+4,none⟩ l hr).trans h.z4,(g.frozen_far ⟨s,o+5,none⟩ l hr).trans h.z5,(g.frozen_far ⟨s,o+6,none⟩ l hr).trans h.z6,(g.frozen_far ⟨s,o+7,none⟩ l hr).trans h.z7,(g.frozen_far ⟨s,o+8,none⟩ l hr).trans h.z8,(g.frozen_far ⟨s,o+9,none⟩ l hr).trans h.z9,(g.frozen_far ⟨s,o+10,none⟩ l hr).trans h.z10,(g.frozen_far ⟨s,o+11,none⟩ l hr).trans h.z11⟩
theorem FZ.new (w:World) (cs:Array Value) (t:TypeId):FZ w.heap.size 0 (w.alloc (.cells cs t)) :=
 ⟨by simp [go_sem],by simp [go_sem],by simp [go_sem],by simp [go_sem],by simp [go_sem],by simp [go_sem],by simp [go_sem],by simp [go_sem],by simp [go_sem],by simp [go_sem],by simp [go_sem],by simp [go_sem]⟩
def put12 (u:World) (h:Nat) (c:Cs):World :=
 (((((((((((u.setCell ⟨h,0,none⟩ (.int .i64 c.iss)).setCell ⟨h,1,none⟩ (.int .i64 c.acq)).setCell ⟨h,2,none⟩ (.int .i64 c.cur)).setCell ⟨h,3,none⟩ (.int .i64 c.am)).setCell ⟨h,4,none⟩ (.int .i64 c.st)).setCell ⟨h,5,none⟩ (.int .i64 c.rsn)).setCell ⟨h,6,none⟩ (.int .i64 c.cl)).setCell ⟨h,7,none⟩ (.int .i64 c.bk)).setCell ⟨h,8,none⟩ (.int .i64 c.fee)).setCell ⟨h,9,none⟩ (.bool c.cop)).setCell ⟨h,10,none⟩ (.int .i64 c.sta)).setCell ⟨h,11,none⟩ (.int .i64 c.due)
theorem put12_below {w u:World} {h n:Nat} (c:Cs) (b:Below n w u) (hn:n≤h):Below n w (put12 u h c) :=
 (((((((((((b.setCell hn _).setCell hn _).setCell hn _).setCell hn _).setCell hn _).setCell hn _).setCell hn _).setCell hn _).setCell hn _).setCell hn _).setCell hn _).setCell hn _
theorem put12_cb {u:World} {h:Nat} {c d:Cs} (b:CB h 0 d u):CB h 0 c (put12 u h c):=by
 obtain ⟨f0,f1,f2,f3,f4,f5,f6,f7,f8,f9,f10,f11⟩:=b
 simp only [Nat.zero_add] at f0 f1 f2 f3 f4 f5 f6 f7 f8 f9 f10 f11
 exact ⟨by simp [put12,go_sem,f0],by simp [put12,go_sem,f1],by simp [put12,go_sem,f2],by simp [put12,go_sem,f3],by simp [put12,go_sem,f4],by simp [put12,go_sem,f5],by simp [put12,go_sem,f6],by simp [put12,go_sem,f7],by simp [put12,go_sem,f8],by simp [put12,go_sem,f9],by simp [put12,go_sem,f10],by simp [put12,go_sem,f11]⟩
theorem keepL {w w':World} {base n size:Nat} {t:TypeId} {v:Value} {xs:List Value} (h:w.ownsRow base t size v n xs) (hb:Below w.heap.size w w'):w'.ownsRow base t size v n xs:=by
 obtain ⟨h1,h2⟩:=h
 refine ⟨h1,?_⟩
 rcases h2 with h | ⟨g,cap,cur,hv,hg,hh,a1,a2,a3,a4⟩
 ·exact .inl h
 ·have hlt:g<w.heap.size:=(Array.getElem?_eq_some_iff.1 hh).1
  exact .inr ⟨g,cap,cur,hv,hg,(hb.block g hlt).trans hh,a1,a2,a3,a4⟩
theorem keepSetL {w:World} {base n size:Nat} {t:TypeId} {v:Value} {xs:List Value} (h:w.ownsRow base t size v n xs) (p:Addr) (u:Value) (hp:∀ g,v.ownBlock=some g→g≠p.block):(w.setCell p u).ownsRow base t size v n xs:=by
 obtain ⟨h1,h2⟩:=h
 refine ⟨h1,?_⟩
 rcases h2 with h | ⟨g,cap,cur,hv,hg,hh,a1,a2,a3,a4⟩
 ·exact .inl h
 ·exact .inr ⟨g,cap,cur,hv,hg,(Below.heap_setCell w p u g (hp g (by rw [hv];rfl))).trans hh,a1,a2,a3,a4⟩
theorem keepG {w w':World} {base n size:Nat} {t:TypeId} {v:Value} {xs:List Value} {row:Option Nat} (h:w.ownsRow base t size v n xs) (hg:w.grownBy w' row) (hne:∀ g,v.ownBlock=some g→some g≠row):w'.ownsRow base t size v n xs:=by
 obtain ⟨h1,h2⟩:=h
 refine ⟨h1,?_⟩
 rcases h2 with h | ⟨g,cap,cur,hv,hg',hh,a1,a2,a3,a4⟩
 ·exact .inl h
 ·have hlt:g<w.heap.size:=(Array.getElem?_eq_some_iff.1 hh).1
  exact .inr ⟨g,cap,cur,hv,hg',(hg.block g hlt (hne g (by rw [hv];rfl))).trans hh,a1,a2,a3,a4⟩
theorem lowerL {w:World} {base base' n size:Nat} {t:TypeId} {v:Value} {xs:List Value} (h:w.ownsRow base t size v n xs) (hb:base'≤base):w.ownsRow base' t size v n xs:=by
 obtain ⟨h1,h2⟩:=h
 refine ⟨h1,?_⟩
 rcases h2 with h | ⟨g,cap,cur,hv,hg,r⟩
 ·exact .inl h
 ·exact .inr ⟨g,cap,cur,hv,Nat.le_trans hb hg,r⟩
theorem toLine_any (a b c:Int) (w:World) :
  Calls Tryz.prog 162 #[.agg #[.int .i64 a,.int .i64 b,.int .i64 c]] w fun e w'=>e=.returned (.agg #[.int .i64 a,.int .i64 b,.int .i64 c])∧Below w.heap.size w w':=by
 go_enter Tryz.func162,Tryz.ntmps162
 go_wp2
 go_returns
 refine ⟨rfl,?_⟩
 go_grown
def halfL (ls:List Ln) (k:Nat):List Ln:=ls.take k++List.replicate (ls.length - k) (0,0,0)
theorem halfL_all (ls:List Ln):halfL ls ls.length=ls:=by simp [halfL]
theorem halfL_len (ls:List Ln) (k:Nat) (h:k≤ls.length):(halfL ls k).length=ls.length:=by simp [halfL];omega
theorem halfL_succ (ls:List Ln) (k:Nat) (h:k<ls.length):(halfL ls k).set k (lnAt ls k)=halfL ls (k+1):=by
 unfold halfL
 rw [List.set_append,if_neg (by simp;omega),List.length_take,Nat.min_eq_left (Nat.le_of_lt h),Nat.sub_self,show ls.length - k=ls.length - (k+1)+1 by omega,List.replicate_succ,List.set_cons_zero,take_lnAt ls k h,List.append_assoc]
 rfl
theorem halfL_at (ls:List Ln) (k:Nat) (h:k<ls.length):lnAt (halfL ls k) k=(0,0,0):=by
 simp [lnAt,halfL,List.getD_eq_getElem?_getD,List.getElem?_append,Nat.min_eq_left (Nat.le_of_lt h),List.getElem?_replicate]
 split <;> rfl
theorem infoL:(Tryz.prog.info? 113).map (fun i=>(i.zero,i.size,i.bytes))=some (some (.agg #[.int .i64 0,.int .i64 0,.int .i64 0]),3,24):=by kernel_rfl
theorem cells_repL (m:Nat):(madeCells (Value.agg #[.int .i64 0,.int .i64 0,.int .i64 0]).cells (m*3)).toList=lcells (List.replicate m (0,0,0)):=by
 apply List.ext_getElem?
 intro j
 by_cases hj:j<m*3
 ·have hq:j / 3<(List.replicate m ((0:Int),(0:Int),(0:Int))).length:=by simp;omega
  have ha:lnAt (List.replicate m ((0:Int),(0:Int),(0:Int))) (j / 3)=(0,0,0):=by
   simp [lnAt,List.getD_eq_getElem?_getD,List.getElem?_replicate];split <;> rfl
  have h:=lcells_at _ _ hq
  rw [ha] at h
  have hl:(madeCells (Value.agg #[.int .i64 0,.int .i64 0,.int .i64 0]).cells (m*3)).toList[j]?=some ((#[Value.int .i64 0,.int .i64 0,.int .i64 0]:Array Value)[j % 3]!):=by
   simp [madeCells,hj,Value.cells]
  rcases (show j % 3=0∨j % 3=1∨j % 3=2 by omega) with e | e | e
  ·rw [hl,e,show j=j / 3*3 by omega,h.1];rfl
  ·rw [hl,e,show j=j / 3*3+1 by omega,h.2.1];rfl
  ·rw [hl,e,show j=j / 3*3+2 by omega,h.2.2];rfl
 ·rw [List.getElem?_eq_none (by rw [Array.length_toList,size_madeCells];omega),List.getElem?_eq_none (by rw [lcells_len];simp;omega)]
theorem toLineS_any (ao:Option Addr) (cap:Nat) (ls:List Ln) (w:World) (hz:LinesAt w ao ls) (hn:ls.length≤1048576) :
  Calls Tryz.prog 126 #[.slice ao ls.length cap] w fun e w'=>e=.returned (.slice (some ⟨w.heap.size,0,none⟩) ls.length ls.length) ∧
   w'.ownsRow w.heap.size 113 3 (.slice (some ⟨w.heap.size,0,none⟩) ls.length ls.length) ls.length (lcells ls)∧Below w.heap.size w w':=by
 obtain ⟨i0,hi,hz0,hz1,hz2⟩:=info_parts infoL
 have hm0:=cells_repL ls.length
 have HZ:Hid (LinesAt w ao ls):=hz
 clear hz
 go_enter Tryz.func126,Tryz.ntmps126
 go_wp2_with (refine wpList_make_full _ rfl (.tmp 6) (.tmp 6) 27 rfl w.heap.size 113 i0 _ 3 Tryz.underlying27 hi hz0 hz1 .i64 .i64 _ _ ls.length rfl rfl rfl rfl (by rw [hz2];omega) (by unfold maxLen;omega) (Nat.le_refl _) ?_;intro w1 hown hg)
 rw [hm0,show List.replicate ls.length ((0:Int),(0:Int),(0:Int))=halfL ls 0 from by simp [halfL]] at hown
 have hb1:Below w.heap.size w w1:=(Below.refl _ _).grown hg (Nat.le_refl _) (fun k hk=>by cases hk)
 clear hm0 hg
 go_loopw [4] (fun i wr=>∃ k:Nat,k≤ls.length∧i=.int .i64 k∧wr.ownsRow w.heap.size 113 3 (.slice (some ⟨w.heap.size,0,none⟩) ls.length ls.length) ls.length (lcells (halfL ls k))∧Below w.heap.size w wr) (fun i _=>ls.length - (intOf i).toNat)
 case atStart=>exact ⟨0,Nat.zero_le _,rfl,hown,hb1⟩
 case round =>
  obtain ⟨k,hk,rfl,ho,hbr⟩:=hrel
  clear hown hb1
  by_cases hlt:k<ls.length
  ·obtain ⟨b,off,rfl,hb,c1,c2,c3⟩:=(HZ.out.below hbr).at hlt
   have hki:(k:Int)<(ls.length:Int):=by omega
   have HS:Hid _:=halfL_succ ls k hlt
   have HT:Hid _:=lcells_set (halfL ls k) (lnAt ls k) k (by rw [halfL_len ls k hk];exact hlt)
   obtain ⟨⟨x,y,z⟩,hf⟩:∃ f,lnAt ls k=f:=⟨_,rfl⟩
   rw [hf] at c1 c2 c3 HS HT
   simp only at c1 c2 c3 HT
   have HO:Hid (wr.ownsRow w.heap.size 113 3 (.slice (some ⟨w.heap.size,0,none⟩) ls.length ls.length) ls.length (lcells (halfL ls k))):=ho
   have HA:Hid _:=halfL_at ls k hlt
   clear hf ho
   go_wp2_with fail
   refine (toLine_any _ _ _ _).mono ?_
   rintro e w2 ⟨rfl,b2⟩
   have ho:=keepL HO.out b2
   have hat:=lcells_at (halfL ls k) k (by rw [halfL_len ls k hk];exact hlt)
   rw [HA.out] at hat
   have d1:w2.cell? ⟨w.heap.size,k*3,none⟩=some (.int .i64 0):=by rw [ho.cellAt (k*3) (by omega)];exact hat.1
   have d2:w2.cell? ⟨w.heap.size,k*3+1,none⟩=some (.int .i64 0):=by rw [ho.cellAt (k*3+1) (by omega)];exact hat.2.1
   have d3:w2.cell? ⟨w.heap.size,k*3+2,none⟩=some (.int .i64 0):=by rw [ho.cellAt (k*3+2) (by omega)];exact hat.2.2
   have e1:w2.frozen? ⟨w.heap.size,k*3,none⟩=false:=ho.frozenAt _
   have e2:w2.frozen? ⟨w.heap.size,k*3+1,none⟩=false:=ho.frozenAt _
   have e3:w2.frozen? ⟨w.heap.size,k*3+2,none⟩=false:=ho.frozenAt _
   have HR:Hid ((((w2.setCell ⟨w.heap.size,k*3,none⟩ (.int .i64 x)).setCell ⟨w.heap.size,k*3+1,none⟩ (.int .i64 y)).setCell ⟨w.heap.size,k*3+2,none⟩ (.int .i64 z)).ownsRow w.heap.size 113 3 (.slice (some ⟨w.heap.size,0,none⟩) ls.length ls.length) ls.length (lcells (halfL ls (k+1)))):=by
    have R:=(((ho.stored (k*3) (.int .i64 x)).1.stored (k*3+1) (.int .i64 y)).1.stored (k*3+2) (.int .i64 z)).1
    rw [HT.out,HS.out] at R
    exact R
   clear ho hat
   go_wp2
   go_roundw
   case rel=>exact ⟨k+1,by omega,by go_num,HR.out,(((hbr.trans (b2.mono hbr.size)).setCell (Nat.le_refl _) _).setCell (Nat.le_refl _) _).setCell (Nat.le_refl _) _⟩
   case measure=>simp [intOf];omega
  ·have:k=ls.length:=by omega
   subst this
   rw [halfL_all] at ho
   go_wp2
   go_ret
   exact ⟨rfl,ho,hbr⟩
theorem lines_any {w:World} {base n:Nat} {t:TypeId} {ao:Option Addr} {cap:Nat} {ls:List Ln} (h:w.ownsRow base t 3 (.slice ao ls.length cap) n (lcells ls)):LinesAt w ao ls:=by
 obtain ⟨ao',cap',hv,hf,_⟩:=lines_of_own h
 obtain ⟨rfl,_⟩:ao=ao'∧cap=cap':=by simpa using hv
 exact hf
theorem eqLine_same (a b c:Int) (w:World) :
  Calls Tryz.prog 158 #[.agg #[.int .i64 a,.int .i64 b,.int .i64 c],.agg #[.int .i64 a,.int .i64 b,.int .i64 c]] w fun e w'=>e=.returned (.bool true)∧Below w.heap.size w w':=by
 go_enter Tryz.func158,Tryz.ntmps158
 go_wp2
 go_ret
 exact ⟨rfl,by go_grown⟩
theorem eqLineS_same (ao bo:Option Addr) (c1 c2:Nat) (ls:List Ln) (w:World) (hx:LinesAt w ao ls) (hy:LinesAt w bo ls) (h1:ls.length≤1099511627776) :
  Calls Tryz.prog 117 #[.slice ao ls.length c1,.slice bo ls.length c2] w fun e w'=>e=.returned (.bool true)∧Below w.heap.size w w':=by
 have HX:Hid (LinesAt w ao ls):=hx
 have HY:Hid (LinesAt w bo ls):=hy
 clear hx hy
 go_enter Tryz.func117,Tryz.ntmps117
 go_wp2
 go_loopw [5] (fun i wr=>∃ k:Nat,k≤ls.length∧i=.int .i64 k∧Below w.heap.size w wr) (fun i _=>ls.length - (intOf i).toNat)
 case atStart=>exact ⟨0,Nat.zero_le _,rfl,Below.refl _ _⟩
 case round =>
  obtain ⟨k,hk,rfl,hbr⟩:=hrel
  by_cases hlt:k<ls.length
  ·obtain ⟨b,off,rfl,hb,e1,e2,e3⟩:=(HX.out.below hbr).at hlt
   obtain ⟨b',off',rfl,hb',e4,e5,e6⟩:=(HY.out.below hbr).at hlt
   have hki:(k:Int)<(ls.length:Int):=by omega
   obtain ⟨⟨x,y,z⟩,hxk⟩:∃ x,lnAt ls k=x:=⟨_,rfl⟩
   rw [hxk] at e1 e2 e3 e4 e5 e6
   simp only at e1 e2 e3 e4 e5 e6
   clear hxk
   go_wp2
   go_region_with (go_at_call 158;refine (eqLine_same _ _ _ _).mono ?_;rintro e w2 ⟨rfl,b2⟩)
   all_goals
    go_wp2
    go_roundw
    case rel=>exact ⟨k+1,by omega,by go_num,(hbr.drew).trans (b2.mono hbr.size)⟩
    case measure=>simp [intOf];omega
  ·go_wp2
   go_ret
   exact ⟨rfl,hbr⟩
end Go.Proofs.YtomiclakhjncbaaGreatDoor
namespace Go.Proofs.YtomiclakhjncbaaGreatDoor
open Go.ChangeShapes Go.WideShapes Go.ChangeAt Go.RowKit Go.Deep
set_option maxRecDepth 100000
set_option maxHeartbeats 12800000
def TxtsAt (w:World) (ao:Option Addr) (rs:Recs):Prop :=
 rs=[]∨∃ b off,ao=some ⟨b,off,none⟩∧b<w.heap.size∧∀ i,i<rs.length→w.cell? ⟨b,off+i,none⟩=some (.string ⟨(nth rs i).toArray⟩)
def TxtsBd (rs:Recs):Prop:=rs.length≤maxLen∧∀ r ∈ rs,r.length≤maxLen
theorem TxtsAt.below {w w':World} {ao:Option Addr} {rs:Recs} (h:TxtsAt w ao rs) (hb:Below w.heap.size w w'):TxtsAt w' ao rs:=by
 rcases h with h | ⟨b,off,h1,h2,h3⟩
 ·exact .inl h
 ·exact .inr ⟨b,off,h1,Nat.lt_of_lt_of_le h2 hb.size,fun i hi=>(hb.cell (p:=⟨b,off+i,none⟩) h2).trans (h3 i hi)⟩
theorem is_txts {P:Program} {H:Type} {enc:TypeId×Value→H} {W:World} {r:Reach} {base:Nat} {t e:TypeId} {v:Value} {d:DataW H} {p:List MemPlace}
  (ht:P.underlying t=some (.slice e)) (he:P.underlying e=some .string) (ce:P.cellsOf e=1)
  (hv:Value.okWide P W r base t v) (h:DataW.Trod enc P W 0 (fun _=>true) true t v d p) :
  ∃ a cap rs,v=.slice a (List.length rs) cap∧TxtsAt W a rs∧TxtsBd rs:=by
 obtain ⟨va,vl,vc,rfl⟩:=okWide_slice ht hv
 obtain ⟨fuel,h1⟩:=h
 rcases open_strs ht he ce h1 with ⟨e1,_⟩ | ⟨a,len,cap,m,Sx,e1,_,hlc,hm,hmm,_,hx⟩
 ·have e2:Value.slice va vl vc=.slice none 0 0:=by simpa [Value.cells] using e1
  exact ⟨none,0,[],e2,.inl rfl,Nat.zero_le _,fun f hf=>by cases hf⟩
 ·simp at hmm
  subst hmm
  have e2:Value.slice va vl vc=.slice (some a) len m:=by simpa [Value.cells] using e1
  refine ⟨some a,m,(List.range len).map fun i=>(Sx i).data.toList,by rw [e2];simp,?_,by rw [List.length_map,List.length_range];exact Nat.le_trans hlc hm,fun f hf=>by
   obtain ⟨i,hi,rfl⟩:=List.mem_map.1 hf
   have:=(hx i (by have:=List.mem_range.1 hi;omega)).2
   rw [Array.length_toList];exact this⟩
  by_cases hz:len=0
  ·subst hz;exact .inl rfl
  ·obtain ⟨bk,off,spot⟩:=a
   have hc0:=(hx 0 (by omega)).1
   have hspot:spot=none:=by simpa [Addr.add] using World.cell?_spot hc0
   subst hspot
   refine .inr ⟨bk,off,rfl,World.block_lt_of_cell? W _ hc0,fun i hi=>?_⟩
   have hi':i<len:=by simpa using hi
   have hat:nth ((List.range len).map fun i=>(Sx i).data.toList) i=(Sx i).data.toList:=by simp [nth,List.getD_eq_getElem?_getD,hi']
   have g0:=(hx i (by omega)).1
   rw [add_plain] at g0
   rw [hat,g0]
def scell (r:List UInt8):Value:=.string ⟨r.toArray⟩
def scells (rs:Recs):List Value:=rs.map scell
theorem scells_len (rs:Recs):(scells rs).length=rs.length:=by simp [scells]
theorem scells_append (a b:Recs):scells (a++b)=scells a++scells b:=by simp [scells]
theorem scells_at (rs:Recs) (k:Nat) (h:k<rs.length):(scells rs)[k]?=some (.string ⟨(nth rs k).toArray⟩):=by
 simp [scells,scell,nth,List.getD_eq_getElem?_getD,h]
theorem scells_set (rs:Recs) (k:Nat) (r:List UInt8):(scells rs).set k (.string ⟨r.toArray⟩)=scells (rs.set k r):=by
 show (rs.map scell).set k (scell r)=(rs.set k r).map scell
 rw [List.map_set]
theorem scells_one (rs:Recs):∀ u ∈ scells rs,u.oneCell'=true:=by
 intro u hu
 simp only [scells,List.mem_map] at hu
 obtain ⟨r,_,rfl⟩:=hu
 rfl
theorem infoS:(Tryz.prog.info? 9).map (fun i=>(i.zero,i.size,i.bytes))=some (some (.string ⟨#[]⟩),1,16):=by kernel_rfl
theorem cells_repS (m:Nat):(madeCells (Value.string ⟨#[]⟩).cells (m*1)).toList=scells (List.replicate m []):=by
 rw [Nat.mul_one]
 refine (toList_madeCells_one _ _).trans ?_
 simp [scells,scell]
theorem keepRowS {w w':World} {base n size:Nat} {t:TypeId} {v:Value} {xs:List Value} (h:w.ownsRow base t size v n xs) (hb:Below w.heap.size w w'):w'.ownsRow base t size v n xs:=by
 obtain ⟨h1,h2⟩:=h
 refine ⟨h1,?_⟩
 rcases h2 with h | ⟨g,cap,cur,hv,hg,hh,a1,a2,a3,a4⟩
 ·exact .inl h
 ·have hlt:g<w.heap.size:=(Array.getElem?_eq_some_iff.1 hh).1
  exact .inr ⟨g,cap,cur,hv,hg,(hb.block g hlt).trans hh,a1,a2,a3,a4⟩
theorem txts_of_own {w:World} {base n:Nat} {t:TypeId} {v:Value} {rs:Recs} (h:w.ownsRow base t 1 v n (scells rs)):∃ ao cap,v=.slice ao rs.length cap∧TxtsAt w ao rs∧n=rs.length:=by
 have hn:n=rs.length:=by have:=h.1;rw [scells_len] at this;omega
 subst hn
 rcases h.2 with ⟨rfl,hn⟩ | ⟨g,cap,cur,rfl,_⟩
 ·have:rs=[]:=List.eq_nil_of_length_eq_zero hn
  subst this
  exact ⟨none,0,rfl,.inl rfl,rfl⟩
 ·refine ⟨_,cap,rfl,?_,rfl⟩
  by_cases h0:rs=[]
  ·exact .inl h0
  ·have hlt:=(h.lt g rfl).2
   refine .inr ⟨g,0,rfl,hlt,fun i hi=>?_⟩
   rw [Nat.zero_add,h.cellAt i (by omega)]
   exact scells_at rs i hi
theorem txts_any {w:World} {base n:Nat} {t:TypeId} {ao:Option Addr} {cap:Nat} {rs:Recs} (h:w.ownsRow base t 1 (.slice ao rs.length cap) n (scells rs)):TxtsAt w ao rs:=by
 obtain ⟨ao',cap',hv,hf,_⟩:=txts_of_own h
 obtain ⟨rfl,_⟩:ao=ao'∧cap=cap':=by simpa using hv
 exact hf
theorem txts_cell {w:World} {b off:Nat} {rs:Recs} (h:TxtsAt w (some ⟨b,off,none⟩) rs) {k:Nat} (hk:k<rs.length):w.cell? ⟨b,off+k,none⟩=some (.string ⟨(nth rs k).toArray⟩)∧b<w.heap.size:=by
 rcases h with rfl | ⟨b',off',hq,hb,hc⟩
 ·simp at hk
 ·obtain ⟨rfl,rfl⟩:b=b'∧off=off':=by simpa using hq
  exact ⟨hc k hk,hb⟩
theorem one_oneS (r:List UInt8):∀ u ∈ [Value.string ⟨r.toArray⟩],u.oneCell'=true:=by
 intro u hu
 simp at hu
 subst hu;rfl
def halfS (rs:Recs) (k:Nat):Recs:=rs.take k++List.replicate (rs.length - k) []
theorem halfS_all (rs:Recs):halfS rs rs.length=rs:=by simp [halfS]
theorem halfS_len (rs:Recs) (k:Nat) (h:k≤rs.length):(halfS rs k).length=rs.length:=by simp [halfS];omega
theorem halfS_succ (rs:Recs) (k:Nat) (h:k<rs.length):(halfS rs k).set k (nth rs k)=halfS rs (k+1):=by
 unfold halfS
 rw [List.set_append,if_neg (by simp;omega),List.length_take,Nat.min_eq_left (Nat.le_of_lt h),Nat.sub_self,show rs.length - k=rs.length - (k+1)+1 by omega,List.replicate_succ,List.set_cons_zero,take_nth rs k h,List.append_assoc]
 rfl
theorem halfS_at (rs:Recs) (k:Nat) (h:k<rs.length):nth (halfS rs k) k=[]:=by
 simp [nth,halfS,List.getD_eq_getElem?_getD,List.getElem?_append,Nat.min_eq_left (Nat.le_of_lt h),List.getElem?_replicate]
 split <;> rfl
def leftTs:Recs→Int→Int
 | [],left=>left
 | f::r,left=>if left - (f.length:Int)<0 then -1 else leftTs r (left - (f.length:Int))
def leftT (rs:Recs) (left:Int):Int:=if left - (rs.length:Int)<0 then -1 else leftTs rs (left - (rs.length:Int))
theorem leftTs_step (rs:Recs) (k:Nat) (left:Int) (h:k<rs.length):leftTs (rs.drop k) left=if left - ((nth rs k).length:Int)<0 then -1 else leftTs (rs.drop (k+1)) (left - ((nth rs k).length:Int)):=by
 rw [List.drop_eq_getElem_cons h,nth_is h];rfl
def sumT (rs:Recs):Nat:=(rs.map List.length).sum
theorem leftTs_sum (rs:Recs):∀ left,0≤leftTs rs left→0≤left→(sumT rs:Int)≤left:=by
 induction rs with
 | nil=>intro left _ h;simpa [sumT] using h
 | cons f r ih =>
  intro left h hl
  simp only [leftTs] at h
  split at h
  ·omega
  ·have:=ih _ h (by omega)
   simp only [sumT,List.map_cons,List.sum_cons] at this ⊢
   omega
theorem leftT_sum {rs:Recs} {left:Int} (h:0≤leftT rs left):(rs.length:Int)+sumT rs≤left:=by
 unfold leftT at h
 split at h
 ·omega
 ·have:=leftTs_sum rs _ h (by omega)
  omega
theorem sumT_mem {rs:Recs} {f:List UInt8} (h:f ∈ rs):f.length≤sumT rs:=by
 induction rs with
 | nil=>cases h
 | cons g r ih =>
  simp only [sumT,List.map_cons,List.sum_cons] at ih ⊢
  rcases List.mem_cons.1 h with rfl | hr
  ·omega
  ·have:=ih hr;omega
end Go.Proofs.YtomiclakhjncbaaGreatDoor
namespace Go.Proofs.YtomiclakhjncbaaGreatDoor
open Go.RowKit
set_option maxRecDepth 100000
set_option maxHeartbeats 12800000
theorem szStringS_gen (ao:Option Addr) (cap:Nat) (rs:Recs) (left:Int) (w:World) (hz:TxtsAt w ao rs) (hd:TxtsBd rs) (hl0:0≤left) (hl1:left≤1048576) :
  Calls Tryz.prog 10 #[.slice ao rs.length cap,.int .i64 left] w fun e w'=>e=.returned (.int .i64 (leftT rs left))∧Below w.heap.size w w':=by
 have hn:rs.length≤9223372036854775807:=by have:=hd.1;unfold maxLen at this;omega
 have HD:Hid (∀ k,k<rs.length→(nth rs k).length≤9223372036854775807):=by
  intro k hk;have:=hd.2 _ (nth_mem hk);unfold maxLen at this;omega
 clear hd
 by_cases hneg:left - (rs.length:Int)<0
 ·have HE:Hid (leftT rs left = -1):=if_pos hneg
  go_enter Tryz.func10,Tryz.ntmps10
  go_wp2
  go_ret
  exact ⟨one_int HE.out.symm,Below.refl _ _⟩
 ·have HE:Hid (leftT rs left=leftTs rs (left - (rs.length:Int))):=if_neg hneg
  rcases hz with rfl | ⟨b,off,rfl,hb,hcell⟩
  ·go_enter Tryz.func10,Tryz.ntmps10
   go_wp2
   refine wp_loop_rounds 1 ?_
   rw [rounds_succ]
   go_wp2
   go_ret
   exact ⟨one_int (by rw [HE.out];simp [leftTs]),Below.refl _ _⟩
  ·have HC:Hid (∀ i,i<rs.length→w.cell? ⟨b,off+i,none⟩=some (.string ⟨(nth rs i).toArray⟩)):=hcell
   clear hcell
   go_enter Tryz.func10,Tryz.ntmps10
   go_wp2
   go_loopw [1,5] (fun v i wr=>∃ (k:Nat) (l:Int),k≤rs.length∧i=.int .i64 k∧v=.int .i64 l∧0≤l∧l≤1048576∧leftT rs left=leftTs (rs.drop k) l∧Below w.heap.size w wr) (fun _ i _=>rs.length - (intOf i).toNat)
   case atStart=>exact ⟨0,_,Nat.zero_le _,rfl,rfl,by omega,by omega,HE.out,Below.refl _ _⟩
   case round =>
    obtain ⟨k,l,hk,rfl,rfl,h0,h1,hleft,hbr⟩:=hrel
    by_cases hlt:k<rs.length
    ·have c1:wr.cell? ⟨b,off+k,none⟩=some (.string ⟨(nth rs k).toArray⟩):=(hbr.cell (p:=⟨b,off+k,none⟩) hb).trans (HC.out k hlt)
     have hki:(k:Int)<(rs.length:Int):=by omega
     have hst:=leftTs_step rs k l hlt
     have hdk:=HD.out k hlt
     obtain ⟨s,hf⟩:∃ f,nth rs k=f:=⟨_,rfl⟩
     rw [hf] at c1 hst hdk
     by_cases hng:l - (s.length:Int)<0
     ·have HN:Hid (leftT rs left = -1):=by rw [Hid,hleft,hst,if_pos hng]
      clear hst hf hleft
      go_wp2
      go_ret
      exact ⟨one_int HN.out.symm,hbr⟩
     ·have HN:Hid (leftT rs left=leftTs (rs.drop (k+1)) (l - (s.length:Int))):=by rw [Hid,hleft,hst,if_neg hng]
      clear hst hf hleft
      go_wp2
      go_roundw
      case rel=>exact ⟨k+1,_,by omega,by go_num,rfl,by omega,by omega,HN.out,hbr⟩
      case measure=>simp [intOf];omega
    ·have:k=rs.length:=by omega
     subst this
     have HN:Hid (leftT rs left=l):=by rw [Hid,hleft,List.drop_of_length_le (Nat.le_refl _)];rfl
     clear hleft
     go_wp2
     go_ret
     exact ⟨one_int HN.out.symm,hbr⟩
theorem szStringS_any (ao:Option Addr) (cap:Nat) (rs:Recs) (w:World) (hz:TxtsAt w ao rs) (hd:TxtsBd rs) :
  Calls Tryz.prog 10 #[.slice ao rs.length cap,.int .i64 1048576] w fun e w'=>e=.returned (.int .i64 (leftT rs 1048576))∧Below w.heap.size w w':=szStringS_gen ao cap rs 1048576 w hz hd (by omega) (by omega)
theorem toStringS_any (ao:Option Addr) (cap:Nat) (rs:Recs) (w:World) (hz:TxtsAt w ao rs) (hn:rs.length≤1048576) :
  Calls Tryz.prog 13 #[.slice ao rs.length cap] w fun e w'=>e=.returned (.slice (some ⟨w.heap.size,0,none⟩) rs.length rs.length) ∧
   w'.ownsRow w.heap.size 9 1 (.slice (some ⟨w.heap.size,0,none⟩) rs.length rs.length) rs.length (scells rs)∧Below w.heap.size w w':=by
 obtain ⟨i0,hi,hz0,hz1,hz2⟩:=info_parts infoS
 have hm0:=cells_repS rs.length
 rcases hz with rfl | ⟨b,off,rfl,hb,hcell⟩
 ·go_enter Tryz.func13,Tryz.ntmps13
  go_wp2_with (refine wpList_make_full _ rfl (.tmp 6) (.tmp 6) 23 rfl w.heap.size 9 i0 _ 1 Tryz.underlying23 hi hz0 hz1 .i64 .i64 _ _ 0 rfl rfl rfl rfl (by rw [hz2];omega) (by unfold maxLen;omega) (Nat.le_refl _) ?_;intro w1 hown hg)
  refine wp_loop_rounds 1 ?_
  rw [rounds_succ]
  go_wp2
  go_ret
  exact ⟨rfl,by simpa [madeCells,scells] using hown,(Below.refl _ _).grown hg (Nat.le_refl _) (fun k hk=>by cases hk)⟩
 ·have HC:Hid (∀ i,i<rs.length→w.cell? ⟨b,off+i,none⟩=some (.string ⟨(nth rs i).toArray⟩)):=hcell
  clear hcell
  go_enter Tryz.func13,Tryz.ntmps13
  go_wp2_with (refine wpList_make_full _ rfl (.tmp 6) (.tmp 6) 23 rfl w.heap.size 9 i0 _ 1 Tryz.underlying23 hi hz0 hz1 .i64 .i64 _ _ rs.length rfl rfl rfl rfl (by rw [hz2];omega) (by unfold maxLen;omega) (Nat.le_refl _) ?_;intro w1 hown hg)
  rw [hm0,show List.replicate rs.length ([]:List UInt8)=halfS rs 0 from by simp [halfS]] at hown
  have hb1:Below w.heap.size w w1:=(Below.refl _ _).grown hg (Nat.le_refl _) (fun k hk=>by cases hk)
  clear hm0 hg
  go_loopw [4] (fun i wr=>∃ k:Nat,k≤rs.length∧i=.int .i64 k∧wr.ownsRow w.heap.size 9 1 (.slice (some ⟨w.heap.size,0,none⟩) rs.length rs.length) rs.length (scells (halfS rs k))∧Below w.heap.size w wr) (fun i _=>rs.length - (intOf i).toNat)
  case atStart=>exact ⟨0,Nat.zero_le _,rfl,hown,hb1⟩
  case round =>
   obtain ⟨k,hk,rfl,ho,hbr⟩:=hrel
   clear hown hb1
   by_cases hlt:k<rs.length
   ·have c1:wr.cell? ⟨b,off+k,none⟩=some (.string ⟨(nth rs k).toArray⟩):=(hbr.cell (p:=⟨b,off+k,none⟩) hb).trans (HC.out k hlt)
    have hki:(k:Int)<(rs.length:Int):=by omega
    have HS:Hid _:=halfS_succ rs k hlt
    have HT:Hid _:=scells_set (halfS rs k) k (nth rs k)
    have hat:=scells_at (halfS rs k) k (by rw [halfS_len rs k hk];exact hlt)
    rw [halfS_at rs k hlt] at hat
    obtain ⟨s,hf⟩:∃ f,nth rs k=f:=⟨_,rfl⟩
    rw [hf] at c1 HS HT
    have c3:wr.cell? ⟨w.heap.size,k,none⟩=some (.string ⟨#[]⟩):=by rw [ho.cellAt k (by omega)];exact hat
    have c5:wr.frozen? ⟨w.heap.size,k,none⟩=false:=ho.frozenAt _
    have HR:Hid ((wr.setCell ⟨w.heap.size,k,none⟩ (.string ⟨s.toArray⟩)).ownsRow w.heap.size 9 1 (.slice (some ⟨w.heap.size,0,none⟩) rs.length rs.length) rs.length (scells (halfS rs (k+1)))):=by
     have R:=(ho.stored k (.string ⟨s.toArray⟩)).1
     rw [HT.out,HS.out] at R
     exact R
    clear ho hat hf
    go_wp2
    go_roundw
    case rel=>exact ⟨k+1,by omega,by go_num,HR.out,hbr.setCell (Nat.le_refl _) _⟩
    case measure=>simp [intOf];omega
   ·have:k=rs.length:=by omega
    subst this
    rw [halfS_all] at ho
    go_wp2
    go_ret
    exact ⟨rfl,ho,hbr⟩
theorem eqStringS_any (ao bo:Option Addr) (c1 c2:Nat) (xs ys:Recs) (w:World) (hx:TxtsAt w ao xs) (hy:TxtsAt w bo ys) (h1:xs.length≤1099511627776) (h2:ys.length≤1099511627776) :
  Calls Tryz.prog 17 #[.slice ao xs.length c1,.slice bo ys.length c2] w fun e w'=>e=.returned (.bool (decide (xs=ys)))∧Below w.heap.size w w':=by
 by_cases hl:xs.length=ys.length
 ·rcases hx with rfl | ⟨b,off,rfl,hb,hcx⟩
  ·have hy0:ys=[]:=List.eq_nil_of_length_eq_zero hl.symm
   subst hy0
   go_enter Tryz.func17,Tryz.ntmps17
   go_wp2
   refine wp_loop_rounds 1 ?_
   rw [rounds_succ]
   go_wp2
   go_ret
   exact ⟨rfl,Below.refl _ _⟩
  ·rcases hy with rfl | ⟨d,off2,rfl,hd,hcy⟩
   ·have hx0:xs=[]:=List.eq_nil_of_length_eq_zero hl
    subst hx0
    go_enter Tryz.func17,Tryz.ntmps17
    go_wp2
    refine wp_loop_rounds 1 ?_
    rw [rounds_succ]
    go_wp2
    go_ret
    exact ⟨rfl,Below.refl _ _⟩
   ·obtain ⟨n,hn⟩:∃ n,xs.length=n:=⟨_,rfl⟩
    have hn2:ys.length=n:=by omega
    rw [hn] at hcx h1 ⊢
    rw [hn2] at hcy ⊢
    have HX:Hid (xs.length=n):=hn
    have HY:Hid (ys.length=n):=hn2
    have HCX:Hid (∀ i,i<n→w.cell? ⟨b,off+i,none⟩=some (.string ⟨(nth xs i).toArray⟩)):=hcx
    have HCY:Hid (∀ i,i<n→w.cell? ⟨d,off2+i,none⟩=some (.string ⟨(nth ys i).toArray⟩)):=hcy
    clear hl hn hn2 hcx hcy
    go_enter Tryz.func17,Tryz.ntmps17
    go_wp2
    go_loopw [5] (fun i wr=>∃ k:Nat,k≤n∧i=.int .i64 k∧(∀ j,j<k→nth xs j=nth ys j)∧Below w.heap.size w wr) (fun i _=>n - (intOf i).toNat)
    case atStart=>exact ⟨0,Nat.zero_le _,rfl,fun j hj=>by omega,Below.refl _ _⟩
    case round =>
     obtain ⟨k,hk,rfl,hsame,hbr⟩:=hrel
     have HS:Hid (∀ j,j<k→nth xs j=nth ys j):=hsame
     clear hsame
     by_cases hlt:k<n
     ·have e1:wr.cell? ⟨b,off+k,none⟩=some (.string ⟨(nth xs k).toArray⟩):=(hbr.cell (p:=⟨b,off+k,none⟩) hb).trans (HCX.out k hlt)
      have e3:wr.cell? ⟨d,off2+k,none⟩=some (.string ⟨(nth ys k).toArray⟩):=(hbr.cell (p:=⟨d,off2+k,none⟩) hd).trans (HCY.out k hlt)
      have hki:(k:Int)<(n:Int):=by omega
      have HNE:Hid (nth xs k≠nth ys k→¬ xs=ys):=fun h e=>h (by rw [e])
      obtain ⟨s,hxk⟩:∃ x,nth xs k=x:=⟨_,rfl⟩
      obtain ⟨t,hyk⟩:∃ y,nth ys k=y:=⟨_,rfl⟩
      rw [hxk] at e1
      rw [hyk] at e3
      have HXK:Hid (nth xs k=s):=hxk
      have HYK:Hid (nth ys k=t):=hyk
      clear hxk hyk
      have hne:=over_ne wr
      have g1:=over_cell e1
      have g3:=over_cell e3
      by_cases hs1:s=t
      ·subst hs1
       have HY2:Hid (nth xs k=nth ys k):=by rw [Hid,HXK.out,HYK.out]
       have hss:(s == s)=true:=by simp
       clear HNE
       go_wp2
       refine wp_region_over (by kernel_rfl) (by kernel_rfl) ?_
       repeat (go_big_quiet_step (fail))
       refine wpQuiet_nil ?_
       rintro _ ⟨⟨w2,b2⟩,hw2⟩
       subst hw2
       go_wp2
       go_roundw
       case rel=>exact ⟨k+1,by omega,by go_num,fun j hj=>by rcases (show j<k∨j=k from by omega) with h | rfl;exact HS.out j h;exact HY2.out,hbr.trans (b2.mono hbr.size)⟩
       case measure=>simp [intOf];omega
      ·have hs2:(s == t)=false:=by simpa using hs1
       have HN:Hid (¬ xs=ys):=HNE.out (by rw [HXK.out,HYK.out];exact hs1)
       clear HNE hs1
       go_wp2
       refine wp_region_over (by kernel_rfl) (by kernel_rfl) ?_
       repeat (go_big_quiet_step (fail))
       refine wpQuiet_nil ?_
       rintro _ ⟨⟨w2,b2⟩,hw2⟩
       subst hw2
       go_wp2
       go_ret
       exact ⟨one_bool (by rw [decide_eq_false HN.out]),hbr.trans (b2.mono hbr.size)⟩
     ·have HE:Hid (xs=ys):=by
        apply List.ext_getElem (by rw [HX.out,HY.out])
        intro i g1 g2
        have:=HS.out i (by rw [HX.out] at g1;omega)
        simpa [nth,List.getD_eq_getElem?_getD,g1,g2] using this
      go_wp2
      go_ret
      exact ⟨one_bool (by rw [decide_eq_true HE.out]),hbr⟩
 ·have hne:((xs.length:Int) != (ys.length:Int))=true:=by simp;omega
  have HE:Hid (¬ xs=ys):=fun e=>hl (by rw [e])
  go_enter Tryz.func17,Tryz.ntmps17
  go_wp2
  go_ret
  exact ⟨one_bool (by rw [decide_eq_false HE.out]),Below.refl _ _⟩
def mkS (k n:Nat):Recs:=(List.range n).map fun i=>mtx (k+i)
theorem mkS_len (k n:Nat):(mkS k n).length=n:=by simp [mkS]
theorem mkS_at (k n i:Nat) (h:i<n):nth (mkS k n) i=mtx (k+i):=by simp [nth,mkS,List.getD_eq_getElem?_getD,h]
def fillS (rs:Recs) (k j:Nat):Recs:=mkS k j++rs.drop j
theorem fillS_len (rs:Recs) (k j:Nat) (h:j≤rs.length):(fillS rs k j).length=rs.length:=by simp [fillS,mkS_len];omega
theorem fillS_zero (rs:Recs) (k:Nat):fillS rs k 0=rs:=by simp [fillS,mkS]
theorem fillS_all (rs:Recs) (k:Nat):fillS rs k rs.length=mkS k rs.length:=by simp [fillS]
theorem fillS_succ (rs:Recs) (k j:Nat) (h:j<rs.length):(fillS rs k j).set j (mtx (k+j))=fillS rs k (j+1):=by
 unfold fillS
 rw [List.set_append,if_neg (by rw [mkS_len];omega),mkS_len,Nat.sub_self,List.drop_eq_getElem_cons h,List.set_cons_zero]
 simp [mkS,List.range_succ]
theorem grown_ofS {w w':World} (h:Below w.heap.size w w') (r:Option Nat):w.grownBy w' r:=⟨h.os,h.tape,h.output,h.size,fun k hk _=>h.block k hk⟩
theorem markText_isS (n:Nat) (x:Int) (hx:x=(n:Int)) (w:World) (h0:0<n) (hn:n≤1099511627776) :
  Calls Tryz.prog 56 #[.int .i64 x] w fun e w'=>e=.returned (.string ⟨(mtx n).toArray⟩)∧Below w.heap.size w w':=by
 rw [hx];exact markText_any n w h0 hn
theorem markStringS_any (ao:Option Addr) (cap base k:Nat) (rs:Recs) (w:World) (ho:w.ownsRow base 9 1 (.slice ao rs.length cap) rs.length (scells rs)) (hn:rs.length≤1099511627) (k1:0<k) (k2:k≤1099511627) :
  Calls Tryz.prog 19 #[.slice ao rs.length cap,.int .i64 k] w fun e w'=>e=.returned (.int .i64 (k+rs.length:Nat)) ∧
   w'.ownsRow base 9 1 (.slice ao rs.length cap) rs.length (scells (mkS k rs.length))∧w.grownBy w' (Value.slice ao rs.length cap).ownBlock:=by
 rcases ho.2 with ⟨hv,h0⟩ | ⟨g,cap',cur,hv,hrest⟩
 ·obtain rfl:rs=[]:=List.eq_nil_of_length_eq_zero h0
  obtain ⟨rfl,rfl⟩:ao=none∧cap=0:=by simpa using hv
  clear hv h0
  go_enter Tryz.func19,Tryz.ntmps19
  go_wp2
  refine wp_loop_rounds 1 ?_
  rw [rounds_succ]
  go_wp2
  go_ret
  exact ⟨one_int (by simp),World.ownsRow_nil _ _ _ _,World.grownBy.refl _ _⟩
 ·obtain ⟨rfl,rfl⟩:ao=some ⟨g,0,none⟩∧cap=cap':=by simpa using hv
  clear hv hrest
  go_enter Tryz.func19,Tryz.ntmps19
  go_wp2
  go_loopw [1,5] (fun c i wr=>∃ j:Nat,j≤rs.length∧i=.int .i64 j∧c=.int .i64 (k+j:Nat)∧wr.ownsRow base 9 1 (.slice (some ⟨g,0,none⟩) rs.length cap) rs.length (scells (fillS rs k j))∧w.grownBy wr (some g)) (fun _ i _=>rs.length - (intOf i).toNat)
  case atStart=>exact ⟨0,Nat.zero_le _,rfl,rfl,by rw [fillS_zero];exact ho,World.grownBy.refl _ _⟩
  case round =>
   obtain ⟨j,hj,rfl,rfl,hor,hgr⟩:=hrel
   clear ho
   by_cases hlt:j<rs.length
   ·have hji:(j:Int)<(rs.length:Int):=by omega
    have HOR:Hid (wr.ownsRow base 9 1 (.slice (some ⟨g,0,none⟩) rs.length cap) rs.length (scells (fillS rs k j))):=hor
    have HA:Hid _:=scells_at (fillS rs k j) j (by rw [fillS_len rs k j hj];exact hlt)
    have HS:Hid _:=scells_set (fillS rs k j) j (mtx (k+j))
    have HF:Hid _:=fillS_succ rs k j hlt
    have HG:Hid (w.grownBy wr (some g)):=hgr
    obtain ⟨m,hm⟩:∃ m:Nat,k+j=m:=⟨_,rfl⟩
    rw [hm] at HS HF ⊢
    have hmb:m≤3298534883:=by omega
    have hm0:0<m:=by omega
    have HM:Hid (k+(j+1)=m+1):=by rw [Hid];omega
    clear hor hgr hm
    go_wp2_with fail
    refine (markText_any m _ hm0 (by omega)).mono ?_
    rintro e w2 ⟨rfl,b2⟩
    have o2:=keepRowS HOR.out b2
    have c4:w2.cell? ⟨g,j,none⟩=some (.string ⟨(nth (fillS rs k j) j).toArray⟩):=by
     rw [o2.cellAt j (by omega)];exact HA.out
    have c5:w2.frozen? ⟨g,j,none⟩=false:=o2.frozenAt _
    have R2:=o2.stored j (.string ⟨(mtx m).toArray⟩)
    rw [HS.out,HF.out] at R2
    have HR2:Hid _:=R2.1
    have HG2:Hid (w.grownBy (w2.setCell ⟨g,j,none⟩ (.string ⟨(mtx m).toArray⟩)) (some g)):=(HG.out.trans (grown_ofS b2 _)).trans R2.2
    obtain ⟨os,hos⟩:∃ x,nth (fillS rs k j) j=x:=⟨_,rfl⟩
    rw [hos] at c4
    generalize mtx m=tx at HR2 HG2
    clear R2 o2 hos b2 HOR HG HS HF HA
    go_wp2
    go_roundw
    case rel=>exact ⟨j+1,by omega,by go_num,by rw [HM.out];go_num,HR2.out,HG2.out⟩
    case measure=>simp [intOf];omega
   ·have hjn:j=rs.length:=by omega
    subst hjn
    rw [fillS_all] at hor
    have HO:Hid _:=hor
    clear hor
    go_wp2
    go_ret
    exact ⟨rfl,HO.out,hgr⟩
theorem heldStringS_any (ao:Option Addr) (cap n k:Nat) (w:World) (hz:TxtsAt w ao (mkS k n)) (hn:n≤1099511627) (k1:0<k) (k2:k≤1099511627) :
  Calls Tryz.prog 64 #[.slice ao n cap,.int .i64 k] w fun e w'=>e=.returned (.int .i64 (k+n:Nat))∧Below w.heap.size w w':=by
 rcases hz with h0 | ⟨b,off,rfl,hb,hcell⟩
 ·have hn0:n=0:=by have:=mkS_len k n;rw [h0] at this;simpa using this.symm
  subst hn0
  clear h0
  go_enter Tryz.func64,Tryz.ntmps64
  go_wp2
  refine wp_loop_rounds 1 ?_
  rw [rounds_succ]
  go_wp2
  go_ret
  exact ⟨one_int (by simp),Below.refl _ _⟩
 ·rw [mkS_len] at hcell
  have HC:Hid (∀ i,i<n→w.cell? ⟨b,off+i,none⟩=some (.string ⟨(mtx (k+i)).toArray⟩)):=by
   intro i hi
   have:=hcell i hi
   rw [mkS_at k n i hi] at this
   exact this
  clear hcell
  go_enter Tryz.func64,Tryz.ntmps64
  go_wp2
  go_loopw [1,5] (fun c i wr=>∃ j:Nat,j≤n∧i=.int .i64 j∧c=.int .i64 (k+j:Nat)∧Below w.heap.size w wr) (fun _ i _=>n - (intOf i).toNat)
  case atStart=>exact ⟨0,Nat.zero_le _,rfl,rfl,Below.refl _ _⟩
  case round =>
   obtain ⟨j,hj,rfl,rfl,hbr⟩:=hrel
   by_cases hlt:j<n
   ·have hji:(j:Int)<(n:Int):=by omega
    have c2:wr.cell? ⟨b,off+j,none⟩=some (.string ⟨(mtx (k+j)).toArray⟩):=(hbr.cell (p:=⟨b,off+j,none⟩) hb).trans (HC.out j hlt)
    obtain ⟨m,hm⟩:∃ m:Nat,k+j=m:=⟨_,rfl⟩
    rw [hm] at c2 ⊢
    have hmb:m≤3298534883:=by omega
    have hm0:0<m:=by omega
    have HM:Hid (k+(j+1)=m+1):=by rw [Hid];omega
    clear hm
    have hne:=over_ne wr
    have g2:=over_cell c2
    go_wp2
    refine wp_region_over (by kernel_rfl) (by kernel_rfl) ?_
    repeat (go_big_quiet_step (exact over_of (markText_isS m _ rfl _ hm0 (by omega))))
    refine wpQuiet_nil ?_
    rintro _ ⟨⟨w2,b2⟩,hw2⟩
    subst hw2
    generalize mtx m=tx
    go_wp2
    go_roundw
    case rel=>exact ⟨j+1,by omega,by go_num,by rw [HM.out];go_num,hbr.trans (b2.mono hbr.size)⟩
    case measure=>simp [intOf];omega
   ·have hjn:j=n:=by omega
    subst hjn
    go_wp2
    go_ret
    exact ⟨rfl,hbr⟩
def IntsAt (w:World) (ao:Option Addr) (zs:List Int):Prop :=
 zs=[]∨∃ b off,ao=some ⟨b,off,none⟩∧b<w.heap.size∧∀ i,i<zs.length→w.cell? ⟨b,off+i,none⟩=some (.int .i64 (zs.getD i 0))
theorem IntsAt.below {w w':World} {ao:Option Addr} {zs:List Int} (h:IntsAt w ao zs) (hb:Below w.heap.size w w'):IntsAt w' ao zs:=by
 rcases h with h | ⟨b,off,h1,h2,h3⟩
 ·exact .inl h
 ·exact .inr ⟨b,off,h1,Nat.lt_of_lt_of_le h2 hb.size,fun i hi=>(hb.cell (p:=⟨b,off+i,none⟩) h2).trans (h3 i hi)⟩
theorem getD_take {zs:List Int} {len i:Nat} (h:i<len):(zs.take len).getD i 0=zs.getD i 0:=by
 simp [List.getD_eq_getElem?_getD,h]
theorem ints_of_row {w:World} {a:Option Addr} {len cap:Nat} {zs:List Int} (h:IsRow .i64 w a len cap zs):(zs.take len).length=len∧IntsAt w a (zs.take len):=by
 rcases h with ⟨rfl,rfl,rfl,rfl⟩ | ⟨x,rfl,hl,hm,hz,hcell,hwz⟩
 ·exact ⟨rfl,.inl rfl⟩
 ·have hlen:(zs.take len).length=len:=by rw [List.length_take];omega
  refine ⟨hlen,?_⟩
  by_cases h0:len=0
  ·subst h0;exact .inl (by simp)
  ·obtain ⟨b,off,spot⟩:=x
   have hc:=hcell 0 (by omega)
   have hspot:spot=none:=by simpa [Addr.add] using World.cell?_spot hc
   subst hspot
   refine .inr ⟨b,off,rfl,?_,fun i hi=>?_⟩
   ·exact World.block_lt_of_cell? w _ hc
   ·rw [hlen] at hi
    rw [getD_take hi]
    have:=hcell i (by omega)
    by_cases e:i=0
    ·subst e;simpa [Addr.add] using this
    ·simpa [Addr.add,e] using this
theorem ints_of_own {w:World} {base g n cap:Nat} {zs:List Int} (h:w.ownsRow base 3 1 (.slice (some ⟨g,0,none⟩) n cap) n (zs.map (Value.int .i64))):IntsAt w (some ⟨g,0,none⟩) zs:=by
 by_cases h0:zs=[]
 ·exact .inl h0
 ·have hl:zs.length=n:=by simpa using h.1
  have hp:0<zs.length:=List.length_pos_iff.2 h0
  have hc:∀ i,i<zs.length→w.cell? ⟨g,0+i,none⟩=some (.int .i64 (zs.getD i 0)):=by
   intro i hi
   rw [Nat.zero_add,h.cellAt i (by omega)]
   simp [List.getD_eq_getElem?_getD,hi]
  exact .inr ⟨g,0,rfl,World.block_lt_of_cell? w _ (hc 0 hp),hc⟩
theorem info3:(Tryz.prog.info? 3).map (fun i=>(i.zero,i.size,i.bytes))=some (some (.int .i64 0),1,8):=by kernel_rfl
def half (zs:List Int) (k:Nat):List Value:=(zs.take k).map (Value.int .i64)++List.replicate (zs.length - k) (.int .i64 0)
theorem half_zero (zs:List Int):half zs 0=List.replicate zs.length (.int .i64 0):=by simp [half]
theorem half_all (zs:List Int):half zs zs.length=zs.map (Value.int .i64):=by simp [half]
theorem half_succ (zs:List Int) (k:Nat) (h:k<zs.length):half zs (k+1)=(half zs k).set k (.int .i64 (zs.getD k 0)):=by
 apply List.ext_getElem?
 intro j
 simp only [half,List.getElem?_set,List.getElem?_append,List.length_map,List.length_take,List.getElem?_map,List.getElem?_take,List.getElem?_replicate,List.getD_eq_getElem?_getD,List.length_append,List.length_replicate]
 by_cases h1:j<k
 ·have:j<zs.length:=by omega
  have:¬ k=j:=by omega
  simp [*,Nat.min_eq_left (Nat.le_of_lt h),Nat.min_eq_left (show k+1≤zs.length by omega),show j<k+1 by omega]
 ·by_cases h2:j=k
  ·subst h2
   have:j<j+(zs.length - j):=by omega
   simp [*,Nat.min_eq_left (Nat.le_of_lt h),Nat.min_eq_left (show j+1≤zs.length by omega)]
  ·have:¬ k=j:=by omega
   have a1:¬ j<k+1:=by omega
   simp [*,Nat.min_eq_left (Nat.le_of_lt h),Nat.min_eq_left (show k+1≤zs.length by omega)]
   by_cases h3:j<zs.length
   ·rw [if_pos (by omega),if_pos (by omega)]
   ·rw [if_neg (by omega),if_neg (by omega)]
theorem half_at (zs:List Int) (k:Nat) (h:k<zs.length):(half zs k)[k]?=some (.int .i64 0):=by
 simp [half,List.getElem?_append,Nat.min_eq_left (Nat.le_of_lt h),List.getElem?_replicate]
 omega
theorem toIntS_any (ao:Option Addr) (cap:Nat) (zs:List Int) (w:World) (hz:IntsAt w ao zs) (hn:zs.length≤1048576) :
  Calls Tryz.prog 12 #[.slice ao zs.length cap] w fun e w'=>e=.returned (.slice (some ⟨w.heap.size,0,none⟩) zs.length zs.length) ∧
   w'.ownsRow w.heap.size 3 1 (.slice (some ⟨w.heap.size,0,none⟩) zs.length zs.length) zs.length (zs.map (Value.int .i64))∧Below w.heap.size w w':=by
 obtain ⟨i0,hi,hz0,hz1,hz2⟩:=info_parts info3
 rcases hz with rfl | ⟨b,off,rfl,hb,hcell⟩
 ·go_enter Tryz.func12,Tryz.ntmps12
  go_wp2_with (refine wpList_make_full _ rfl (.tmp 6) (.tmp 6) 22 rfl w.heap.size 3 i0 (.int .i64 0) 1 Tryz.underlying22 hi hz0 hz1 .i64 .i64 _ _ 0 rfl rfl rfl rfl (by rw [hz2];omega) (by unfold maxLen;omega) (Nat.le_refl _) ?_;intro w1 hown hg)
  refine wp_loop_rounds 1 ?_
  rw [rounds_succ]
  go_wp2
  go_ret
  exact ⟨rfl,by simpa [madeCells] using hown,(Below.refl _ _).grown hg (Nat.le_refl _) (fun k hk=>by cases hk)⟩
 ·have hm0:(madeCells (Value.int .i64 0).cells (zs.length*1)).toList=half zs 0:=by
    rw [half_zero,Nat.mul_one];exact toList_madeCells_one _ _
  go_enter Tryz.func12,Tryz.ntmps12
  go_wp2_with (refine wpList_make_full _ rfl (.tmp 6) (.tmp 6) 22 rfl w.heap.size 3 i0 (.int .i64 0) 1 Tryz.underlying22 hi hz0 hz1 .i64 .i64 _ _ zs.length rfl rfl rfl rfl (by rw [hz2];omega) (by unfold maxLen;omega) (Nat.le_refl _) ?_;intro w1 hown hg)
  rw [hm0] at hown
  have hb1:Below w.heap.size w w1:=(Below.refl _ _).grown hg (Nat.le_refl _) (fun k hk=>by cases hk)
  clear hm0 hg
  go_loopw [4] (fun i wr=>∃ k:Nat,k≤zs.length∧i=.int .i64 k∧wr.ownsRow w.heap.size 3 1 (.slice (some ⟨w.heap.size,0,none⟩) zs.length zs.length) zs.length (half zs k)∧Below w.heap.size w wr) (fun i _=>zs.length - (intOf i).toNat)
  case atStart=>exact ⟨0,Nat.zero_le _,rfl,hown,hb1⟩
  case round =>
   obtain ⟨k,hk,rfl,ho,hbr⟩:=hrel
   by_cases hlt:k<zs.length
   ·have c1:wr.cell? ⟨b,off+k,none⟩=some (.int .i64 (zs.getD k 0)):=(hbr.cell (p:=⟨b,off+k,none⟩) hb).trans (hcell k hlt)
    have c2:wr.cell? ⟨w.heap.size,k,none⟩=some (.int .i64 0):=by rw [ho.cellAt k (by omega),half_at zs k hlt]
    have c3:wr.frozen? ⟨w.heap.size,k,none⟩=false:=ho.frozenAt k
    obtain ⟨c,hc⟩:∃ c,zs.getD k 0=c:=⟨_,rfl⟩
    rw [hc] at c1
    have R:=ho.stored k (.int .i64 c)
    rw [← hc,← half_succ zs k hlt,hc] at R
    have HR:Hid ((wr.setCell ⟨w.heap.size,k,none⟩ (.int .i64 c)).ownsRow w.heap.size 3 1 (.slice (some ⟨w.heap.size,0,none⟩) zs.length zs.length) zs.length (half zs (k+1))):=R.1
    clear R hc hcell ho hown
    go_wp2
    go_roundw
    case rel=>exact ⟨k+1,by omega,by go_num,HR.out,hbr.setCell (Nat.le_refl _) _⟩
    case measure=>simp [intOf];omega
   ·have:k=zs.length:=by omega
    subst this
    rw [half_all] at ho
    clear hcell
    go_wp2
    go_ret
    exact ⟨rfl,ho,hbr⟩
theorem eq_of_getD {xs ys:List Int} (hl:xs.length=ys.length) (h:∀ j,j<xs.length→xs.getD j 0=ys.getD j 0):xs=ys:=by
 apply List.ext_getElem hl
 intro i h1 h2
 have:=h i h1
 simpa [List.getD_eq_getElem?_getD,h1,h2] using this
theorem eqIntS_any (ao bo:Option Addr) (c1 c2:Nat) (xs ys:List Int) (w:World) (hx:IntsAt w ao xs) (hy:IntsAt w bo ys) (h1:xs.length≤1099511627776) (h2:ys.length≤1099511627776) :
  Calls Tryz.prog 16 #[.slice ao xs.length c1,.slice bo ys.length c2] w fun e w'=>e=.returned (.bool (decide (xs=ys)))∧Below w.heap.size w w':=by
 by_cases hl:xs.length=ys.length
 ·rcases hx with rfl | ⟨b,off,rfl,hb,hcx⟩
  ·have hy0:ys=[]:=List.eq_nil_of_length_eq_zero hl.symm
   subst hy0
   go_enter Tryz.func16,Tryz.ntmps16
   go_wp2
   refine wp_loop_rounds 1 ?_
   rw [rounds_succ]
   go_wp2
   go_ret
   exact ⟨rfl,Below.refl _ _⟩
  ·rcases hy with rfl | ⟨d,off2,rfl,hd,hcy⟩
   ·have hx0:xs=[]:=List.eq_nil_of_length_eq_zero hl
    subst hx0
    go_enter Tryz.func16,Tryz.ntmps16
    go_wp2
    refine wp_loop_rounds 1 ?_
    rw [rounds_succ]
    go_wp2
    go_ret
    exact ⟨rfl,Below.refl _ _⟩
   ·obtain ⟨n,hn⟩:∃ n,xs.length=n:=⟨_,rfl⟩
    have hn2:ys.length=n:=by omega
    rw [hn] at hcx h1 ⊢
    rw [hn2] at hcy ⊢
    have HX:Hid (xs.length=n):=hn
    have HY:Hid (ys.length=n):=hn2
    clear hl hn hn2
    go_enter Tryz.func16,Tryz.ntmps16
    go_wp2
    go_loopw [5] (fun i wr=>∃ k:Nat,k≤n∧i=.int .i64 k∧(∀ j,j<k→xs.getD j 0=ys.getD j 0)∧Below w.heap.size w wr) (fun i _=>n - (intOf i).toNat)
    case atStart=>exact ⟨0,Nat.zero_le _,rfl,fun j hj=>by omega,Below.refl _ _⟩
    case round =>
     obtain ⟨k,hk,rfl,hsame,hbr⟩:=hrel
     have HS:Hid (∀ j,j<k→xs.getD j 0=ys.getD j 0):=hsame
     clear hsame
     by_cases hlt:k<n
     ·have e1:wr.cell? ⟨b,off+k,none⟩=some (.int .i64 (xs.getD k 0)):=(hbr.cell (p:=⟨b,off+k,none⟩) hb).trans (hcx k hlt)
      have e2:wr.cell? ⟨d,off2+k,none⟩=some (.int .i64 (ys.getD k 0)):=(hbr.cell (p:=⟨d,off2+k,none⟩) hd).trans (hcy k hlt)
      have hki:(k:Int)<(n:Int):=by omega
      obtain ⟨x,hxk⟩:∃ x,xs.getD k 0=x:=⟨_,rfl⟩
      obtain ⟨y,hyk⟩:∃ y,ys.getD k 0=y:=⟨_,rfl⟩
      rw [hxk] at e1
      rw [hyk] at e2
      have HXK:Hid (xs.getD k 0=x):=hxk
      have HYK:Hid (ys.getD k 0=y):=hyk
      clear hxk hyk hcx hcy
      cases hne:(x != y)
      ·have HE:Hid (xs.getD k 0=ys.getD k 0):=by rw [Hid,HXK.out,HYK.out];simpa using hne
       go_wp2
       go_quiet (fail)
       go_wp2
       go_roundw
       case rel=>exact ⟨k+1,by omega,by go_num,fun j hj=>by rcases (show j<k∨j=k from by omega) with h | rfl;exact HS.out j h;exact HE.out,below_drewN hbr _⟩
       case measure=>simp [intOf];omega
      ·have HE:Hid (¬ xs=ys):=fun e=>by subst e;rw [← HXK.out,← HYK.out] at hne;simp at hne
       go_wp2
       go_quiet (fail)
       go_wp2
       go_ret
       exact ⟨one_bool (by simpa using HE.out),below_drewN hbr _⟩
     ·have HE:Hid (xs=ys):=eq_of_getD (by rw [HX.out,HY.out]) (fun j hj=>HS.out j (by rw [HX.out] at hj;omega))
      clear hcx hcy
      go_wp2
      go_ret
      exact ⟨one_bool (by simpa using HE.out),hbr⟩
 ·have hne:((xs.length:Int) != (ys.length:Int))=true:=by simp;omega
  have HE:Hid (¬ xs=ys):=fun e=>hl (by rw [e])
  go_enter Tryz.func16,Tryz.ntmps16
  go_wp2
  go_ret
  exact ⟨one_bool (by simpa using HE.out),Below.refl _ _⟩
theorem own_ints {w:World} {base:Nat} {v:Value} {zs:List Int} (h:w.ownsRow base 3 1 v zs.length (zs.map (Value.int .i64))) :
  ∃ ao cap,v=.slice ao zs.length cap∧IntsAt w ao zs:=by
 rcases h.2 with ⟨rfl,h0⟩ | ⟨g,cap,cur,rfl,hrest⟩
 ·have:zs=[]:=List.eq_nil_of_length_eq_zero h0
  subst this
  exact ⟨none,0,rfl,.inl rfl⟩
 ·exact ⟨_,cap,rfl,ints_of_own h⟩
theorem own_shape {w:World} {base m:Nat} {v:Value} {xs:List Value} (h:w.ownsRow base 3 1 v m xs):∃ ao cap,v=.slice ao m cap:=by
 rcases h.2 with ⟨rfl,rfl⟩ | ⟨g,cap,cur,rfl,hrest⟩
 ·exact ⟨none,0,rfl⟩
 ·exact ⟨_,cap,rfl⟩
theorem ints_own {w:World} {base n cap:Nat} {ao:Option Addr} {zs:List Int} (h:w.ownsRow base 3 1 (.slice ao n cap) n (zs.map (Value.int .i64))):IntsAt w ao zs:=by
 have hl:zs.length=n:=by simpa using h.1
 subst hl
 obtain ⟨ao',c,hv,hz⟩:=own_ints h
 obtain ⟨rfl,_⟩:ao=ao'∧cap=c:=by simpa using hv
 exact hz
theorem auths_news {w:World} {b off:Nat} {xs:List Au} (h:AuthsAt w (some ⟨b,off,none⟩) xs):∀ j u,(acells xs)[j]?=some u→w.cell? ((⟨b,off,none⟩:Addr).add j)=some u:=by
 intro j u hj
 have hlt:j<xs.length*6:=by
  rw [← acells_len]
  exact (List.getElem?_eq_some_iff.1 hj).1
 rcases h with rfl | ⟨b',off',hq,hb,hc⟩
 ·simp at hlt
 ·obtain ⟨rfl,rfl⟩:b=b'∧off=off':=by simpa using hq
  have e:((⟨b,off,none⟩:Addr).add j)=⟨b,off+j,none⟩:=by unfold Addr.add;split <;> simp_all
  obtain ⟨k0,k1,k2,k3,k4,k5⟩:=hc (j / 6) (by omega)
  obtain ⟨f0,f1,f2,f3,f4,f5⟩:=acells_at xs (j / 6) (by omega)
  rw [e]
  rcases (show j % 6=0∨j % 6=1∨j % 6=2∨j % 6=3∨j % 6=4∨j % 6=5 by omega) with e | e | e | e | e | e
  ·rw [show j=j / 6*6 by omega,f0] at hj
   rw [show off+j=off+j / 6*6 by omega,k0]
   exact hj
  ·rw [show j=j / 6*6+1 by omega,f1] at hj
   rw [show off+j=off+j / 6*6+1 by omega,k1]
   exact hj
  ·rw [show j=j / 6*6+2 by omega,f2] at hj
   rw [show off+j=off+j / 6*6+2 by omega,k2]
   exact hj
  ·rw [show j=j / 6*6+3 by omega,f3] at hj
   rw [show off+j=off+j / 6*6+3 by omega,k3]
   exact hj
  ·rw [show j=j / 6*6+4 by omega,f4] at hj
   rw [show off+j=off+j / 6*6+4 by omega,k4]
   exact hj
  ·rw [show j=j / 6*6+5 by omega,f5] at hj
   rw [show off+j=off+j / 6*6+5 by omega,k5]
   exact hj
theorem run_append_auths (w:World) (base:Nat) (ty:TypeId) (v:Value) (n:Nat) (xs:List Value) (hown:w.ownsRow base 107 6 v n xs) (ao:Option Addr) (c:Nat) (az:List Au) (hz:AuthsAt w ao az)
  (hn:n+az.length≤5000000) (hbase:base≤w.heap.size) :
  ∃ v' w',(Builtin.append_ #[25,25] ty #[v,.slice ao az.length c]).run Tryz.prog w=.ok v' w'∧w'.ownsRow base 107 6 v' (n+az.length) (xs++acells az)∧w.grownBy w' v.ownBlock ∧
   (v≠.slice none 0 0→v'≠.slice none 0 0):=by
 obtain ⟨i0,hi,hz0,hz1,hz2⟩:=info_parts infoA
 cases ao with
 | none =>
  have hf:az=[]:=by
   rcases hz with h | ⟨b,off,h,_⟩
   ·exact h
   ·cases h
  subst hf
  refine ⟨v,w,?_,by simpa [acells] using hown,⟨rfl,rfl,rfl,Nat.le_refl _,fun _ _ _=>rfl⟩,id⟩
  have hu:=Tryz.underlying25
  rcases hown.2 with ⟨rfl,rfl⟩ | ⟨g,cap,cur,rfl,hbg,hg,hnc,hcm,hcs,htake⟩
  ·simp [Builtin.append_,run_underlying hu,sizeOf,typeInfo,hi,Builtin.lenOf,Builtin.firstCells]
  ·simp [Builtin.append_,run_underlying hu,sizeOf,typeInfo,hi,Builtin.lenOf,Builtin.firstCells,loadCells,hnc,storeCells]
 | some a =>
  have hnews:∀ j u,(acells az)[j]?=some u→w.cell? (a.add j)=some u:=by
   rcases hz with rfl | ⟨b,off,hq,hb,hc⟩
   ·intro j u hj;simp [acells] at hj
   ·obtain rfl:a=⟨b,off,none⟩:=by simpa using hq
    exact auths_news (.inr ⟨b,off,rfl,hb,hc⟩)
  obtain ⟨v',w',h1,h2,h3,h4,_⟩:=run_append_own_at (P:=Tryz.prog) w base 25 ty 107 i0 _ 6 56 Tryz.underlying25 hi hz0 hz1 hz2 rfl (by decide) v n xs hown a az.length c (acells az) (acells_len az) hnews (acells_one az) (by unfold maxLen;omega) (by omega) hbase
  exact ⟨v',w',h1,h2,h3,fun hne h=>hne (h4.1 h).1⟩
theorem wpList_append_auths {ops:Array Oper} {rest:List Oper} {o:Oper} {a:Act} {Q:Exit→Act→World→Prop} (w:World) (hgd:o.guard=none) (s x:Operand)
  (ho:o.op=.call { callee:=.builtin .append,args:=#[s,x],argTypes:=#[25,25] }) (base:Nat) (v:Value) (n:Nat) (xs:List Value) (hs:a.eval s=v) (hown:w.ownsRow base 107 6 v n xs)
  (ao:Option Addr) (c:Nat) (az:List Au) (hx:a.eval x=.slice ao az.length c) (hz:AuthsAt w ao az) (hn:n+az.length≤5000000) (hbase:base≤w.heap.size)
  (h:∀ v' w',w'.ownsRow base 107 6 v' (n+az.length) (xs++acells az)→w.grownBy w' v.ownBlock→(v≠.slice none 0 0→v'≠.slice none 0 0)→wpList Tryz.prog ops Q rest (a.put o.dst v') w'):wpList Tryz.prog ops Q (o::rest) a w:=by
 obtain ⟨v',w',hr,h1,h2,h3⟩:=run_append_auths w base o.type v n xs hown ao c az hz hn hbase
 exact Lib.wpList_append_run w hgd s x _ _ ho _ _ hs hx v' w' hr (h v' w' h1 h2 h3)
theorem auLit (w:World):(w.alloc (.cells #[] 107)).ownsRow w.heap.size 107 6 (.slice (some ⟨w.heap.size,0,none⟩) 0 0) 0 []:=World.ownsRow_lit w #[] 0 (Nat.le_refl _) (by unfold maxLen;omega) rfl
theorem auShape {w:World} {base n:Nat} {v:Value} {xs:List Value} (h:w.ownsRow base 107 6 v n xs):∃ ao cap,v=.slice ao n cap:=by
 rcases h.2 with ⟨rfl,rfl⟩ | ⟨g,c,cur,rfl,_⟩
 ·exact ⟨none,0,rfl⟩
 ·exact ⟨_,c,rfl⟩
theorem au_notnil {w:World} {base n:Nat} {v:Value} {xs:List Value} (h:w.ownsRow base 107 6 v n xs) (hv:v≠.slice none 0 0):∃ g c,v=.slice (some ⟨g,0,none⟩) n c:=by
 rcases h.2 with ⟨h,_⟩ | ⟨g,c,cur,h,_⟩
 ·exact absurd h hv
 ·exact ⟨g,c,h⟩
def AuR2 (u:World) (L:List Au) (q:Bool) (e:Ending) (u':World):Prop :=
 ∃ ao cap,e=.returned (.tuple #[.slice ao L.length cap,.bool q])∧u'.ownsRow u.heap.size 107 6 (.slice ao L.length cap) L.length (acells L)∧Below u.heap.size u u'
def AuR1 (u:World) (L:List Au) (e:Ending) (u':World):Prop :=
 ∃ ao cap,e=.returned (.slice ao L.length cap)∧u'.ownsRow u.heap.size 107 6 (.slice ao L.length cap) L.length (acells L)∧Below u.heap.size u u'
theorem txts_news {w:World} {a:Addr} {rs:Recs} (h:TxtsAt w (some a) rs):∀ j u,(scells rs)[j]?=some u→w.cell? (a.add j)=some u:=by
 intro j u hj
 have hl:j<rs.length:=by
  rcases Nat.lt_or_ge j rs.length with h' | h'
  ·exact h'
  ·rw [List.getElem?_eq_none (by rw [scells_len];exact h')] at hj;cases hj
 rcases h with h | ⟨b,off,h1,h2,h3⟩
 ·rw [h] at hl;simp at hl
 ·injection h1 with h1
  subst h1
  have e:=h3 j hl
  have hu:u=.string ⟨(nth rs j).toArray⟩:=by
   rw [scells_at rs j hl] at hj
   exact (Option.some.inj hj).symm
  rw [hu]
  by_cases e0:j=0
  ·subst e0;rw [Addr.add,if_pos rfl];exact e
  ·rw [Addr.add,if_neg e0];exact e
theorem run_append_txtsAt (w:World) (base:Nat) (ty:TypeId) (v:Value) (n:Nat) (cs:List Value) (hown:w.ownsRow base 9 1 v n cs) (ao:Option Addr) (c:Nat) (rs:Recs) (hz:TxtsAt w ao rs)
  (hn:n+rs.length≤4000000) (hbase:base≤w.heap.size) :
  ∃ v' w',(Builtin.append_ #[23,23] ty #[v,.slice ao rs.length c]).run Tryz.prog w=.ok v' w'∧w'.ownsRow base 9 1 v' (n+rs.length) (cs++scells rs)∧w.grownBy w' v.ownBlock:=by
 obtain ⟨i0,hi,hz0,hz1,hz2⟩:=info_parts infoS
 cases ao with
 | none =>
  have hf:rs=[]:=by
   rcases hz with h | ⟨b,off,h,_⟩
   ·exact h
   ·cases h
  subst hf
  refine ⟨v,w,?_,by simpa [scells] using hown,⟨rfl,rfl,rfl,Nat.le_refl _,fun _ _ _=>rfl⟩⟩
  have hu:=Tryz.underlying23
  rcases hown.2 with ⟨rfl,rfl⟩ | ⟨g,cap,cur,rfl,hbg,hg,hnc,hcm,hcs,htake⟩
  ·simp [Builtin.append_,run_underlying hu,sizeOf,typeInfo,hi,Builtin.lenOf,Builtin.firstCells]
  ·simp [Builtin.append_,run_underlying hu,sizeOf,typeInfo,hi,Builtin.lenOf,Builtin.firstCells,loadCells,hnc,storeCells]
 | some a =>
  obtain ⟨v',w',h1,h2,h3,_,_⟩:=run_append_own_at (P:=Tryz.prog) w base 23 ty 9 i0 _ 1 16 Tryz.underlying23 hi hz0 hz1 hz2 rfl (by decide) v n cs hown a rs.length c (scells rs) (by simp [scells_len]) (txts_news hz) (scells_one rs) (by unfold maxLen;omega) (by omega) hbase
  exact ⟨v',w',h1,h2,h3⟩
theorem wpList_append_txtsAt {ops:Array Oper} {rest:List Oper} {o:Oper} {a:Act} {Q:Exit→Act→World→Prop} (w:World) (hgd:o.guard=none) (s x:Operand)
  (ho:o.op=.call { callee:=.builtin .append,args:=#[s,x],argTypes:=#[23,23] }) (base:Nat) (v:Value) (n:Nat) (cs:List Value) (hs:a.eval s=v) (hown:w.ownsRow base 9 1 v n cs)
  (ao:Option Addr) (c:Nat) (rs:Recs) (hx:a.eval x=.slice ao rs.length c) (hz:TxtsAt w ao rs) (hn:n+rs.length≤4000000) (hbase:base≤w.heap.size)
  (h:∀ v' w',w'.ownsRow base 9 1 v' (n+rs.length) (cs++scells rs)→w.grownBy w' v.ownBlock→wpList Tryz.prog ops Q rest (a.put o.dst v') w') :
  wpList Tryz.prog ops Q (o::rest) a w:=by
 refine wpList_plain hgd fun K hK=>?_
 obtain ⟨v',w',hr,h2,h3⟩:=run_append_txtsAt w base o.type v n cs hown ao c rs hz hn hbase
 unfold Oper.wp execOp
 simp only [ho,resolve,invoke,builtin,Sem.run_bind,Sem.run_pure,Result.andThen_ok,List.map_toArray,List.map_cons,List.map_nil,hs,hx,hr]
 exact hK _ _ (h v' w' h2 h3)
theorem ints_news {w:World} {a:Addr} {zs:List Int} (h:IntsAt w (some a) zs):∀ j u,(zs.map (Value.int .i64))[j]?=some u→w.cell? (a.add j)=some u:=by
 intro j u hj
 have hl:j<zs.length:=by
  rcases Nat.lt_or_ge j zs.length with h' | h'
  ·exact h'
  ·rw [List.getElem?_eq_none (by simpa using h')] at hj;cases hj
 rcases h with h | ⟨b,off,h1,h2,h3⟩
 ·rw [h] at hl;simp at hl
 ·injection h1 with h1
  subst h1
  have e:=h3 j hl
  have hu:u=.int .i64 (zs.getD j 0):=by
   rw [List.getElem?_map,List.getElem?_eq_getElem hl] at hj
   simp at hj
   rw [← hj]
   simp [List.getD_eq_getElem?_getD,hl]
  rw [hu]
  by_cases e0:j=0
  ·subst e0;rw [Addr.add,if_pos rfl];exact e
  ·rw [Addr.add,if_neg e0];exact e
theorem intv_one (zs:List Int):∀ u ∈ zs.map (Value.int .i64),u.oneCell'=true:=by
 intro u hu
 simp at hu
 obtain ⟨x,_,rfl⟩:=hu
 rfl
theorem run_append_intsAt (w:World) (base:Nat) (ty:TypeId) (v:Value) (n:Nat) (cs:List Value) (hown:w.ownsRow base 3 1 v n cs) (ao:Option Addr) (c:Nat) (zs:List Int) (hz:IntsAt w ao zs)
  (hn:n+zs.length≤4000000) (hbase:base≤w.heap.size) :
  ∃ v' w',(Builtin.append_ #[22,22] ty #[v,.slice ao zs.length c]).run Tryz.prog w=.ok v' w'∧w'.ownsRow base 3 1 v' (n+zs.length) (cs++zs.map (Value.int .i64))∧w.grownBy w' v.ownBlock:=by
 obtain ⟨i0,hi,hz0,hz1,hz2⟩:=info_parts info3
 cases ao with
 | none =>
  have hf:zs=[]:=by
   rcases hz with h | ⟨b,off,h,_⟩
   ·exact h
   ·cases h
  subst hf
  refine ⟨v,w,?_,by simpa using hown,⟨rfl,rfl,rfl,Nat.le_refl _,fun _ _ _=>rfl⟩⟩
  have hu:=Tryz.underlying22
  rcases hown.2 with ⟨rfl,rfl⟩ | ⟨g,cap,cur,rfl,hbg,hg,hnc,hcm,hcs,htake⟩
  ·simp [Builtin.append_,run_underlying hu,sizeOf,typeInfo,hi,Builtin.lenOf,Builtin.firstCells]
  ·simp [Builtin.append_,run_underlying hu,sizeOf,typeInfo,hi,Builtin.lenOf,Builtin.firstCells,loadCells,hnc,storeCells]
 | some a =>
  obtain ⟨v',w',h1,h2,h3,_,_⟩:=run_append_own_at (P:=Tryz.prog) w base 22 ty 3 i0 _ 1 8 Tryz.underlying22 hi hz0 hz1 hz2 rfl (by decide) v n cs hown a zs.length c (zs.map (Value.int .i64)) (by simp) (ints_news hz) (intv_one zs) (by unfold maxLen;omega) (by omega) hbase
  exact ⟨v',w',h1,h2,h3⟩
theorem wpList_append_intsAt {ops:Array Oper} {rest:List Oper} {o:Oper} {a:Act} {Q:Exit→Act→World→Prop} (w:World) (hgd:o.guard=none) (s x:Operand)
  (ho:o.op=.call { callee:=.builtin .append,args:=#[s,x],argTypes:=#[22,22] }) (base:Nat) (v:Value) (n:Nat) (cs:List Value) (hs:a.eval s=v) (hown:w.ownsRow base 3 1 v n cs)
  (ao:Option Addr) (c:Nat) (zs:List Int) (hx:a.eval x=.slice ao zs.length c) (hz:IntsAt w ao zs) (hn:n+zs.length≤4000000) (hbase:base≤w.heap.size)
  (h:∀ v' w',w'.ownsRow base 3 1 v' (n+zs.length) (cs++zs.map (Value.int .i64))→w.grownBy w' v.ownBlock→wpList Tryz.prog ops Q rest (a.put o.dst v') w') :
  wpList Tryz.prog ops Q (o::rest) a w:=by
 refine wpList_plain hgd fun K hK=>?_
 obtain ⟨v',w',hr,h2,h3⟩:=run_append_intsAt w base o.type v n cs hown ao c zs hz hn hbase
 unfold Oper.wp execOp
 simp only [ho,resolve,invoke,builtin,Sem.run_bind,Sem.run_pure,Result.andThen_ok,List.map_toArray,List.map_cons,List.map_nil,hs,hx,hr]
 exact hK _ _ (h v' w' h2 h3)
theorem joinI_any (g:Nat) (ao:Option Addr) (cap:Nat) (zs:List Int) (w:World) (hc:w.cell? ⟨g,0,none⟩=some (.slice ao zs.length cap)) (hz:IntsAt w ao zs) (hn:zs.length≤1048577) :
  Calls Tryz.prog 101 #[.slice (some ⟨g,0,none⟩) 1 1] w fun e w'=>∃ a2 k2,e=.returned (.slice a2 zs.length k2) ∧
   w'.ownsRow w.heap.size 3 1 (.slice a2 zs.length k2) zs.length (zs.map (Value.int .i64))∧Below w.heap.size w w':=by
 have HZ:Hid (IntsAt w ao zs):=hz
 clear hz
 go_enter Tryz.func101,Tryz.ntmps101
 go_wp2
 refine wp_loop_rounds 2 ?_
 rw [rounds_succ]
 go_wp2_with (at_builtin;refine wpList_append_intsAt _ rfl (.tmp 12) (.tmp 13) rfl w.heap.size _ 0 [] rfl (World.ownsRow_nil _ _ _ _) ao cap zs rfl HZ.out (by omega) (Nat.le_refl _) ?_;intro v2 w2 o2 g2)
 have q2:Below w.heap.size w w2:=(Below.refl _ _).grown g2 (Nat.le_refl _) (fun k hk=>by cases hk)
 rw [Nat.zero_add,List.nil_append] at o2
 obtain ⟨a2,k2,hv2⟩:=own_shape o2
 subst hv2
 have HO2:Hid (w2.ownsRow w.heap.size 3 1 (.slice a2 zs.length k2) zs.length (zs.map (Value.int .i64))):=o2
 clear o2 g2 HZ hc
 go_wp2
 rw [rounds_succ]
 go_wp2
 go_ret
 exact ⟨a2,k2,rfl,HO2.out,q2⟩
def scanW (l:List UInt8):Nat→Recs×Nat
 | 0=>([],0)
 | i+1=>if l.getD i 0=32 then ((scanW l i).1++[(l.drop (scanW l i).2).take (i - (scanW l i).2)],i+1) else scanW l i
def wordsW (l:List UInt8):Recs:=(scanW l l.length).1++[l.drop (scanW l l.length).2]
theorem scanW_le (l:List UInt8):∀ i,(scanW l i).2≤i∧(scanW l i).1.length≤i
 | 0=>⟨Nat.le_refl _,Nat.le_refl _⟩
 | i+1=>by
  have:=scanW_le l i
  unfold scanW
  split
  ·refine ⟨Nat.le_refl _,?_⟩
   simp;omega
  ·omega
theorem scanW_yes {l:List UInt8} {i:Nat} (h:l.getD i 0=32):scanW l (i+1)=((scanW l i).1++[(l.drop (scanW l i).2).take (i - (scanW l i).2)],i+1):=by rw [scanW,if_pos h]
theorem scanW_no {l:List UInt8} {i:Nat} (h:l.getD i 0≠32):scanW l (i+1)=scanW l i:=by rw [scanW,if_neg h]
theorem wordsW_len (l:List UInt8):1≤(wordsW l).length∧(wordsW l).length≤l.length+1:=by
 have:=scanW_le l l.length
 rw [wordsW,List.length_append];simp;omega
theorem scanW_short (l:List UInt8):∀ i,∀ r ∈ (scanW l i).1,r.length≤l.length
 | 0=>fun r h=>by cases h
 | i+1=>fun r h=>by
  unfold scanW at h
  split at h
  ·rcases List.mem_append.1 h with h | h
   ·exact scanW_short l i r h
   ·rw [List.mem_singleton.1 h];simp;omega
  ·exact scanW_short l i r h
theorem wordsW_short (l:List UInt8):∀ r ∈ wordsW l,r.length≤l.length:=by
 intro r h
 rcases List.mem_append.1 h with h | h
 ·exact scanW_short l _ r h
 ·rw [List.mem_singleton.1 h];simp
theorem sWords_any (l:List UInt8) (w:World) (hl:l.length≤1048576) :
  Calls Tryz.prog 139 #[.string ⟨l.toArray⟩] w fun e w'=>∃ a k,e=.returned (.slice a (wordsW l).length k)∧w'.ownsRow w.heap.size 9 1 (.slice a (wordsW l).length k) (wordsW l).length (scells (wordsW l))∧Below w.heap.size w w':=by
 obtain ⟨i0,hi,hz0,hz1,hz2⟩:=info_parts infoS
 have HO0:Hid ((w.alloc (.cells #[] 9)).ownsRow w.heap.size 9 1 (.slice (some ⟨w.heap.size,0,none⟩) 0 0) 0 (scells [])):=by
  have h:=World.ownsRow_lit (base:=w.heap.size) (e:=9) (size:=1) w #[] 0 (Nat.le_refl _) (by unfold maxLen;omega) rfl
  rw [Hid];simpa [scells] using h
 have HBA:Hid (Below w.heap.size w (w.alloc (.cells #[] 9))):=(Below.refl _ _).alloc (Nat.le_refl _) _
 have HWE:Hid (wordsW l=(scanW l l.length).1++[l.drop (scanW l l.length).2]):=rfl
 obtain ⟨WW,hWW⟩:∃ x,wordsW l=x:=⟨_,rfl⟩
 rw [hWW] at HWE ⊢
 clear hWW
 go_enter Tryz.func139,Tryz.ntmps139
 go_wp2
 go_loopw [3,4,5] (fun s f i wr=>∃ (v:Value) (k:Nat),v=s∧k≤l.length∧i=.int .i64 (k:Int)∧f=.int .i64 ((scanW l k).2:Int)∧wr.ownsRow w.heap.size 9 1 v (scanW l k).1.length (scells (scanW l k).1)∧Below w.heap.size w wr) (fun _ _ i _=>l.length - (intOf i).toNat)
 case atStart=>exact ⟨_,0,rfl,Nat.zero_le _,rfl,rfl,HO0.out,HBA.out⟩
 case round =>
  obtain ⟨v,k,hvs,hk,rfl,rfl,hown,hbr⟩:=hrel
  subst hvs
  have HBR:Hid (Below w.heap.size w wr):=hbr
  have HSZ:Hid (w.heap.size≤wr.heap.size):=hbr.size
  have HLT:Hid (∀ j,v.ownBlock=some j→w.heap.size≤j):=fun j hj=>(hown.lt j hj).1
  have hsc:=scanW_le l k
  by_cases hlt:k<l.length
  ·have hki:(k:Int)<(l.length:Int):=by omega
   have HY:Hid _:=@scanW_yes l k
   have HN:Hid _:=@scanW_no l k
   obtain ⟨c,hc⟩:∃ c,(⟨l.toArray⟩:ByteArray)[k]'(by rw [ba_size];exact hlt)=c:=⟨_,rfl⟩
   rw [(byte_at l k hlt).trans hc] at HY HN
   obtain ⟨R,hR⟩:∃ x,(scanW l k).1=x:=⟨_,rfl⟩
   obtain ⟨f,hf⟩:∃ x,(scanW l k).2=x:=⟨_,rfl⟩
   rw [hR,hf] at HY
   rw [hR] at hown hsc
   rw [hf] at hsc ⊢
   have HO:Hid (wr.ownsRow w.heap.size 9 1 v R.length (scells R)):=hown
   have HRF:Hid ((scanW l k).1=R∧(scanW l k).2=f):=⟨hR,hf⟩
   clear hR hf hown hbr HO0 HBA
   by_cases h32:c=32
   ·subst h32
    have hx:(⟨l.toArray⟩:ByteArray).extract f k=⟨((l.drop f).take (k - f)).toArray⟩:=ba_extract l f k
    have HNX:Hid (scanW l (k+1)=(R++[(l.drop f).take (k - f)],k+1)):=HY.out rfl
    obtain ⟨r,hr⟩:∃ x,(l.drop f).take (k - f)=x:=⟨_,rfl⟩
    rw [hr] at hx HNX
    have hfk:(f:Int)≤(k:Int):=by omega
    clear HY HN hr
    go_wp2_with (at_builtin;refine wpList_append_own _ rfl (.tmp 17) (.tmp 22) 23 rfl w.heap.size 9 i0 (.string ⟨#[]⟩) 1 16 Tryz.underlying23 hi hz0 hz1 hz2 rfl (by decide) _ _ _ rfl (HO.out.alloc _) ⟨wr.heap.size,0,none⟩ 1 1 [.string ⟨r.toArray⟩] rfl rfl (World.news_of_block (heap_alloc_new wr _)) (one_oneS _) (by unfold maxLen;omega) (by omega) (by simp;have:=HSZ.out;omega) ?_;intro v5 w5 o5 g5 _)
    have q5:Below w.heap.size w w5:=(HBR.out.alloc (by have:=HSZ.out;omega) _).grown g5 (by have:=HSZ.out;simp;omega) HLT.out
    have HR5:Hid (w5.ownsRow w.heap.size 9 1 v5 (scanW l (k+1)).1.length (scells (scanW l (k+1)).1)):=by
     rw [Hid,HNX.out];simp only [List.length_append,scells_append];exact o5
    have HF5:Hid ((scanW l (k+1)).2=k+1):=by rw [Hid,HNX.out]
    clear o5 g5 hx
    go_wp2
    go_roundw
    case rel=>exact ⟨_,k+1,rfl,by omega,by go_num,by rw [HF5.out];go_num,HR5.out,q5⟩
    case measure=>simp [intOf];omega
   ·have HNX:Hid (scanW l (k+1)=scanW l k):=HN.out h32
    have hcb:((c.toNat:Int) == 32)=false:=by
     simp only [beq_eq_false_iff_ne,ne_eq]
     intro e
     apply h32
     apply UInt8.toNat_inj.1
     show c.toNat=32
     omega
    have HR5:Hid (wr.ownsRow w.heap.size 9 1 v (scanW l (k+1)).1.length (scells (scanW l (k+1)).1)):=by
     rw [Hid,HNX.out,HRF.out.1];exact HO.out
    have HF5:Hid ((scanW l (k+1)).2=f):=by rw [Hid,HNX.out,HRF.out.2]
    clear HY HN
    go_wp2
    go_roundw
    case rel=>exact ⟨_,k+1,rfl,by omega,by go_num,by rw [HF5.out],HR5.out,HBR.out⟩
    case measure=>simp [intOf];omega
  ·have hke:k=l.length:=by omega
   subst hke
   have hki:¬ (l.length:Int)<(l.length:Int):=by omega
   obtain ⟨R,hR⟩:∃ x,(scanW l l.length).1=x:=⟨_,rfl⟩
   obtain ⟨f,hf⟩:∃ x,(scanW l l.length).2=x:=⟨_,rfl⟩
   rw [hR,hf] at HWE
   rw [hR] at hown hsc
   rw [hf] at hsc ⊢
   have HO:Hid (wr.ownsRow w.heap.size 9 1 v R.length (scells R)):=hown
   have hx:(⟨l.toArray⟩:ByteArray).extract f l.length=⟨(l.drop f).toArray⟩:=by rw [ba_extract,List.take_of_length_le (by simp)]
   obtain ⟨r,hr⟩:∃ x,l.drop f=x:=⟨_,rfl⟩
   rw [hr] at hx HWE
   have hfk:(f:Int)≤(l.length:Int):=by omega
   clear hR hf hown hbr HO0 HBA hr
   go_wp2_with (at_builtin;refine wpList_append_own _ rfl (.tmp 26) (.tmp 30) 23 rfl w.heap.size 9 i0 (.string ⟨#[]⟩) 1 16 Tryz.underlying23 hi hz0 hz1 hz2 rfl (by decide) _ _ _ rfl (HO.out.alloc _) ⟨wr.heap.size,0,none⟩ 1 1 [.string ⟨r.toArray⟩] rfl rfl (World.news_of_block (heap_alloc_new wr _)) (one_oneS _) (by unfold maxLen;omega) (by omega) (by simp;have:=HSZ.out;omega) ?_;intro v5 w5 o5 g5 _)
   have q5:Below w.heap.size w w5:=(HBR.out.alloc (by have:=HSZ.out;omega) _).grown g5 (by have:=HSZ.out;simp;omega) HLT.out
   have HR5:Hid (w5.ownsRow w.heap.size 9 1 v5 WW.length (scells WW)):=by
    rw [Hid,HWE.out,List.length_append,scells_append];exact o5
   obtain ⟨a,cp,hv,-,-⟩:=txts_of_own HR5.out
   subst hv
   clear o5 g5 hx
   go_wp2
   go_ret
   exact ⟨a,cp,rfl,HR5.out,q5⟩
end Go.Proofs.YtomiclakhjncbaaGreatDoor
namespace Go.Proofs.YtomiclakhjncbaaGreatDoor.Kb
open Go.RowKit Go.Conc.Locks
set_option maxRecDepth 100000
set_option maxHeartbeats 12800000
abbrev muL:MuLink:={ lock:=113,unlock:=114,ilock:=156,iunlock:=157,lockSlow:=195,unlockSlow:=198,disable:=191,enable:=193,acquire:=194,relMerge:=196,cas32:=192,add32:=197,tMutex:=141,tIMutex:=139,tPMutex:=192,tPIMutex:=236,tPI32:=238,tUP:=203,tNoCopy:=136,tU32:=137 }
theorem muH:MuLib Tryz.prog muL:=⟨Tryz.func113,Tryz.func114,Tryz.func156,Tryz.func157,Tryz.func191,Tryz.func193,Tryz.func194,Tryz.func196,Tryz.func192,Tryz.func197,Tryz.underlying139,Tryz.runUnderlying139,Tryz.sizeOf139,Tryz.isAgg139,Tryz.zeroValue139,Tryz.underlying141,Tryz.runUnderlying141,Tryz.sizeOf141,Tryz.isAgg141,Tryz.zeroValue141,Tryz.underlying192,Tryz.runUnderlying192,Tryz.sizeOf192,Tryz.isAgg192,Tryz.zeroValue192,Tryz.underlying236,Tryz.runUnderlying236,Tryz.sizeOf236,Tryz.isAgg236,Tryz.zeroValue236,Tryz.underlying238,Tryz.runUnderlying238,Tryz.sizeOf238,Tryz.isAgg238,Tryz.zeroValue238,Tryz.underlying203,Tryz.runUnderlying203,Tryz.sizeOf203,Tryz.isAgg203,Tryz.zeroValue203,Tryz.underlying136,Tryz.runUnderlying136,Tryz.sizeOf136,Tryz.isAgg136,Tryz.zeroValue136,Tryz.underlying21,Tryz.runUnderlying21,Tryz.sizeOf21,Tryz.isAgg21,Tryz.zeroValue21,by kernel_rfl⟩
end Go.Proofs.YtomiclakhjncbaaGreatDoor.Kb
namespace Go.Proofs.YtomiclakhjncbaaGreatDoor
set_option maxRecDepth 100000
set_option maxHeartbeats 12800000
abbrev Cd:=Int×Int
def ltC (x y:Cd):Bool:=decide (x.1<y.1∨(x.1=y.1∧x.2<y.2))
theorem lt_irr (x:Cd):ltC x x=false:=by simp only [ltC,decide_eq_false_iff_not];omega
theorem lt_asym {x y:Cd} (h:ltC x y=true):ltC y x=false:=by simp only [ltC,decide_eq_true_eq,decide_eq_false_iff_not] at *;omega
theorem ge_trans {x y z:Cd} (h:ltC z y=false) (g:ltC y x=false):ltC z x=false:=by simp only [ltC,decide_eq_false_iff_not] at *;omega
theorem ge_of_lt {k p j:Cd} (h:ltC k p=false) (g:ltC j p=true):ltC k j=false:=by simp only [ltC,decide_eq_true_eq,decide_eq_false_iff_not] at *;omega
def par (j:Nat):Nat:=(j - 1) / 2
theorem par_lt {j:Nat} (h:0<j):par j<j:=by unfold par;omega
def HeapF (f:Nat→Cd) (n:Nat):Prop:=∀ k,0<k→k<n→ltC (f k) (f (par k))=false
def NearF (f:Nat→Cd) (n j:Nat):Prop:=(∀ k,0<k→k<n→k≠j→ltC (f k) (f (par k))=false)∧(0<j→∀ k,0<k→k<n→par k=j→ltC (f k) (f (par j))=false)
def swapF (f:Nat→Cd) (i k:Nat):Nat→Cd:=fun m=>if m=i then f k else if m=k then f i else f m
theorem swapF_i (f:Nat→Cd) (i k:Nat):swapF f i k i=f k:=if_pos rfl
theorem swapF_k (f:Nat→Cd) (i k:Nat):swapF f i k k=f i:=by
 unfold swapF
 by_cases h:k=i
 ·rw [if_pos h,h]
 ·rw [if_neg h,if_pos rfl]
theorem swapF_m (f:Nat→Cd) {i k m:Nat} (h:m≠i) (g:m≠k):swapF f i k m=f m:=by unfold swapF;rw [if_neg h,if_neg g]
theorem near_done {f:Nat→Cd} {n j:Nat} (h:NearF f n j) (hj:j=0∨ltC (f j) (f (par j))=false):HeapF f n:=by
 intro k h0 hk
 by_cases e:k=j
 ·subst e
  rcases hj with rfl | hj
  ·omega
  ·exact hj
 ·exact h.1 k h0 hk e
theorem near_swap {f:Nat→Cd} {n j:Nat} (h:NearF f n j) (h0:0<j) (hj:j<n) (hl:ltC (f j) (f (par j))=true):NearF (swapF f (par j) j) n (par j):=by
 have hp:=par_lt h0
 refine ⟨fun k k0 kn kp=>?_,fun p0 k k0 kn kp=>?_⟩
 ·by_cases kj:k=j
  ·subst kj
   rw [swapF_k,swapF_i]
   exact lt_asym hl
  ·rw [swapF_m f kp kj]
   by_cases e1:par k=par j
   ·rw [e1,swapF_i]
    have:=h.1 k k0 kn kj
    rw [e1] at this
    exact ge_of_lt this hl
   ·by_cases e2:par k=j
    ·rw [e2,swapF_k]
     exact h.2 h0 k k0 kn e2
    ·rw [swapF_m f e1 e2]
     exact h.1 k k0 kn kj
 ·have hpp:=par_lt p0
  rw [swapF_m f (show par (par j)≠par j by omega) (show par (par j)≠j by omega)]
  have hq:=h.1 (par j) p0 (by omega) (by omega)
  by_cases kj:k=j
  ·subst kj
   rw [swapF_k]
   exact hq
  ·have hkp:=par_lt k0
   rw [swapF_m f (show k≠par j by omega) kj]
   have:=h.1 k k0 kn kj
   rw [kp] at this
   exact ge_trans this hq
theorem heap_min {f:Nat→Cd} {n:Nat} (h:HeapF f n):∀ k,k<n→ltC (f k) (f 0)=false:=by
 intro k
 induction k using Nat.strongRecOn with
 | _ k ih =>
  intro hk
  by_cases k0:k=0
  ·subst k0;exact lt_irr _
  ·have hp:=par_lt (show 0<k by omega)
   exact ge_trans (h k (by omega) hk) (ih (par k) hp (by omega))
def cdAt (H:List Cd) (k:Nat):Cd:=H.getD k (0,0)
theorem cdAt_is {H:List Cd} {k:Nat} (h:k<H.length):cdAt H k=H[k]:=by simp [cdAt,List.getD_eq_getElem?_getD,h]
def IsHeap (H:List Cd):Prop:=HeapF (cdAt H) H.length
def Near (H:List Cd) (j:Nat):Prop:=NearF (cdAt H) H.length j
def swapL (H:List Cd) (i k:Nat):List Cd:=(H.set i (cdAt H k)).set k (cdAt H i)
theorem swapL_len (H:List Cd) (i k:Nat):(swapL H i k).length=H.length:=by simp [swapL]
theorem swapL_at {H:List Cd} {i k:Nat} (hi:i<H.length) (hk:k<H.length) (m:Nat):cdAt (swapL H i k) m=swapF (cdAt H) i k m:=by
 unfold swapF swapL
 by_cases hm:m<H.length
 ·rw [cdAt_is (by simp;exact hm)]
  by_cases e2:m=k
  ·subst e2
   rw [List.getElem_set_self]
   by_cases e1:m=i
   ·rw [if_pos e1,e1]
   ·rw [if_neg e1,if_pos rfl]
  ·rw [List.getElem_set_ne (by omega)]
   by_cases e1:m=i
   ·subst e1
    rw [List.getElem_set_self,if_pos rfl]
   ·rw [List.getElem_set_ne (by omega),if_neg e1,if_neg e2,cdAt_is hm]
 ·have e1:m≠i:=by omega
  have e2:m≠k:=by omega
  rw [if_neg e1,if_neg e2]
  simp [cdAt,List.getD_eq_getElem?_getD,hm]
theorem swapL_fun {H:List Cd} {i k:Nat} (hi:i<H.length) (hk:k<H.length):cdAt (swapL H i k)=swapF (cdAt H) i k:=funext (swapL_at hi hk)
def SameC (H G:List Cd):Prop:=G.length=H.length∧(∀ i,i<H.length→∃ j,j<H.length∧cdAt G i=cdAt H j)∧(∀ j,j<H.length→∃ i,i<H.length∧cdAt G i=cdAt H j)
theorem SameC.refl (H:List Cd):SameC H H:=⟨rfl,fun i hi=>⟨i,hi,rfl⟩,fun j hj=>⟨j,hj,rfl⟩⟩
theorem SameC.trans {H G K:List Cd} (h:SameC H G) (g:SameC G K):SameC H K:=by
 refine ⟨g.1.trans h.1,fun i hi=>?_,fun j hj=>?_⟩
 ·obtain ⟨a,ha,e⟩:=g.2.1 i (by rw [h.1];exact hi)
  obtain ⟨b,hb,e'⟩:=h.2.1 a (by rw [h.1] at ha;exact ha)
  exact ⟨b,hb,e.trans e'⟩
 ·obtain ⟨a,ha,e⟩:=h.2.2 j hj
  obtain ⟨b,hb,e'⟩:=g.2.2 a (by rw [h.1];exact ha)
  exact ⟨b,by rw [h.1] at hb;exact hb,e'.trans e⟩
theorem same_swap {H:List Cd} {i k:Nat} (hi:i<H.length) (hk:k<H.length):SameC H (swapL H i k):=by
 refine ⟨swapL_len H i k,fun m hm=>?_,fun m hm=>?_⟩
 ·rw [swapL_at hi hk]
  by_cases e1:m=i
  ·exact ⟨k,hk,by rw [e1,swapF_i]⟩
  ·by_cases e2:m=k
   ·exact ⟨i,hi,by rw [e2,swapF_k]⟩
   ·exact ⟨m,hm,swapF_m _ e1 e2⟩
 ·by_cases e1:m=i
  ·exact ⟨k,hk,by rw [swapL_at hi hk,swapF_k,e1]⟩
  ·by_cases e2:m=k
   ·exact ⟨i,hi,by rw [swapL_at hi hk,swapF_i,e2]⟩
   ·exact ⟨m,hm,by rw [swapL_at hi hk,swapF_m _ e1 e2]⟩
theorem cdAt_app {H:List Cd} {x:Cd} {k:Nat} (h:k<H.length):cdAt (H++[x]) k=cdAt H k:=by
 rw [cdAt_is (by simp;omega),cdAt_is h,List.getElem_append_left h]
theorem cdAt_last (H:List Cd) (x:Cd):cdAt (H++[x]) H.length=x:=by
 rw [cdAt_is (by simp)];simp
theorem push_near {H:List Cd} (h:IsHeap H) (x:Cd):Near (H++[x]) H.length:=by
 refine ⟨fun k k0 kn kj=>?_,fun j0 k k0 kn kp=>?_⟩
 ·have hk:k<H.length:=by simp at kn;omega
  have hp:=par_lt k0
  rw [cdAt_app hk,cdAt_app (by omega)]
  exact h k k0 hk
 ·have hp:=par_lt k0
  simp at kn
  omega
structure Cands (sc:Nat→Int) (n:Nat) (H:List Cd):Prop where
 heap:IsHeap H
 only:∀ i,i<H.length→∃ m,m<n∧cdAt H i=(sc m,(m:Int))∧0≤sc m
 all:∀ m,m<n→0≤sc m→∃ i,i<H.length∧cdAt H i=(sc m,(m:Int))
 le:H.length≤n
theorem Cands.start (sc:Nat→Int):Cands sc 0 []:=⟨fun k _ h=>by simp at h,fun i h=>by simp at h,fun m h=>by omega,Nat.le_refl _⟩
theorem Cands.skip {sc:Nat→Int} {n:Nat} {H:List Cd} (h:Cands sc n H) (hs:sc n<0):Cands sc (n+1) H:=by
 refine ⟨h.heap,fun i hi=>?_,fun m hm h0=>?_,Nat.le_succ_of_le h.le⟩
 ·obtain ⟨m,hm,e⟩:=h.only i hi
  exact ⟨m,by omega,e⟩
 ·by_cases e:m=n
  ·subst e;omega
  ·exact h.all m (by omega) h0
theorem Cands.push {sc:Nat→Int} {n:Nat} {H G:List Cd} (h:Cands sc n H) (hs:0≤sc n) (hg:IsHeap G) (hsame:SameC (H++[(sc n,(n:Int))]) G):Cands sc (n+1) G:=by
 have hl:=hsame.1
 simp at hl
 have hle:=h.le
 refine ⟨hg,fun i hi=>?_,fun m hm h0=>?_,by omega⟩
 ·obtain ⟨j,hj,e⟩:=hsame.2.1 i (by simp;omega)
  rw [e]
  simp at hj
  by_cases ej:j=H.length
  ·subst ej
   rw [cdAt_last]
   exact ⟨n,by omega,rfl,hs⟩
  ·rw [cdAt_app (show j<H.length by omega)]
   obtain ⟨m,hm,e2⟩:=h.only j (by omega)
   exact ⟨m,by omega,e2⟩
 ·by_cases e:m=n
  ·subst e
   obtain ⟨i,hi,e2⟩:=hsame.2.2 H.length (by simp)
   rw [cdAt_last] at e2
   exact ⟨i,by simp at hi;omega,e2⟩
  ·obtain ⟨j,hj,e2⟩:=h.all m (by omega) h0
   obtain ⟨i,hi,e3⟩:=hsame.2.2 j (by simp;omega)
   rw [cdAt_app hj] at e3
   exact ⟨i,by simp at hi;omega,e3.trans e2⟩
def Best (sc:Nat→Int) (n:Nat) (x:Int):Prop:=(x = -1∧∀ k,k<n→sc k<0)∨∃ i:Nat,i<n∧x=(i:Int)∧0≤sc i∧∀ k,k<n→0≤sc k→(sc i<sc k∨(sc i=sc k∧i≤k))
theorem best_one {sc:Nat→Int} {n:Nat} {x y:Int} (h:Best sc n x) (g:Best sc n y):x=y:=by
 rcases h with ⟨rfl,h⟩ | ⟨i,hi,rfl,hs,h⟩
 ·rcases g with ⟨rfl,_⟩ | ⟨k,hk,rfl,gs,_⟩
  ·rfl
  ·have:=h k hk;omega
 ·rcases g with ⟨rfl,g⟩ | ⟨k,hk,rfl,gs,g⟩
  ·have:=g i hi;omega
  ·have h1:=h k hk gs
   have h2:=g i hi hs
   omega
theorem best_none {sc:Nat→Int} {n:Nat} {H:List Cd} (h:Cands sc n H) (h0:H.length=0):Best sc n (-1):=by
 refine .inl ⟨rfl,fun k hk=>?_⟩
 by_cases e:sc k<0
 ·exact e
 ·obtain ⟨i,hi,_⟩:=h.all k hk (by omega)
  omega
theorem best_root {sc:Nat→Int} {n:Nat} {H:List Cd} (h:Cands sc n H) (h0:0<H.length):Best sc n (cdAt H 0).2:=by
 obtain ⟨m,hm,e,hs⟩:=h.only 0 h0
 refine .inr ⟨m,hm,by rw [e],hs,fun k hk ks=>?_⟩
 obtain ⟨i,hi,e2⟩:=h.all k hk ks
 have:=heap_min h.heap i hi
 rw [e,e2] at this
 simp only [ltC,decide_eq_false_iff_not] at this
 omega
theorem best_step {sc:Nat→Int} {n:Nat} {x:Int} (h:Best sc n x) (hs:sc n<0):Best sc (n+1) x:=by
 rcases h with ⟨rfl,h⟩ | ⟨i,hi,rfl,h1,h⟩
 ·exact .inl ⟨rfl,fun k hk=>by by_cases e:k=n;subst e;exact hs;exact h k (by omega)⟩
 ·exact .inr ⟨i,by omega,rfl,h1,fun k hk ks=>by by_cases e:k=n;subst e;omega;exact h k (by omega) ks⟩
theorem best_first {sc:Nat→Int} {n:Nat} (h:Best sc n (-1)) (hs:0≤sc n):Best sc (n+1) (n:Int):=by
 refine .inr ⟨n,by omega,rfl,hs,fun k hk ks=>?_⟩
 rcases h with ⟨_,h⟩ | ⟨i,_,e,_⟩
 ·by_cases e:k=n
  ·subst e;omega
  ·have:=h k (by omega);omega
 ·omega
theorem best_new {sc:Nat→Int} {n i:Nat} (h:Best sc n (i:Int)) (hs:0≤sc n) (hl:sc n<sc i):Best sc (n+1) (n:Int):=by
 refine .inr ⟨n,by omega,rfl,hs,fun k hk ks=>?_⟩
 rcases h with ⟨e,_⟩ | ⟨j,hj,e,_,h⟩
 ·omega
 ·have ej:j=i:=by omega
  subst ej
  by_cases e:k=n
  ·subst e;omega
  ·have:=h k (by omega) ks;omega
theorem best_old {sc:Nat→Int} {n i:Nat} (h:Best sc n (i:Int)) (hl:¬ sc n<sc i):Best sc (n+1) (i:Int):=by
 rcases h with ⟨e,_⟩ | ⟨j,hj,e,h1,h⟩
 ·omega
 ·have ej:j=i:=by omega
  subst ej
  exact .inr ⟨j,by omega,rfl,h1,fun k hk ks=>by by_cases e:k=n;subst e;omega;exact h k (by omega) ks⟩
end Go.Proofs.YtomiclakhjncbaaGreatDoor
namespace Go.Proofs.YtomiclakhjncbaaGreatDoor
open Go.RowKit
set_option maxRecDepth 100000
set_option maxHeartbeats 12800000
theorem iAcct_any (a:Int) (w:World) :
  Calls Tryz.prog 147 #[.int .i64 a] w fun e w'=>e=.returned (.bool (acctOk a))∧w'=w:=by
 by_cases h1:1≤a
 ·by_cases h2:a≤9999
  ·have HE:Hid (acctOk a=true):=by simp [Hid,acctOk,h1,h2]
   go_enter Tryz.func147,Tryz.ntmps147
   go_wp2
   go_ret
   exact ⟨one_bool HE.out.symm,rfl⟩
  ·have HE:Hid (acctOk a=false):=by simp [Hid,acctOk,h1,h2]
   go_enter Tryz.func147,Tryz.ntmps147
   go_wp2
   go_ret
   exact ⟨one_bool HE.out.symm,rfl⟩
 ·have HE:Hid (acctOk a=false):=by simp [Hid,acctOk];omega
  go_enter Tryz.func147,Tryz.ntmps147
  go_wp2
  go_ret
  exact ⟨one_bool HE.out.symm,rfl⟩
theorem iAcct_is {a:Int} {q:Bool} (h:acctOk a=q) (w:World):Calls Tryz.prog 147 #[.int .i64 a] w fun e w'=>e=.returned (.bool q)∧w'=w:=by rw [← h];exact iAcct_any a w
theorem iDigs_is {c:Int} (w:World) (d:Int) (h:digs c=d) (hc:(Lit.int .i64 c).wf=true):Calls Tryz.prog 148 #[.int .i64 c] w fun e w'=>e=.returned (.int .i64 d)∧Below w.heap.size w w':=by rw [← h];exact iDigits_any c w hc
theorem iKey_any (a b c:Int) (w:World) :
  Calls Tryz.prog 107 #[.agg #[.int .i64 a,.int .i64 b,.int .i64 c]] w fun e w'=>e=.returned (.agg #[.int .i64 a,.int .i64 b])∧Below w.heap.size w w':=by
 go_enter Tryz.func107,Tryz.ntmps107
 go_wp2
 go_returns
 refine ⟨rfl,?_⟩
 go_grown
theorem iEntryOk_any (a b c m:Int) (w:World) (hc:(Lit.int .i64 c).wf=true) :
  Calls Tryz.prog 313 #[.agg #[.int .i64 a,.int .i64 b,.int .i64 c,.int .i64 m]] w fun e w'=>e=.returned (.bool (entryOk (a,b,c,m)))∧Below w.heap.size w w':=by
 have bel:Below w.heap.size w (w.alloc (.cells #[.int .i64 a,.int .i64 b,.int .i64 c,.int .i64 m] 269)):=by go_grown
 have HC:Hid _:=hc
 clear hc
 cases h1:acctOk a
 ·have HE:Hid (entryOk (a,b,c,m)=false):=by simp [Hid,entryOk,h1]
  have H1:Hid _:=h1
  clear h1
  go_enter Tryz.func313,Tryz.ntmps313
  go_wp2_with fail
  refine (iAcct_is H1.out _).mono ?_
  rintro e w1 ⟨rfl,hw⟩
  rw [hw]
  clear hw
  go_wp2
  go_ret
  exact ⟨one_bool HE.out.symm,bel⟩
 have H1:Hid _:=h1
 cases h2:acctOk b
 ·have HE:Hid (entryOk (a,b,c,m)=false):=by simp [Hid,entryOk,h2]
  have H2:Hid _:=h2
  clear h1 h2
  go_enter Tryz.func313,Tryz.ntmps313
  go_wp2_with fail
  refine (iAcct_is H1.out _).mono ?_
  rintro e w1 ⟨rfl,hw⟩
  rw [hw]
  clear hw
  go_wp2_with fail
  refine (iAcct_is H2.out _).mono ?_
  rintro e w2 ⟨rfl,hw⟩
  rw [hw]
  clear hw
  go_wp2
  go_ret
  exact ⟨one_bool HE.out.symm,bel⟩
 have H2:Hid _:=h2
 by_cases h3:a=b
 ·have HE:Hid (entryOk (a,b,c,m)=false):=by simp [Hid,entryOk,h3]
  have h3':(a != b)=false:=by simpa using h3
  clear h1 h2 h3
  go_enter Tryz.func313,Tryz.ntmps313
  go_wp2_with fail
  refine (iAcct_is H1.out _).mono ?_
  rintro e w1 ⟨rfl,hw⟩
  rw [hw]
  clear hw
  go_wp2_with fail
  refine (iAcct_is H2.out _).mono ?_
  rintro e w2 ⟨rfl,hw⟩
  rw [hw]
  clear hw
  go_wp2
  go_ret
  exact ⟨one_bool HE.out.symm,bel⟩
 have h3':(a != b)=true:=by simpa using h3
 have hx:∀ q:Bool,(decide (0≤digs c) && decide (1≤m∧m≤1000000000000))=q→entryOk (a,b,c,m)=q:=by
  intro q hq
  simp only [entryOk,h1,h2,Bool.true_and,decide_eq_true h3]
  exact hq
 obtain ⟨d,hd⟩:∃ d,digs c=d:=⟨_,rfl⟩
 have HD:Hid _:=hd
 have HE:Hid (entryOk (a,b,c,m)=(decide (0≤d) && decide (1≤m∧m≤1000000000000))):=hx _ (by rw [hd])
 clear hx hd h3 h1 h2
 go_enter Tryz.func313,Tryz.ntmps313
 go_wp2_with fail
 refine (iAcct_is H1.out _).mono ?_
 rintro e w1 ⟨rfl,hw⟩
 rw [hw]
 clear hw
 go_wp2_with fail
 refine (iAcct_is H2.out _).mono ?_
 rintro e w2 ⟨rfl,hw⟩
 rw [hw]
 clear hw
 go_wp2_with fail
 refine (iDigs_is _ d HD.out HC.out).mono ?_
 rintro e w3 ⟨rfl,b3⟩
 have x3:=(b3.cell (p:=⟨w.heap.size,3,none⟩) (by simp)).trans (show _=some (.int .i64 m) by simp)
 have q3:=bel.trans (b3.mono bel.size)
 clear b3 bel
 by_cases h4:0≤d
 ·by_cases h5:1≤m
  ·by_cases h6:m≤1000000000000
   ·have HX:Hid (entryOk (a,b,c,m)=true):=by rw [Hid,HE.out];simp [h4,h5,h6]
    clear HE
    go_wp2
    go_ret
    exact ⟨one_bool HX.out.symm,q3⟩
   ·have HX:Hid (entryOk (a,b,c,m)=false):=by rw [Hid,HE.out];simp [h6]
    have H6:Hid (decide (m≤1000000000000)=false):=decide_eq_false h6
    clear HE
    go_wp2
    go_ret
    exact ⟨one_bool (by rw [HX.out,H6.out]),q3⟩
  ·have HX:Hid (entryOk (a,b,c,m)=false):=by rw [Hid,HE.out];simp [h5]
   clear HE
   go_wp2
   go_ret
   exact ⟨one_bool HX.out.symm,q3⟩
 ·have HX:Hid (entryOk (a,b,c,m)=false):=by rw [Hid,HE.out];simp [h4]
  clear HE
  go_wp2
  go_ret
  exact ⟨one_bool HX.out.symm,q3⟩
theorem blank_in (l:List UInt8):decide (0≤Lib.indexByte l 32)=l.any (fun c=>c == 32):=by
 induction l with
 | nil=>rfl
 | cons b l ih =>
  have hg:=Lib.indexByte_ge l 32
  by_cases hb:b=32
  ·have h1:(b == 32)=true:=by simp [hb]
   have h0:Lib.indexByte (b::l) 32=0:=by rw [Lib.indexByte,if_pos h1]
   rw [h0,List.any_cons,h1];rfl
  ·have h1:(b == 32)=false:=by simp [hb]
   rw [List.any_cons,h1,Bool.false_or,← ih]
   by_cases h:Lib.indexByte l 32 = -1
   ·have h0:Lib.indexByte (b::l) 32 = -1:=by rw [Lib.indexByte,if_neg (by rw [h1];decide),if_pos (by simp [h])]
    rw [h0,h]
   ·have h0:Lib.indexByte (b::l) 32=Lib.indexByte l 32+1:=by rw [Lib.indexByte,if_neg (by rw [h1];decide),if_neg (by simp [h])]
    rw [h0,decide_eq_true (show 0≤Lib.indexByte l 32+1 by omega),decide_eq_true (show 0≤Lib.indexByte l 32 by omega)]
theorem ref_within (l:List UInt8):within 33 126 l=(within 32 126 l && !decide (0≤Lib.indexByte l 32)):=by
 rw [blank_in]
 induction l with
 | nil=>rfl
 | cons b l ih =>
  simp only [within,List.all_cons,List.any_cons] at ih ⊢
  rw [ih]
  by_cases hb:b.toNat=32
  ·have h1:(b == 32)=true:=by
     have:b=32:=UInt8.toNat_inj.1 hb
     simp [this]
   have h2:decide (33≤b.toNat)=false:=by simp [hb]
   rw [h1,h2]
   simp
  ·have h1:(b == 32)=false:=by
     cases h:(b == 32)
     ·rfl
     ·have:b=32:=by simpa using h
      subst this
      exact absurd rfl hb
   have h2:decide (33≤b.toNat)=decide (32≤b.toNat):=by
    by_cases h:33≤b.toNat
    ·rw [decide_eq_true h,decide_eq_true (show 32≤b.toNat by omega)]
    ·rw [decide_eq_false h,decide_eq_false (show ¬ 32≤b.toNat by omega)]
   rw [h1,h2,Bool.false_or]
   cases decide (32≤b.toNat) <;> cases decide (b.toNat≤126) <;> simp
theorem iRef_any (l:List UInt8) (w:World) (hl:l.length≤1099511627776) :
  Calls Tryz.prog 276 #[.string ⟨l.toArray⟩] w fun e w'=>e=.returned (.bool (refOk l))∧w'=w:=by
 by_cases h12:l.length=12
 ·have hq:((l.length:Int) == 12)=true:=by simp [h12]
  have HR:Hid (refOk l=(within 32 126 l && !decide (0≤Lib.indexByte l 32))):=by rw [Hid,refOk,ref_within,decide_eq_true h12,Bool.true_and]
  clear h12
  cases hp:within 32 126 l
  ·go_enter Tryz.func276,Tryz.ntmps276
   go_wp2_with fail
   refine (iPlain_any l _ hl).mono ?_
   rintro e w1 ⟨rfl,hw⟩
   subst hw
   rw [hp]
   go_wp2
   go_ret
   exact ⟨one_bool (by rw [HR.out,hp];rfl),rfl⟩
  ·go_enter Tryz.func276,Tryz.ntmps276
   go_wp2_with fail
   refine (iPlain_any l _ hl).mono ?_
   rintro e w1 ⟨rfl,hw⟩
   subst hw
   rw [hp]
   go_wp2_with fail
   refine (Tryz.strings_Contains_one ⟨l.toArray⟩ 32 _).mono ?_
   rintro e w1 ⟨rfl,hw⟩
   subst hw
   obtain ⟨q,hqq⟩:∃ q,decide (0≤Lib.indexByte (⟨l.toArray⟩:ByteArray).data.toList 32)=q:=⟨_,rfl⟩
   rw [hqq]
   have HQ:Hid (decide (0≤Lib.indexByte l 32)=q):=hqq
   clear hqq
   go_wp2
   go_ret
   exact ⟨one_bool (by rw [HR.out,hp,HQ.out];rfl),rfl⟩
 ·have hq:((l.length:Int) == 12)=false:=by simp;omega
  have HR:Hid (refOk l=false):=by rw [Hid,refOk,decide_eq_false h12];rfl
  clear h12
  go_enter Tryz.func276,Tryz.ntmps276
  go_wp2
  go_ret
  exact ⟨one_bool HR.out.symm,rfl⟩
theorem iRef_is {l:List UInt8} {q:Bool} (h:refOk l=q) (w:World) (hl:l.length≤1099511627776):Calls Tryz.prog 276 #[.string ⟨l.toArray⟩] w fun e w'=>e=.returned (.bool q)∧w'=w:=by rw [← h];exact iRef_any l w hl
theorem iAuthOk_any (a:Au) (w:World) (hl:a.ref.length≤1099511627776) (hc:wf64 a.cur) :
  Calls Tryz.prog 248 #[auv a] w fun e w'=>e=.returned (.bool (auOk a))∧Below w.heap.size w w':=by
 obtain ⟨r,i,c,m,d,u⟩:=a
 simp only [auv] at hl hc ⊢
 have HV:Hid (auOk ⟨r,i,c,m,d,u⟩=(refOk r && (acctOk i && (decide (0≤digs c) && (decide (1≤m∧m≤100000000000) && dOk d))))):=rfl
 have b0:∀ o,Below w.heap.size w (w.alloc o):=fun o=>(Below.refl _ _).alloc (Nat.le_refl _) _
 cases hr:refOk r
 ·go_enter Tryz.func248,Tryz.ntmps248
  go_wp2_with fail
  refine (iRef_is hr _ hl).mono ?_
  rintro e w1 ⟨rfl,hw⟩
  subst hw
  go_wp2
  go_ret
  exact ⟨one_bool (by rw [HV.out,hr];rfl),b0 _⟩
 cases hi:acctOk i
 ·go_enter Tryz.func248,Tryz.ntmps248
  go_wp2_with fail
  refine (iRef_is hr _ hl).mono ?_
  rintro e w1 ⟨rfl,hw⟩
  subst hw
  go_wp2_with fail
  refine (iAcct_is hi _).mono ?_
  rintro e w1 ⟨rfl,hw⟩
  subst hw
  go_wp2
  go_ret
  exact ⟨one_bool (by rw [HV.out,hr,hi];rfl),b0 _⟩
 obtain ⟨W,hW⟩:∃ W,w.alloc (.cells #[.string ⟨r.toArray⟩,.int .i64 i,.int .i64 c,.int .i64 m,.int .i64 d,.bool u] 107)=W:=⟨_,rfl⟩
 have bW:Below w.heap.size w W:=hW ▸ b0 _
 have c3:W.cell? ⟨w.heap.size,3,none⟩=some (.int .i64 m):=by rw [← hW];simp
 have c4:W.cell? ⟨w.heap.size,4,none⟩=some (.int .i64 d):=by rw [← hW];simp
 have c2:W.cell? ⟨w.heap.size,2,none⟩=some (.int .i64 c):=by rw [← hW];simp
 have lW:w.heap.size<W.heap.size:=by rw [← hW];simp
 have HW:Hid _:=hW
 clear hW
 by_cases hd:0≤digs c
 ·by_cases hm:1≤m∧m≤100000000000
  ·obtain ⟨hm1,hm2⟩:=hm
   obtain ⟨q,hq⟩:∃ q,dOk d=q:=⟨_,rfl⟩
   have HQ:Hid (dOk d=q):=hq
   clear hq
   have HVV:Hid (auOk ⟨r,i,c,m,d,u⟩=q):=by rw [Hid,HV.out,hr,hi,decide_eq_true hd,decide_eq_true (show 1≤m∧m≤100000000000 from ⟨hm1,hm2⟩),HQ.out];rfl
   clear HV
   go_enter Tryz.func248,Tryz.ntmps248
   go_wp2_with fail
   refine (iRef_is hr _ hl).mono ?_
   rintro e w1 ⟨rfl,hw⟩
   subst hw
   go_wp2_with fail
   refine (iAcct_is hi _).mono ?_
   rintro e w1 ⟨rfl,hw⟩
   subst hw
   rw [HW.out]
   go_wp2_with fail
   refine (iDigits_any c _ hc).mono ?_
   rintro e w2 ⟨rfl,b2⟩
   have e3:w2.cell? ⟨w.heap.size,3,none⟩=some (.int .i64 m):=(b2.cell (p:=⟨w.heap.size,3,none⟩) lW).trans c3
   have e4:w2.cell? ⟨w.heap.size,4,none⟩=some (.int .i64 d):=(b2.cell (p:=⟨w.heap.size,4,none⟩) lW).trans c4
   have HB:Hid (Below w.heap.size w w2):=bW.trans (b2.mono bW.size)
   generalize digs c=g at hd
   clear c2 c3 c4 bW b2 HW
   go_wp2_with fail
   refine (iDayOk_any d _).mono ?_
   rintro e w3 ⟨rfl,hw⟩
   subst hw
   rw [HQ.out]
   go_wp2
   go_ret
   exact ⟨one_bool HVV.out.symm,HB.out⟩
  ·have HVV:Hid (auOk ⟨r,i,c,m,d,u⟩=false):=by rw [Hid,HV.out,hr,hi,decide_eq_true hd,decide_eq_false hm];rfl
   clear HV
   go_enter Tryz.func248,Tryz.ntmps248
   go_wp2_with fail
   refine (iRef_is hr _ hl).mono ?_
   rintro e w1 ⟨rfl,hw⟩
   subst hw
   go_wp2_with fail
   refine (iAcct_is hi _).mono ?_
   rintro e w1 ⟨rfl,hw⟩
   subst hw
   rw [HW.out]
   go_wp2_with fail
   refine (iDigits_any c _ hc).mono ?_
   rintro e w2 ⟨rfl,b2⟩
   have e3:w2.cell? ⟨w.heap.size,3,none⟩=some (.int .i64 m):=(b2.cell (p:=⟨w.heap.size,3,none⟩) lW).trans c3
   have HB:Hid (Below w.heap.size w w2):=bW.trans (b2.mono bW.size)
   generalize digs c=g at hd
   clear c2 c3 c4 bW b2 HW
   by_cases hm1:1≤m
   ·have hm2:100000000000<m:=by omega
    clear hm
    go_wp2
    go_ret
    exact ⟨one_bool HVV.out.symm,HB.out⟩
   ·clear hm
    go_wp2
    go_ret
    exact ⟨one_bool HVV.out.symm,HB.out⟩
 ·have HVV:Hid (auOk ⟨r,i,c,m,d,u⟩=false):=by rw [Hid,HV.out,hr,hi,decide_eq_false hd];rfl
  clear HV
  go_enter Tryz.func248,Tryz.ntmps248
  go_wp2_with fail
  refine (iRef_is hr _ hl).mono ?_
  rintro e w1 ⟨rfl,hw⟩
  subst hw
  go_wp2_with fail
  refine (iAcct_is hi _).mono ?_
  rintro e w1 ⟨rfl,hw⟩
  subst hw
  rw [HW.out]
  go_wp2_with fail
  refine (iDigits_any c _ hc).mono ?_
  rintro e w2 ⟨rfl,b2⟩
  have HB:Hid (Below w.heap.size w w2):=bW.trans (b2.mono bW.size)
  generalize digs c=g at hd
  clear c2 c3 c4 bW b2 HW
  go_wp2
  go_ret
  exact ⟨one_bool HVV.out.symm,HB.out⟩
structure AuB (b:Nat) (a:Au) (u:World):Prop where
 c0:u.cell? ⟨b,0,none⟩=some (.string ⟨a.ref.toArray⟩)
 c1:u.cell? ⟨b,1,none⟩=some (.int .i64 a.iss)
 c2:u.cell? ⟨b,2,none⟩=some (.int .i64 a.cur)
 c3:u.cell? ⟨b,3,none⟩=some (.int .i64 a.am)
 c4:u.cell? ⟨b,4,none⟩=some (.int .i64 a.day)
 c5:u.cell? ⟨b,5,none⟩=some (.bool a.used)
theorem AuB.lt {b:Nat} {a:Au} {u:World} (x:AuB b a u):b<u.heap.size:=World.block_lt_of_cell? u _ x.c0
theorem AuB.below {b:Nat} {a:Au} {u u':World} (x:AuB b a u) (h:Below u.heap.size u u'):AuB b a u':=by
 have l:=x.lt
 exact ⟨(h.cell (p:=⟨b,0,none⟩) l).trans x.c0,(h.cell (p:=⟨b,1,none⟩) l).trans x.c1,(h.cell (p:=⟨b,2,none⟩) l).trans x.c2,(h.cell (p:=⟨b,3,none⟩) l).trans x.c3,(h.cell (p:=⟨b,4,none⟩) l).trans x.c4,(h.cell (p:=⟨b,5,none⟩) l).trans x.c5⟩
theorem AuB.new (w:World) (a:Au) (t:TypeId):AuB w.heap.size a (w.alloc (.cells #[.string ⟨a.ref.toArray⟩,.int .i64 a.iss,.int .i64 a.cur,.int .i64 a.am,.int .i64 a.day,.bool a.used] t)) :=
 ⟨by simp,by simp,by simp,by simp,by simp,by simp⟩
theorem wf_bd {x:Int} (h:(Lit.int .i64 x).wf=true):-9223372036854775808≤x∧x≤9223372036854775807:=by
 simpa [Lit.wf,IntKind.min,IntKind.max,IntKind.signed,IntKind.bits] using h
theorem score_no {a:Au} {iss cur am day:Int} (h:canV a iss cur am day=false):scoreV a iss cur am day = -1:=by rw [scoreV,if_neg (by rw [h];decide)]
theorem score_yes {a:Au} {iss cur am day:Int} (h:canV a iss cur am day=true):scoreV a iss cur am day=8*absV (am - a.am)+day - a.day:=by rw [scoreV,if_pos h]
theorem can_is (a:Au) (iss cur am day:Int):canV a iss cur am day=(auOk a && (!a.used && (decide (a.iss=iss) && (decide (a.cur=cur) && (timeOk a day && sumOk a am))))):=rfl
theorem abs_max (x:Int):max x (-x)=absV x:=by unfold absV;split <;> omega
theorem iTime_any (a:Au) (day:Int) (w:World) (hd:0≤a.day∧a.day≤80000) (hb:day≤9223372036854775807) :
  Calls Tryz.prog 279 #[auv a,.int .i64 day] w fun e w'=>e=.returned (.bool (timeOk a day))∧Below w.heap.size w w':=by
 obtain ⟨r,i,c,m,d,u⟩:=a
 simp only [auv] at hd ⊢
 have b0:∀ o,Below w.heap.size w (w.alloc o):=fun o=>(Below.refl _ _).alloc (Nat.le_refl _) _
 by_cases h1:d≤day
 ·by_cases h2:day - d≤7
  ·have HV:Hid (timeOk ⟨r,i,c,m,d,u⟩ day=true):=by rw [Hid,timeOk];exact decide_eq_true (show d≤day∧day≤d+7 by omega)
   go_enter Tryz.func279,Tryz.ntmps279
   go_wp2
   go_ret
   exact ⟨one_bool HV.out.symm,b0 _⟩
  ·have HV:Hid (timeOk ⟨r,i,c,m,d,u⟩ day=false):=by rw [Hid,timeOk];exact decide_eq_false (show ¬ (d≤day∧day≤d+7) by omega)
   go_enter Tryz.func279,Tryz.ntmps279
   go_wp2
   go_ret
   exact ⟨one_bool HV.out.symm,b0 _⟩
 ·have HV:Hid (timeOk ⟨r,i,c,m,d,u⟩ day=false):=by rw [Hid,timeOk];exact decide_eq_false (show ¬ (d≤day∧day≤d+7) by omega)
  go_enter Tryz.func279,Tryz.ntmps279
  go_wp2
  go_ret
  exact ⟨one_bool HV.out.symm,b0 _⟩
theorem iSum_any (a:Au) (am:Int) (w:World) (hd:1≤a.am∧a.am≤100000000000) :
  Calls Tryz.prog 280 #[auv a,.int .i64 am] w fun e w'=>e=.returned (.bool (sumOk a am))∧Below w.heap.size w w':=by
 obtain ⟨r,i,c,m,d,u⟩:=a
 simp only [auv] at hd ⊢
 have b0:∀ o,Below w.heap.size w (w.alloc o):=fun o=>(Below.refl _ _).alloc (Nat.le_refl _) _
 have hq:m.tdiv 10=m / 10:=Int.tdiv_eq_ediv_of_nonneg (by omega)
 obtain ⟨t,ht⟩:∃ t,m / 10=t:=⟨_,rfl⟩
 have ht1:0≤t∧t≤10000000000:=by omega
 have HV:Hid (sumOk ⟨r,i,c,m,d,u⟩ am=decide (1≤am∧am≤m+t)):=by rw [Hid,sumOk,ht]
 rw [ht] at hq
 by_cases h1:1≤am
 ·by_cases h2:am≤m+t
  ·have HW:Hid (sumOk ⟨r,i,c,m,d,u⟩ am=true):=by rw [Hid,HV.out];exact decide_eq_true ⟨h1,h2⟩
   clear HV
   go_enter Tryz.func280,Tryz.ntmps280
   go_wp2
   go_ret
   exact ⟨one_bool HW.out.symm,b0 _⟩
  ·have HW:Hid (sumOk ⟨r,i,c,m,d,u⟩ am=false):=by rw [Hid,HV.out];exact decide_eq_false (fun h=>h2 h.2)
   clear HV
   go_enter Tryz.func280,Tryz.ntmps280
   go_wp2
   go_ret
   exact ⟨one_bool HW.out.symm,b0 _⟩
 ·have HW:Hid (sumOk ⟨r,i,c,m,d,u⟩ am=false):=by rw [Hid,HV.out];exact decide_eq_false (fun h=>h1 h.1)
  clear HV
  go_enter Tryz.func280,Tryz.ntmps280
  go_wp2
  go_ret
  exact ⟨one_bool HW.out.symm,b0 _⟩
theorem iScore_any (a:Au) (iss cur am day:Int) (w:World) (hl:a.ref.length≤1099511627776) (hc:wf64 a.cur) (_w3:(Lit.int .i64 am).wf=true) (w4:(Lit.int .i64 day).wf=true) :
  Calls Tryz.prog 251 #[auv a,.int .i64 iss,.int .i64 cur,.int .i64 am,.int .i64 day] w fun e w'=>e=.returned (.int .i64 (scoreV a iss cur am day))∧Below w.heap.size w w':=by
 have hday:=wf_bd w4
 have HV:=can_is a iss cur am day
 obtain ⟨q,hq⟩:∃ q,auOk a=q:=⟨_,rfl⟩
 have HO:Hid (∀ u,Calls Tryz.prog 248 #[auv a] u fun e w'=>e=.returned (.bool q)∧Below u.heap.size u w'):=fun u=>by rw [← hq];exact iAuthOk_any a u hl hc
 have HN:Hid (canV a iss cur am day=false→scoreV a iss cur am day = -1):=score_no
 have HY:Hid (canV a iss cur am day=true→scoreV a iss cur am day=8*absV (am - a.am)+day - a.day):=score_yes
 obtain ⟨W,hW⟩:∃ W,W=w.alloc (.cells #[.string ⟨a.ref.toArray⟩,.int .i64 a.iss,.int .i64 a.cur,.int .i64 a.am,.int .i64 a.day,.bool a.used] 107):=⟨_,rfl⟩
 have B:AuB w.heap.size a W:=by rw [hW];exact AuB.new w a _
 have HBB:Hid (AuB w.heap.size a W):=B
 have bW:Below w.heap.size w W:=by rw [hW];exact (Below.refl _ _).alloc (Nat.le_refl _) _
 have HBW:Hid (Below w.heap.size w W):=bW
 clear bW _w3 w4
 cases q
 ·have HE:Hid (scoreV a iss cur am day = -1):=HN.out (by rw [HV,hq];rfl)
  clear HV HN HY hq HBB
  obtain ⟨r,i,c,m,d,u⟩:=a
  unfold auv at HO ⊢
  simp only at hW HO ⊢
  have HW:Hid _:=hW
  obtain ⟨f0,f1,f2,f3,f4,f5⟩:=B
  clear hW
  go_enter Tryz.func251,Tryz.ntmps251
  go_upto_region 1 with fail
  rw [← HW.out]
  go_wp2_with fail
  refine (HO.out _).mono ?_
  rintro e u1 ⟨rfl,b1⟩
  have HB1:Hid (Below w.heap.size w u1):=next HBW.out b1
  clear b1 f0 f1 f2 f3 f4 f5
  go_wp2
  go_ret
  exact ⟨one_int HE.out.symm,HB1.out⟩
 obtain ⟨-,-,-,hmm,hdd⟩:=auOk_parts hq
 have hdb:=dOk_bd hdd
 have HT:Hid (∀ u,Calls Tryz.prog 279 #[auv a,.int .i64 day] u fun e w'=>e=.returned (.bool (timeOk a day))∧Below u.heap.size u w'):=fun u=>iTime_any a day u hdb hday.2
 have HS:Hid (∀ u,Calls Tryz.prog 280 #[auv a,.int .i64 am] u fun e w'=>e=.returned (.bool (sumOk a am))∧Below u.heap.size u w'):=fun u=>iSum_any a am u hmm
 have HTB:Hid (timeOk a day=true→a.day≤day∧day≤a.day+7):=fun h=>of_decide_eq_true h
 have HSB:Hid (sumOk a am=true→1≤am∧am≤a.am+a.am / 10):=fun h=>of_decide_eq_true h
 rw [hq,Bool.true_and] at HV
 clear hq hdd
 cases hu:a.used
 ·rw [hu,Bool.not_false,Bool.true_and] at HV
  cases hi:(a.iss != iss)
  ·have hi':decide (a.iss=iss)=true:=decide_eq_true (by simpa using hi)
   rw [hi',Bool.true_and] at HV
   cases hcu:(a.cur != cur)
   ·have hc':decide (a.cur=cur)=true:=decide_eq_true (by simpa using hcu)
    rw [hc',Bool.true_and] at HV
    cases ht:timeOk a day
    ·have HE:Hid (scoreV a iss cur am day = -1):=HN.out (by rw [HV,ht];rfl)
     rw [ht] at HT
     clear HV HN HY ht HS HTB HSB hi' hc'
     obtain ⟨r,i,c,m,d,u⟩:=a
     unfold auv at HO HT ⊢
     simp only at hW HO HT hu hi hcu hmm hdb ⊢
     subst hu
     have HW:Hid _:=hW
     obtain ⟨f0,f1,f2,f3,f4,f5⟩:=B
     clear hW
     go_enter Tryz.func251,Tryz.ntmps251
     go_upto_region 1 with fail
     rw [← HW.out]
     go_wp2_with fail
     refine (HO.out _).mono ?_
     rintro e u1 ⟨rfl,b1⟩
     have B1:=HBB.out.below b1
     have HB1:Hid (Below w.heap.size w u1):=next HBW.out b1
     clear b1 f0 f1 f2 f3 f4 f5
     obtain ⟨f0,f1,f2,f3,f4,f5⟩:=B1
     simp only at f0 f1 f2 f3 f4 f5
     go_wp2_with fail
     refine (HT.out _).mono ?_
     rintro e u2 ⟨rfl,b2⟩
     have HB2:Hid (Below w.heap.size w u2):=next HB1.out b2
     clear b2 f0 f1 f2 f3 f4 f5
     go_wp2
     go_ret
     exact ⟨one_int HE.out.symm,HB2.out⟩
    ·rw [ht,Bool.true_and] at HV
     rw [ht] at HT
     have htb:=HTB.out ht
     cases hs:sumOk a am
     ·have HE:Hid (scoreV a iss cur am day = -1):=HN.out (by rw [HV,hs])
      rw [hs] at HS
      clear HV HN HY ht HTB HSB hi' hc' hs htb
      obtain ⟨r,i,c,m,d,u⟩:=a
      unfold auv at HO HT HS ⊢
      simp only at hW HO HT HS hu hi hcu hmm hdb ⊢
      subst hu
      have HW:Hid _:=hW
      obtain ⟨f0,f1,f2,f3,f4,f5⟩:=B
      clear hW
      go_enter Tryz.func251,Tryz.ntmps251
      go_upto_region 1 with fail
      rw [← HW.out]
      go_wp2_with fail
      refine (HO.out _).mono ?_
      rintro e u1 ⟨rfl,b1⟩
      have B1:=HBB.out.below b1
      have HBB1:Hid (AuB w.heap.size ⟨r,i,c,m,d,false⟩ u1):=B1
      have HB1:Hid (Below w.heap.size w u1):=next HBW.out b1
      clear b1 f0 f1 f2 f3 f4 f5
      obtain ⟨f0,f1,f2,f3,f4,f5⟩:=B1
      simp only at f0 f1 f2 f3 f4 f5
      go_wp2_with fail
      refine (HT.out _).mono ?_
      rintro e u2 ⟨rfl,b2⟩
      have B2:=HBB1.out.below b2
      have HB2:Hid (Below w.heap.size w u2):=next HB1.out b2
      clear b2 f0 f1 f2 f3 f4 f5
      obtain ⟨f0,f1,f2,f3,f4,f5⟩:=B2
      simp only at f0 f1 f2 f3 f4 f5
      go_wp2_with fail
      refine (HS.out _).mono ?_
      rintro e u3 ⟨rfl,b3⟩
      have HB3:Hid (Below w.heap.size w u3):=next HB2.out b3
      clear b3 f0 f1 f2 f3 f4 f5
      go_wp2
      go_ret
      exact ⟨one_int HE.out.symm,HB3.out⟩
     ·have hsb:=HSB.out hs
      have HE:Hid (scoreV a iss cur am day=8*max (am - a.am) (-(am - a.am))+day - a.day):=by rw [Hid,HY.out (by rw [HV,hs]),abs_max]
      rw [hs] at HS
      have hmx:0≤max (am - a.am) (-(am - a.am))∧max (am - a.am) (-(am - a.am))≤100000000000:=by omega
      clear HV HN HY ht HTB HSB hi' hc' hs
      obtain ⟨r,i,c,m,d,u⟩:=a
      unfold auv at HO HT HS ⊢
      simp only at hW HO HT HS hu hi hcu hmm hdb htb hsb HE hmx ⊢
      subst hu
      have HW:Hid _:=hW
      obtain ⟨f0,f1,f2,f3,f4,f5⟩:=B
      clear hW
      go_enter Tryz.func251,Tryz.ntmps251
      go_upto_region 1 with fail
      rw [← HW.out]
      go_wp2_with fail
      refine (HO.out _).mono ?_
      rintro e u1 ⟨rfl,b1⟩
      have B1:=HBB.out.below b1
      have HBB1:Hid (AuB w.heap.size ⟨r,i,c,m,d,false⟩ u1):=B1
      have HB1:Hid (Below w.heap.size w u1):=next HBW.out b1
      clear b1 f0 f1 f2 f3 f4 f5
      obtain ⟨f0,f1,f2,f3,f4,f5⟩:=B1
      simp only at f0 f1 f2 f3 f4 f5
      go_wp2_with fail
      refine (HT.out _).mono ?_
      rintro e u2 ⟨rfl,b2⟩
      have B2:=HBB1.out.below b2
      have HBB2:Hid (AuB w.heap.size ⟨r,i,c,m,d,false⟩ u2):=B2
      have HB2:Hid (Below w.heap.size w u2):=next HB1.out b2
      clear b2 f0 f1 f2 f3 f4 f5
      obtain ⟨f0,f1,f2,f3,f4,f5⟩:=B2
      simp only at f0 f1 f2 f3 f4 f5
      go_wp2_with fail
      refine (HS.out _).mono ?_
      rintro e u3 ⟨rfl,b3⟩
      have B3:=HBB2.out.below b3
      have HB3:Hid (Below w.heap.size w u3):=next HB2.out b3
      clear b3 f0 f1 f2 f3 f4 f5
      obtain ⟨f0,f1,f2,f3,f4,f5⟩:=B3
      simp only at f0 f1 f2 f3 f4 f5
      go_wp2
      go_ret
      exact ⟨one_int HE.out.symm,HB3.out⟩
   ·have hc':decide (a.cur=cur)=false:=decide_eq_false (by simpa using hcu)
    have HE:Hid (scoreV a iss cur am day = -1):=HN.out (by rw [HV,hc'];rfl)
    clear HV HN HY HT HS HTB HSB hi' hc'
    obtain ⟨r,i,c,m,d,u⟩:=a
    unfold auv at HO ⊢
    simp only at hW HO hu hi hcu hmm hdb ⊢
    subst hu
    have HW:Hid _:=hW
    obtain ⟨f0,f1,f2,f3,f4,f5⟩:=B
    clear hW
    go_enter Tryz.func251,Tryz.ntmps251
    go_upto_region 1 with fail
    rw [← HW.out]
    go_wp2_with fail
    refine (HO.out _).mono ?_
    rintro e u1 ⟨rfl,b1⟩
    have B1:=HBB.out.below b1
    have HB1:Hid (Below w.heap.size w u1):=next HBW.out b1
    clear b1 f0 f1 f2 f3 f4 f5
    obtain ⟨f0,f1,f2,f3,f4,f5⟩:=B1
    simp only at f0 f1 f2 f3 f4 f5
    go_wp2
    go_ret
    exact ⟨one_int HE.out.symm,HB1.out⟩
  ·have hi':decide (a.iss=iss)=false:=decide_eq_false (by simpa using hi)
   have HE:Hid (scoreV a iss cur am day = -1):=HN.out (by rw [HV,hi'];rfl)
   clear HV HN HY HT HS HTB HSB hi'
   obtain ⟨r,i,c,m,d,u⟩:=a
   unfold auv at HO ⊢
   simp only at hW HO hu hi hmm hdb ⊢
   subst hu
   have HW:Hid _:=hW
   obtain ⟨f0,f1,f2,f3,f4,f5⟩:=B
   clear hW
   go_enter Tryz.func251,Tryz.ntmps251
   go_upto_region 1 with fail
   rw [← HW.out]
   go_wp2_with fail
   refine (HO.out _).mono ?_
   rintro e u1 ⟨rfl,b1⟩
   have B1:=HBB.out.below b1
   have HB1:Hid (Below w.heap.size w u1):=next HBW.out b1
   clear b1 f0 f1 f2 f3 f4 f5
   obtain ⟨f0,f1,f2,f3,f4,f5⟩:=B1
   simp only at f0 f1 f2 f3 f4 f5
   go_wp2
   go_ret
   exact ⟨one_int HE.out.symm,HB1.out⟩
 ·have HE:Hid (scoreV a iss cur am day = -1):=HN.out (by rw [HV,hu];rfl)
  clear HV HN HY HT HS HTB HSB
  obtain ⟨r,i,c,m,d,u⟩:=a
  unfold auv at HO ⊢
  simp only at hW HO hu hmm hdb ⊢
  subst hu
  have HW:Hid _:=hW
  obtain ⟨f0,f1,f2,f3,f4,f5⟩:=B
  clear hW
  go_enter Tryz.func251,Tryz.ntmps251
  go_upto_region 1 with fail
  rw [← HW.out]
  go_wp2_with fail
  refine (HO.out _).mono ?_
  rintro e u1 ⟨rfl,b1⟩
  have B1:=HBB.out.below b1
  have HB1:Hid (Below w.heap.size w u1):=next HBW.out b1
  clear b1 f0 f1 f2 f3 f4 f5
  obtain ⟨f0,f1,f2,f3,f4,f5⟩:=B1
  simp only at f0 f1 f2 f3 f4 f5
  go_wp2
  go_ret
  exact ⟨one_int HE.out.symm,HB1.out⟩
def txF:ByteArray:=⟨#[102,114,97,117,100]⟩
def txN:ByteArray:=⟨#[110,111,110,101]⟩
def txT:ByteArray:=⟨#[116,119,105,99,101]⟩
def txA:ByteArray:=⟨#[97,109,111,117,110,116]⟩
def txQ:ByteArray:=⟨#[113,117,97,108,105,116,121]⟩
def txC:ByteArray:=⟨#[99,97,110,99,101,108,108,101,100]⟩
def rTxt (x:Int):ByteArray:=if x=4837 then txF else if x=4855 then txN else if x=4834 then txT else if x=4831 then txA else if x=4853 then txQ else if x=4841 then txC else ⟨#[]⟩
def rD0 (x:Int):Int:=if x=4837 then 85 else if x=4855 then 65 else if x=4834 then 45 else if x=4831 then 45 else if x=4853 then 65 else if x=4841 then 45 else 0
theorem rD0_no {x:Int} (h:x≠4837∧x≠4855∧x≠4834∧x≠4831∧x≠4853∧x≠4841):rD0 x=0:=by simp [rD0,h]
theorem rTxt_no {x:Int} (h:x≠4837∧x≠4855∧x≠4834∧x≠4831∧x≠4853∧x≠4841):rTxt x=⟨#[]⟩:=by simp [rTxt,h]
theorem rD0_yes {x:Int} (h:rOk x=true):rD0 x=rDays x:=by
 rcases r_cases x with rfl | rfl | rfl | rfl | rfl | rfl | h'
 iterate 6 rfl
 rw [rOk_no h'] at h;cases h
theorem rDays_bad {x:Int} (h:rOk x=false):rDays x = -1:=by
 rcases r_cases x with rfl | rfl | rfl | rfl | rfl | rfl | h'
 iterate 6 cases h
 exact rDays_no h'
theorem beq_no {a b:Int} (h:a≠b):(a == b)=false:=by simpa using h
theorem reasonOf_any (x:Int) (w:World) :
  Calls Tryz.prog 328 #[.int .i64 x] w fun e w'=>e=.returned (.tuple #[.agg #[.string (rTxt x),.int .i64 (rD0 x),.bool (rPart x),.bool (rProof x)],.bool (rOk x)])∧Below w.heap.size w w':=by
 rcases r_cases x with rfl | rfl | rfl | rfl | rfl | rfl | h
 iterate 6
  ·go_enter Tryz.func328,Tryz.ntmps328
   go_wp2
   go_returns
   exact ⟨rfl,by go_grown⟩
 ·have HV:Hid (Ending.returned (.tuple #[.agg #[.string (rTxt x),.int .i64 (rD0 x),.bool (rPart x),.bool (rProof x)],.bool (rOk x)])=.returned (.tuple #[.agg #[.string ⟨#[]⟩,.int .i64 0,.bool false,.bool false],.bool false])):=by
    rw [Hid,rTxt_no h,rD0_no h,rPart_no h,rProof_no h,rOk_no h]
  obtain ⟨h1,h2,h3,h4,h5,h6⟩:=h
  have g1:=beq_no h1
  have g2:=beq_no h2
  have g3:=beq_no h3
  have g4:=beq_no h4
  have g5:=beq_no h5
  have g6:=beq_no h6
  clear h1 h2 h3 h4 h5 h6
  go_enter Tryz.func328,Tryz.ntmps328
  go_wp2
  go_returns
  exact ⟨HV.out.symm,by go_grown⟩
theorem iROk_any (x:Int) (w:World) :
  Calls Tryz.prog 312 #[.int .i64 x] w fun e w'=>e=.returned (.bool (rOk x))∧Below w.heap.size w w':=by
 go_enter Tryz.func312,Tryz.ntmps312
 go_wp2_with fail
 refine (reasonOf_any x _).mono ?_
 rintro e w1 ⟨rfl,b1⟩
 go_wp2
 go_ret
 exact ⟨rfl,b1.alloc b1.size _⟩
theorem iRDays_any (x:Int) (w:World) :
  Calls Tryz.prog 335 #[.int .i64 x] w fun e w'=>e=.returned (.int .i64 (rDays x))∧Below w.heap.size w w':=by
 cases h:rOk x
 ·have HV:Hid _:=rDays_bad h
  go_enter Tryz.func335,Tryz.ntmps335
  go_wp2_with fail
  refine (reasonOf_any x _).mono ?_
  rintro e w1 ⟨rfl,b1⟩
  go_wp2
  go_ret
  exact ⟨one_int HV.out.symm,b1.alloc b1.size _⟩
 ·have HV:Hid _:=rD0_yes h
  go_enter Tryz.func335,Tryz.ntmps335
  go_wp2_with fail
  refine (reasonOf_any x _).mono ?_
  rintro e w1 ⟨rfl,b1⟩
  go_wp2
  go_ret
  exact ⟨one_int HV.out,b1.alloc b1.size _⟩
theorem iRPart_any (x:Int) (w:World) :
  Calls Tryz.prog 334 #[.int .i64 x] w fun e w'=>e=.returned (.bool (rPart x))∧Below w.heap.size w w':=by
 go_enter Tryz.func334,Tryz.ntmps334
 go_wp2_with fail
 refine (reasonOf_any x _).mono ?_
 rintro e w1 ⟨rfl,b1⟩
 go_wp2
 go_ret
 exact ⟨rfl,b1.alloc b1.size _⟩
theorem iRProof_any (x:Int) (w:World) :
  Calls Tryz.prog 332 #[.int .i64 x] w fun e w'=>e=.returned (.bool (rProof x))∧Below w.heap.size w w':=by
 go_enter Tryz.func332,Tryz.ntmps332
 go_wp2_with fail
 refine (reasonOf_any x _).mono ?_
 rintro e w1 ⟨rfl,b1⟩
 go_wp2
 go_ret
 exact ⟨rfl,b1.alloc b1.size _⟩
def rL:List Int:=[4837,4855,4834,4831,4853,4841]
def rAt (x:Int):Int:=if x=4837 then 0 else if x=4855 then 1 else if x=4834 then 2 else if x=4831 then 3 else if x=4853 then 4 else if x=4841 then 5 else -1
theorem rAt_no {x:Int} (h:x≠4837∧x≠4855∧x≠4834∧x≠4831∧x≠4853∧x≠4841):rAt x = -1:=by simp [rAt,h]
theorem rAt_ok (x:Int):decide (0≤rAt x)=rOk x:=by
 rcases r_cases x with rfl | rfl | rfl | rfl | rfl | rfl | h'
 iterate 6 rfl
 rw [rAt_no h',rOk_no h'];rfl
theorem rL_at {x:Int} {k:Nat} (hk:k<6) (h:rL.getD k 0=x):rAt x=k:=by
 rcases (show k=0∨k=1∨k=2∨k=3∨k=4∨k=5 by omega) with rfl | rfl | rfl | rfl | rfl | rfl <;> (subst h;rfl)
theorem rL_none {x:Int} (h:∀ j,j<6→rL.getD j 0≠x):rAt x = -1:=by
 have h0:=h 0 (by omega)
 have h1:=h 1 (by omega)
 have h2:=h 2 (by omega)
 have h3:=h 3 (by omega)
 have h4:=h 4 (by omega)
 have h5:=h 5 (by omega)
 simp [rL] at h0 h1 h2 h3 h4 h5
 exact rAt_no ⟨by omega,by omega,by omega,by omega,by omega,by omega⟩
theorem l08_any (x:Int) (w:World) :
  Calls Tryz.prog 298 #[.int .i64 x] w fun e w'=>e=.returned (.int .i64 (rAt x))∧Below w.heap.size w w':=by
 have hcA:∀ k,k<6→(w.alloc (.cells #[.int .i64 4837,.int .i64 4855,.int .i64 4834,.int .i64 4831,.int .i64 4853,.int .i64 4841] 3)).cell? ⟨w.heap.size,k,none⟩=some (.int .i64 (rL.getD k 0)):=by
  intro k hk
  rcases (show k=0∨k=1∨k=2∨k=3∨k=4∨k=5 by omega) with rfl | rfl | rfl | rfl | rfl | rfl <;> simp [rL]
 have hbel:Below w.heap.size w (w.alloc (.cells #[.int .i64 4837,.int .i64 4855,.int .i64 4834,.int .i64 4831,.int .i64 4853,.int .i64 4841] 3)):=(Below.refl _ _).alloc (Nat.le_refl _) _
 go_enter Tryz.func298,Tryz.ntmps298
 go_wp2
 go_loop [4] (fun i=>∃ k:Nat,k≤6∧i=.int .i64 k∧∀ j,j<k→rL.getD j 0≠x) (fun i=>6 - (intOf i).toNat)
 case atStart=>exact ⟨0,by omega,rfl,fun j hj=>by omega⟩
 case round =>
  obtain ⟨k,hk,rfl,hno⟩:=hrel
  have HN:Hid (∀ j,j<k→rL.getD j 0≠x):=hno
  clear hno
  by_cases hlt:k<6
  ·have a1:=hcA k hlt
   clear hcA
   obtain ⟨c,hc⟩:∃ c,rL.getD k 0=c:=⟨_,rfl⟩
   rw [hc] at a1
   have HC:Hid (rL.getD k 0=c):=hc
   clear hc
   cases he:(c == x)
   ·have HE:Hid (rL.getD k 0≠x):=by rw [HC.out];simpa [Hid] using he
    go_wp2
    go_round
    case rel=>exact ⟨k+1,by omega,by go_num,fun j hj=>by rcases (show j<k∨j=k from by omega) with h | rfl;exact HN.out j h;exact HE.out⟩
    case measure=>simp [intOf];omega
   ·have HE:Hid (rL.getD k 0=x):=by rw [HC.out];simpa [Hid] using he
    go_wp2
    go_ret
    exact ⟨one_int (rL_at hlt HE.out).symm,hbel⟩
  ·have:k=6:=by omega
   subst this
   clear hcA
   go_wp2
   go_ret
   exact ⟨one_int (rL_none HN.out).symm,hbel⟩
theorem sROk_any (x:Int) (w:World) :
  Calls Tryz.prog 259 #[.int .i64 x] w fun e w'=>e=.returned (.bool (rOk x))∧Below w.heap.size w w':=by
 have HV:Hid _:=rAt_ok x
 go_enter Tryz.func259,Tryz.ntmps259
 go_wp2_with fail
 refine (l08_any x _).mono ?_
 rintro e w1 ⟨rfl,b1⟩
 go_wp2
 go_ret
 exact ⟨one_bool HV.out,b1⟩
theorem sRPart_any (x:Int) (w:World) :
  Calls Tryz.prog 301 #[.int .i64 x] w fun e w'=>e=.returned (.bool (rPart x))∧w'=w:=by
 obtain ⟨p,hp⟩:∃ p,(x == 4831)=p:=⟨_,rfl⟩
 have HV:Hid (rPart x=(p || x == 4853)):=by rw [Hid,rPart,hp]
 cases p
 ·go_enter Tryz.func301,Tryz.ntmps301
  go_wp2
  go_ret
  exact ⟨one_bool (by rw [HV.out];rfl),rfl⟩
 ·go_enter Tryz.func301,Tryz.ntmps301
  go_wp2
  go_ret
  exact ⟨one_bool (by rw [HV.out];rfl),rfl⟩
theorem sRProof_any (x:Int) (w:World) :
  Calls Tryz.prog 300 #[.int .i64 x] w fun e w'=>e=.returned (.bool (rProof x))∧w'=w:=by
 obtain ⟨p,hp⟩:∃ p,(x == 4837)=p:=⟨_,rfl⟩
 have HV:Hid (rProof x=(p || x == 4834)):=by rw [Hid,rProof,hp]
 cases p
 ·go_enter Tryz.func300,Tryz.ntmps300
  go_wp2
  go_ret
  exact ⟨one_bool (by rw [HV.out];rfl),rfl⟩
 ·go_enter Tryz.func300,Tryz.ntmps300
  go_wp2
  go_ret
  exact ⟨one_bool (by rw [HV.out];rfl),rfl⟩
theorem rDays_at {x:Int} (h:rOk x=true):∃ k:Nat,k<6∧rAt x=k∧rDays x=([85,65,45,45,65,45]:List Int).getD k 0:=by
 rcases r_cases x with rfl | rfl | rfl | rfl | rfl | rfl | h'
 ·exact ⟨0,by decide,rfl,rfl⟩
 ·exact ⟨1,by decide,rfl,rfl⟩
 ·exact ⟨2,by decide,rfl,rfl⟩
 ·exact ⟨3,by decide,rfl,rfl⟩
 ·exact ⟨4,by decide,rfl,rfl⟩
 ·exact ⟨5,by decide,rfl,rfl⟩
 ·rw [rOk_no h'] at h;cases h
theorem sRDays_any (x:Int) (w:World) :
  Calls Tryz.prog 302 #[.int .i64 x] w fun e w'=>e=.returned (.int .i64 (rDays x))∧Below w.heap.size w w':=by
 cases h:rOk x
 ·have HV:Hid _:=rDays_bad h
  have hA:rAt x = -1:=by
   rcases r_cases x with rfl | rfl | rfl | rfl | rfl | rfl | h'
   iterate 6 cases h
   exact rAt_no h'
  have HA:Hid _:=hA
  clear hA
  go_enter Tryz.func302,Tryz.ntmps302
  go_wp2_with fail
  refine (l08_any x _).mono ?_
  rintro e w1 ⟨rfl,b1⟩
  rw [HA.out]
  go_wp2
  go_ret
  exact ⟨one_int HV.out.symm,b1⟩
 ·obtain ⟨k,hk,hA,hD⟩:=rDays_at h
  have HA:Hid _:=hA
  have HD:Hid _:=hD
  clear hA hD
  go_enter Tryz.func302,Tryz.ntmps302
  go_wp2_with fail
  refine (l08_any x _).mono ?_
  rintro e w1 ⟨rfl,b1⟩
  rw [HA.out]
  have bel:Below w.heap.size w (w1.alloc (.cells #[.int .i64 85,.int .i64 65,.int .i64 45,.int .i64 45,.int .i64 65,.int .i64 45] 3)):=b1.alloc b1.size _
  have hc:(w1.alloc (.cells #[.int .i64 85,.int .i64 65,.int .i64 45,.int .i64 45,.int .i64 65,.int .i64 45] 3)).cell? ⟨w1.heap.size,k,none⟩=some (.int .i64 (([85,65,45,45,65,45]:List Int).getD k 0)):=by
   rcases (show k=0∨k=1∨k=2∨k=3∨k=4∨k=5 by omega) with rfl | rfl | rfl | rfl | rfl | rfl <;> simp
  obtain ⟨v,hv⟩:∃ v,([85,65,45,45,65,45]:List Int).getD k 0=v:=⟨_,rfl⟩
  rw [hv] at hc
  have HV:Hid _:=hv
  have HB:Hid _:=bel
  clear hv bel b1 h
  go_wp2
  go_ret
  exact ⟨one_int (by rw [HD.out,HV.out]),HB.out⟩
def stepL:List Int:=[30,30,15,60,20]
def stepV (x:Int):Int:=if 0≤x∧x≤4 then stepL.getD x.toNat 0 else -1
theorem stepV_no {x:Int} (h:x<0∨4<x):stepV x = -1:=if_neg (by omega)
theorem stepV_yes {k:Nat} (h:k<5):stepV (k:Int)=stepL.getD k 0:=by rw [stepV,if_pos (by omega)];rfl
theorem step_cases (x:Int):(x<0∨4<x)∨∃ k:Nat,k<5∧x=(k:Int):=by
 by_cases h:x<0∨4<x
 ·exact .inl h
 ·exact .inr ⟨x.toNat,by omega,by omega⟩
def StepTab (w : World) : Prop := Lib.TabIs Tryz.prog w "loop.example/g00126/impl.stepDays" .i64 stepL
theorem StepTab.below {w w':World} (h:StepTab w) (hb:Below w.heap.size w w'):StepTab w':=Lib.tabBelow_of_tabIs h w' hb
theorem StepTab.cell {w:World} (h:StepTab w) (i:Nat) (hi:i<5):w.cell? ⟨16,i,none⟩=some (.int .i64 (stepL.getD i 0)) :=
 Lib.TabIs.cell h (by kernel_rfl) i hi
theorem iStep_any (x:Int) (w:World) (ht:StepTab w) :
  Calls Tryz.prog 331 #[.int .i64 x] w fun e w'=>e=.returned (.int .i64 (stepV x))∧w'=w:=by
 rcases step_cases x with h | ⟨k,hk,rfl⟩
 ·have HV:Hid _:=stepV_no h
  clear ht
  rcases h with h | h
  ·go_enter Tryz.func331,Tryz.ntmps331
   go_wp2
   go_ret
   exact ⟨one_int HV.out.symm,rfl⟩
  ·go_enter Tryz.func331,Tryz.ntmps331
   go_wp2
   go_ret
   exact ⟨one_int HV.out.symm,rfl⟩
 ·have hc:=ht.cell k hk
  have HL:Hid _:=stepV_yes hk
  obtain ⟨v,hv⟩:∃ v,stepL.getD k 0=v:=⟨_,rfl⟩
  rw [hv] at hc
  have HV:Hid _:=hv
  clear ht hv
  go_enter Tryz.func331,Tryz.ntmps331
  go_wp2
  go_ret
  exact ⟨one_int (by rw [HL.out,HV.out]),rfl⟩
theorem sStep_any (x:Int) (w:World) :
  Calls Tryz.prog 223 #[.int .i64 x] w fun e w'=>e=.returned (.int .i64 (stepV x))∧Below w.heap.size w w':=by
 rcases step_cases x with h | ⟨k,hk,rfl⟩
 ·have HV:Hid _:=stepV_no h
  have hi:inB x 0 4=false:=inB_neg h
  go_enter Tryz.func223,Tryz.ntmps223
  go_wp2_with (go_at_call 134;refine (in_any _ _ _ _).mono ?_;rintro e w' ⟨rfl,rfl⟩)
  go_ret
  exact ⟨one_int HV.out.symm,Below.refl _ _⟩
 ·have hi:inB (k:Int) 0 4=true:=inB_pos (by omega) (by omega)
  have HB:Hid (Below w.heap.size w (w.alloc (.cells #[.int .i64 30,.int .i64 30,.int .i64 15,.int .i64 60,.int .i64 20] 3))):=(Below.refl _ _).alloc (Nat.le_refl _) _
  have hc:(w.alloc (.cells #[.int .i64 30,.int .i64 30,.int .i64 15,.int .i64 60,.int .i64 20] 3)).cell? ⟨w.heap.size,k,none⟩=some (.int .i64 (stepL.getD k 0)):=by
   rcases (show k=0∨k=1∨k=2∨k=3∨k=4 by omega) with rfl | rfl | rfl | rfl | rfl <;> simp [stepL]
  have HL:Hid _:=stepV_yes hk
  obtain ⟨v,hv⟩:∃ v,stepL.getD k 0=v:=⟨_,rfl⟩
  rw [hv] at hc
  have HV:Hid _:=hv
  clear hv
  go_enter Tryz.func223,Tryz.ntmps223
  go_wp2_with (go_at_call 134;refine (in_any _ _ _ _).mono ?_;rintro e w' ⟨rfl,rfl⟩)
  go_ret
  exact ⟨one_int (by rw [HL.out,HV.out]),HB.out⟩
end Go.Proofs.YtomiclakhjncbaaGreatDoor
namespace Go.Proofs.YtomiclakhjncbaaGreatDoor
set_option maxRecDepth 100000
set_option maxHeartbeats 12800000
def look:List Ln→Int→Int→Option Int
 | [],_,_=>none
 | x::r,a,c=>if x.1=a∧x.2.1=c then some x.2.2 else look r a c
def upd (f:Int→Int→Option Int) (a c m:Int):Int→Int→Option Int:=fun a' c' =>
 if a'=a∧c'=c then (if (f a c).getD 0+m=0 then none else some ((f a c).getD 0+m)) else f a' c'
def Srt (ls:List Ln):Prop:=ls.Pairwise (fun x y=>lnLt x y=true)
def NZ (ls:List Ln):Prop:=∀ x ∈ ls,x.2.2≠0
theorem lnLt_iff {x y:Ln} : lnLt x y=true ↔ x.1<y.1∨x.1=y.1∧x.2.1<y.2.1:=by simp [lnLt]
theorem lnLt_trans {x y z:Ln} (h1:lnLt x y=true) (h2:lnLt y z=true):lnLt x z=true:=by
 rw [lnLt_iff] at *;omega
theorem look_none {ls:List Ln} {a c:Int} (h:∀ x ∈ ls,¬ (x.1=a∧x.2.1=c)):look ls a c=none:=by
 induction ls with
 | nil=>rfl
 | cons y r ih =>
  simp only [look]
  rw [if_neg (h y (List.mem_cons_self ..))]
  exact ih fun x hx=>h x (List.mem_cons_of_mem _ hx)
theorem look_mem {ls:List Ln} {a c v:Int} (h:look ls a c=some v):(a,c,v) ∈ ls:=by
 induction ls with
 | nil=>simp [look] at h
 | cons y r ih =>
  simp only [look] at h
  split at h
  ·rename_i hk
   obtain ⟨y1,y2,y3⟩:=y
   simp at hk h
   obtain ⟨rfl,rfl⟩:=hk
   subst h
   exact List.mem_cons_self ..
  ·exact List.mem_cons_of_mem _ (ih h)
def Apart (ls:List Ln):Prop:=ls.Pairwise (fun x y=>¬ (x.1=y.1∧x.2.1=y.2.1))
theorem Srt.apart {ls:List Ln} (h:Srt ls):Apart ls:=h.imp fun {x y} hxy=>by rw [lnLt_iff] at hxy;omega
theorem mem_look {ls:List Ln} (h:Apart ls) {a c v:Int} : (a,c,v) ∈ ls ↔ look ls a c=some v:=by
 refine ⟨fun hm=>?_,look_mem⟩
 induction ls with
 | nil=>cases hm
 | cons y r ih =>
  obtain ⟨h1,h2⟩:=List.pairwise_cons.1 h
  rcases List.mem_cons.1 hm with rfl | hr
  ·simp [look]
  ·have hk:=h1 _ hr
   simp only at hk
   simp only [look]
   rw [if_neg hk]
   exact ih h2 hr
theorem look_snoc (ls:List Ln) (x:Ln) (a c:Int):look (ls++[x]) a c=match look ls a c with | some v=>some v | none=>if x.1=a∧x.2.1=c then some x.2.2 else none:=by
 induction ls with
 | nil=>simp [look]
 | cons y r ih =>
  simp only [List.cons_append,look]
  split
  ·rfl
  ·exact ih
theorem look_take {ls:List Ln} (hs:Srt ls) (hz:NZ ls) {k:Nat} (hk:k<ls.length):look (ls.take (k+1))=upd (look (ls.take k)) (lnAt ls k).1 (lnAt ls k).2.1 (lnAt ls k).2.2:=by
 have hn:look (ls.take k) (lnAt ls k).1 (lnAt ls k).2.1=none:=by
  refine look_none fun x hx=>?_
  obtain ⟨i,hi,rfl⟩:=List.mem_iff_getElem.1 hx
  simp only [List.length_take] at hi
  have hp:=List.pairwise_iff_getElem.1 hs i k (by omega) hk (by omega)
  rw [lnLt_iff] at hp
  rw [List.getElem_take,lnAt_is hk]
  omega
 have h0:(lnAt ls k).2.2≠0:=hz _ (lnAt_mem hk)
 funext a c
 rw [take_lnAt ls k hk,look_snoc]
 unfold upd
 rw [hn]
 by_cases he:a=(lnAt ls k).1∧c=(lnAt ls k).2.1
 ·obtain ⟨rfl,rfl⟩:=he
  rw [hn]
  simp [h0]
 ·rw [if_neg he,if_neg (fun h=>he ⟨h.1.symm,h.2.symm⟩)]
  cases look (ls.take k) a c <;> rfl
theorem mem_addL {ls:List Ln} {a c m:Int} {x:Ln} (h:x ∈ addL ls a c m):x ∈ ls∨x.1=a∧x.2.1=c:=by
 induction ls with
 | nil=>simp [addL] at h;subst h;exact .inr ⟨rfl,rfl⟩
 | cons y r ih =>
  simp only [addL] at h
  split at h
  ·split at h
   ·split at h
    ·rcases List.mem_cons.1 h with rfl | h
     ·exact .inr ⟨rfl,rfl⟩
     ·exact .inl (List.mem_cons_of_mem _ h)
    ·exact .inl (List.mem_cons_of_mem _ h)
   ·rcases List.mem_cons.1 h with rfl | h
    ·exact .inr ⟨rfl,rfl⟩
    ·exact .inl h
  ·rcases List.mem_cons.1 h with rfl | h
   ·exact .inl (List.mem_cons_self ..)
   ·exact (ih h).imp (List.mem_cons_of_mem _) id
theorem reach_iff {x:Ln} {a c:Int} : reach x a c=true ↔ a<x.1∨x.1=a∧c≤x.2.1:=by simp [reach]
theorem srt_addL {ls:List Ln} (hs:Srt ls) (a c m:Int):Srt (addL ls a c m):=by
 induction ls with
 | nil=>simp [addL,Srt]
 | cons y r ih =>
  obtain ⟨h1,h2⟩:=List.pairwise_cons.1 hs
  simp only [addL]
  split
  ·rename_i hr
   rw [reach_iff] at hr
   split
   ·rename_i he
    split
    ·refine List.pairwise_cons.2 ⟨fun z hz=>?_,h2⟩
     have:=h1 z hz
     rw [lnLt_iff] at this ⊢
     simp only
     omega
    ·exact h2
   ·rename_i he
    refine List.pairwise_cons.2 ⟨fun z hz=>?_,hs⟩
    have hy:lnLt (a,c,m) y=true:=by rw [lnLt_iff];simp only;omega
    rcases List.mem_cons.1 hz with rfl | hz
    ·exact hy
    ·exact lnLt_trans hy (h1 z hz)
  ·rename_i hr
   rw [reach_iff] at hr
   refine List.pairwise_cons.2 ⟨fun z hz=>?_,ih h2⟩
   rcases mem_addL hz with hz | ⟨e1,e2⟩
   ·exact h1 z hz
   ·rw [lnLt_iff];omega
theorem look_addL {ls:List Ln} (hs:Srt ls) (a c:Int) {m:Int} (hm:m≠0):look (addL ls a c m)=upd (look ls) a c m:=by
 induction ls with
 | nil =>
  funext a' c'
  simp only [addL,look,upd,Option.getD_none,Int.zero_add,if_neg hm]
  by_cases h:a'=a∧c'=c
  ·rw [if_pos h,if_pos ⟨h.1.symm,h.2.symm⟩]
  ·rw [if_neg h,if_neg (fun q=>h ⟨q.1.symm,q.2.symm⟩)]
 | cons y r ih =>
  obtain ⟨h1,h2⟩:=List.pairwise_cons.1 hs
  have ih':=ih h2
  funext a' c'
  simp only [addL]
  split
  ·rename_i hr
   rw [reach_iff] at hr
   split
   ·rename_i he
    have hnr:look r a c=none:=look_none fun x hx hk=>by
     have:=h1 x hx
     rw [lnLt_iff] at this;omega
    have hl:look (y::r) a c=some y.2.2:=by simp [look,he]
    unfold upd
    rw [hl]
    simp only [Option.getD_some]
    split
    ·rename_i h0
     by_cases h:a'=a∧c'=c
     ·rw [if_pos h];simp [look,h.1,h.2]
     ·rw [if_neg h]
      have e1:¬ (a=a'∧c=c'):=fun q=>h ⟨q.1.symm,q.2.symm⟩
      simp only [look]
      rw [if_neg e1,if_neg (by rw [he.1,he.2];exact e1)]
    ·rename_i h0
     have h0':y.2.2+m=0:=by omega
     by_cases h:a'=a∧c'=c
     ·rw [if_pos h,if_pos h0',h.1,h.2];exact hnr
     ·rw [if_neg h]
      have e1:¬ (a=a'∧c=c'):=fun q=>h ⟨q.1.symm,q.2.symm⟩
      simp only [look]
      rw [if_neg (by rw [he.1,he.2];exact e1)]
   ·rename_i he
    have hn:look (y::r) a c=none:=look_none fun x hx hk=>by
     rcases List.mem_cons.1 hx with rfl | hx
     ·exact he hk
     ·have:=h1 x hx
      rw [lnLt_iff] at this;omega
    unfold upd
    rw [hn]
    simp only [Option.getD_none,Int.zero_add,if_neg hm]
    by_cases h:a'=a∧c'=c
    ·rw [if_pos h];simp [look,h.1,h.2]
    ·have e1:¬ (a=a'∧c=c'):=fun q=>h ⟨q.1.symm,q.2.symm⟩
     rw [if_neg h];conv=>lhs;rw [look]
     rw [if_neg e1]
  ·rename_i hr
   rw [reach_iff] at hr
   have hya:¬ (y.1=a∧y.2.1=c):=by omega
   have hl:look (y::r) a c=look r a c:=by simp only [look];rw [if_neg hya]
   have hx:=congrFun (congrFun ih' a') c'
   conv=>lhs;rw [look]
   unfold upd at hx ⊢
   rw [hl,hx]
   by_cases h:a'=a∧c'=c
   ·rw [if_neg (by rw [h.1,h.2];exact hya),if_pos h,if_pos h]
   ·rw [if_neg h,if_neg h];simp only [look]
theorem eq_of_look {l1 l2:List Ln} (h1:Srt l1) (h2:Srt l2) (h:∀ a c,look l1 a c=look l2 a c):l1=l2:=by
 have hm:∀ x:Ln,x ∈ l1 ↔ x ∈ l2:=fun ⟨a,c,v⟩=>by rw [mem_look h1.apart,mem_look h2.apart,h]
 clear h
 induction l1 generalizing l2 with
 | nil =>
  cases l2 with
  | nil=>rfl
  | cons y r=>exact absurd ((hm y).2 (List.mem_cons_self ..)) (by simp)
 | cons x r ih =>
  cases l2 with
  | nil=>exact absurd ((hm x).1 (List.mem_cons_self ..)) (by simp)
  | cons y s =>
   obtain ⟨p1,p2⟩:=List.pairwise_cons.1 h1
   obtain ⟨q1,q2⟩:=List.pairwise_cons.1 h2
   have irr:∀ z:Ln,lnLt z z=true→False:=fun z hz=>by rw [lnLt_iff] at hz;omega
   have hxy:x=y:=by
    rcases List.mem_cons.1 ((hm x).1 (List.mem_cons_self ..)) with h | h
    ·exact h
    ·rcases List.mem_cons.1 ((hm y).2 (List.mem_cons_self ..)) with h' | h'
     ·exact h'.symm
     ·exact (irr x (lnLt_trans (p1 y h') (q1 x h))).elim
   subst hxy
   refine congrArg (x::·) (ih p2 q2 fun z=>⟨fun hz=>?_,fun hz=>?_⟩)
   ·rcases List.mem_cons.1 ((hm z).1 (List.mem_cons_of_mem _ hz)) with rfl | h
    ·exact (irr z (p1 z hz)).elim
    ·exact h
   ·rcases List.mem_cons.1 ((hm z).2 (List.mem_cons_of_mem _ hz)) with rfl | h
    ·exact (irr z (q1 z hz)).elim
    ·exact h
theorem srt_of_linesOk {ls:List Ln} (h:linesOk none ls=true):Srt ls:=by
 have key:∀ (r:List Ln) (p:Ln),linesOk (some p) r=true→(∀ x ∈ r,lnLt p x=true)∧Srt r:=by
  intro r
  induction r with
  | nil=>intro p _;exact ⟨(fun x hx=>by cases hx),List.Pairwise.nil⟩
  | cons y s ih =>
   intro p hp
   simp only [linesOk,Bool.and_eq_true] at hp
   obtain ⟨a1,a2⟩:=ih y hp.2
   refine ⟨fun x hx=>?_,List.pairwise_cons.2 ⟨a1,a2⟩⟩
   rcases List.mem_cons.1 hx with rfl | hx
   ·exact hp.1.2
   ·exact lnLt_trans hp.1.2 (a1 x hx)
 cases ls with
 | nil=>exact List.Pairwise.nil
 | cons y s =>
  simp only [linesOk,Bool.and_eq_true] at h
  obtain ⟨a1,a2⟩:=key s y h.2
  exact List.pairwise_cons.2 ⟨a1,a2⟩
theorem nz_of_linesOk {ls:List Ln} (h:linesOk none ls=true):NZ ls:=fun x hx=>(lnOk_is (linesOk_mem h x hx)).2.2.2
theorem cur_mem {c:Int} (h:0≤digs c):c ∈ curL:=by
 unfold digs at h
 simp only [curL,List.mem_cons,List.not_mem_nil,or_false]
 repeat' split at h
 all_goals omega
theorem sumC_none {c:Int} {ls:List Ln} (h:∀ x ∈ ls,x.2.1≠c):sumC c ls=0:=by
 induction ls with
 | nil=>rfl
 | cons y r ih =>
  have h1:=h y (List.mem_cons_self ..)
  have h2:=ih fun x hx=>h x (List.mem_cons_of_mem _ hx)
  simp only [sumC,List.map_cons,List.sum_cons] at h2 ⊢
  rw [if_neg h1,h2];rfl
theorem evenL_iff {ls:List Ln} (h:∀ x ∈ ls,0≤digs x.2.1):evenL ls=true ↔ ∀ x ∈ ls,sumC x.2.1 ls=0:=by
 unfold evenL
 rw [List.all_eq_true]
 constructor
 ·intro ha x hx
  simpa using ha _ (cur_mem (h x hx))
 ·intro ha c _
  by_cases hc:∃ x ∈ ls,x.2.1=c
  ·obtain ⟨x,hx,rfl⟩:=hc
   simpa using ha x hx
  ·have:=sumC_none (c:=c) (ls:=ls) fun x hx e=>hc ⟨x,hx,e⟩
   simp [this]
def cmpI (a b:Int):Int:=if a<b then -1 else if b<a then 1 else 0
def orI (x y:Int):Int:=if x≠0 then x else y
def cmpL (x y:Ln):Int:=orI (cmpI x.1 y.1) (cmpI x.2.1 y.2.1)
theorem cmpL_lt (x y:Ln):cmpL x y<0 ↔ lnLt x y=true:=by
 simp only [cmpL,orI,cmpI,lnLt,decide_eq_true_eq]
 repeat' split
 all_goals omega
end Go.Proofs.YtomiclakhjncbaaGreatDoor
namespace Go.Proofs.YtomiclakhjncbaaGreatDoor.Kb
open Go.RowKit
set_option maxRecDepth 100000
set_option maxHeartbeats 12800000
theorem scan_no {l:List UInt8} (h:∀ c ∈ l,c≠32):∀ i,i≤l.length→scanW l i=([],0):=by
 intro i
 induction i with
 | zero=>intro _;rfl
 | succ i ih =>
  intro hi
  have hg:l.getD i 0=l[i]:=by
   rw [List.getD_eq_getElem?_getD,List.getElem?_eq_getElem (by omega)];rfl
  rw [scanW_no (by rw [hg];exact h _ (List.getElem_mem _))]
  exact ih (by omega)
theorem words_none {l:List UInt8} (h:∀ c ∈ l,c≠32):wordsW l=[l]:=by
 rw [wordsW,scan_no h _ (Nat.le_refl _)];rfl
theorem scan_headK {x r:List UInt8} (hx:∀ c ∈ x,c≠32):∀ i,i≤x.length→scanW (x++32::r) i=([],0):=by
 intro i
 induction i with
 | zero=>intro _;rfl
 | succ i ih =>
  intro hi
  have hg:(x++32::r).getD i 0=x[i]:=by
   rw [List.getD_eq_getElem?_getD,List.getElem?_append_left (by omega),List.getElem?_eq_getElem (by omega)]
   rfl
  rw [scanW_no (by rw [hg];exact hx _ (List.getElem_mem _))]
  exact ih (by omega)
theorem drop_xK (x r:List UInt8) (s:Nat):(x++32::r).drop (x.length+1+s)=r.drop s:=by
 rw [List.drop_append,List.drop_of_length_le (by omega),List.nil_append,show x.length+1+s - x.length=s+1 from by omega]
 rfl
theorem scan_tailK {x r:List UInt8} (hx:∀ c ∈ x,c≠32):∀ j,j≤r.length→scanW (x++32::r) (x.length+1+j)=(x::(scanW r j).1,x.length+1+(scanW r j).2):=by
 intro j
 induction j with
 | zero =>
  intro _
  have hg:(x++32::r).getD x.length 0=32:=by simp [List.getD_eq_getElem?_getD]
  show scanW (x++32::r) (x.length+1)=_
  rw [scanW_yes hg,scan_headK hx _ (Nat.le_refl _)]
  simp [scanW]
 | succ j ih =>
  intro hj
  have h:=ih (by omega)
  have hg:(x++32::r).getD (x.length+1+j) 0=r.getD j 0:=by
   rw [List.getD_eq_getElem?_getD,List.getElem?_append_right (by omega),show x.length+1+j - x.length=j+1 from by omega]
   simp [List.getD_eq_getElem?_getD]
  have hle:=(scanW_le r j).1
  by_cases h32:r.getD j 0=32
  ·rw [show x.length+1+(j+1)=(x.length+1+j)+1 from by omega,scanW_yes (by rw [hg];exact h32),h,scanW_yes h32]
   simp only [List.cons_append]
   rw [drop_xK,show x.length+1+j - (x.length+1+(scanW r j).2)=j - (scanW r j).2 from by omega]
   rfl
  ·rw [show x.length+1+(j+1)=(x.length+1+j)+1 from by omega,scanW_no (by rw [hg];exact h32),h,scanW_no h32]
theorem words_consK {x r:List UInt8} (hx:∀ c ∈ x,c≠32):wordsW (x++32::r)=x::wordsW r:=by
 have h:=scan_tailK hx (r:=r) r.length (Nat.le_refl _)
 have hl:(x++32::r).length=x.length+1+r.length:=by simp;omega
 rw [wordsW,hl,h,wordsW]
 simp only [List.cons_append]
 rw [drop_xK]
theorem index_none {c:UInt8} : ∀ {l:List UInt8},(∀ x ∈ l,x≠c)→Lib.indexByte l c = -1
 | [],_=>rfl
 | b::l,h=>by
  have hb:(b == c)=false:=by simpa using h b (by simp)
  rw [Lib.indexByte,hb,index_none (fun x hx=>h x (by simp [hx]))]
  simp
theorem index_first {c:UInt8} {r:List UInt8} : ∀ {x:List UInt8},(∀ y ∈ x,y≠c)→Lib.indexByte (x++c::r) c=x.length
 | [],_=>by simp [Lib.indexByte]
 | b::l,h=>by
  have hb:(b == c)=false:=by simpa using h b (by simp)
  have ih:=index_first (r:=r) (x:=l) (fun y hy=>h y (by simp [hy]))
  rw [List.cons_append,Lib.indexByte,hb,ih]
  have:¬ ((l.length:Int) = -1):=by omega
  simp [this]
theorem split_words:∀ (n:Nat) (l:List UInt8),l.length≤n→Lib.splitK [32] 0 (l.count 32) l=wordsW l
 | 0,l,h=>by
  have:l=[]:=List.eq_nil_of_length_eq_zero (by omega)
  subst this
  rw [words_none (fun c hc=>by cases hc)]
  rfl
 | n+1,l,h=>by
  by_cases hm:(32:UInt8) ∈ l
  ·obtain ⟨x,r,rfl,hx⟩:=List.eq_append_cons_of_mem hm
   have hx':∀ c ∈ x,c≠32:=fun c hc e=>hx (e ▸ hc)
   have h0:x.count 32=0:=List.count_eq_zero.2 hx
   have hc:(x++32::r).count 32=r.count 32+1:=by
    rw [List.count_append,h0,List.count_cons_self];omega
   have hi:Lib.index (x++32::r) [32]=(x.length:Int):=by rw [Lib.index_one,index_first hx']
   rw [hc,Lib.splitK,hi,if_neg (by simp),words_consK hx']
   have e1:(x++32::r).take ((x.length:Int).toNat+0)=x:=by simp
   have e2:(x++32::r).drop ((x.length:Int).toNat+[(32:UInt8)].length)=r:=by simp
   rw [e1,e2,split_words n r (by simp at h;omega)]
  ·have hx:∀ c ∈ l,c≠32:=fun c hc e=>hm (e ▸ hc)
   rw [List.count_eq_zero.2 hm,words_none hx]
   rfl
theorem split_is (l:List UInt8):((Lib.splitB ⟨#[32]⟩ 0 (Lib.countB ⟨l.toArray⟩ ⟨#[32]⟩) ⟨l.toArray⟩).map Value.string)=scells (wordsW l)∧Lib.countB ⟨l.toArray⟩ ⟨#[32]⟩+1=(wordsW l).length:=by
 have hc:Lib.countB ⟨l.toArray⟩ ⟨#[32]⟩=l.count 32:=by
  show Lib.count l.toArray.toList [32]=l.count 32
  rw [Lib.count_one]
 have hd:=Lib.splitB_data ⟨#[32]⟩ 0 (l.count 32) ⟨l.toArray⟩
 have hd2:(Lib.splitB ⟨#[32]⟩ 0 (l.count 32) ⟨l.toArray⟩).map (·.data.toList)=wordsW l:=by
  rw [hd];exact split_words l.length l (Nat.le_refl _)
 have hl:=Lib.splitB_all ⟨#[32]⟩ (by decide) 0 (l.count 32) ⟨l.toArray⟩ hc
 rw [hc]
 constructor
 ·rw [← hd2,scells,List.map_map]
  apply List.map_congr_left
  intro s _
  simp [scell]
 ·rw [← hd2,List.length_map,hl]
theorem kSplit (l:List UInt8) (m:Int) (w:World) (hl:l.length≤1048576) (hm:w.cell? ⟨10,0,none⟩=some (.int .i64 m)) :
  Calls Tryz.prog 66 #[.string ⟨l.toArray⟩,.string ⟨#[32]⟩] w fun e w'=>∃ a,e=.returned (.slice a (wordsW l).length (wordsW l).length)∧TxtsAt w' a (wordsW l)∧Below w.heap.size w w':=by
 obtain ⟨h1,h2⟩:=split_is l
 have hs:(⟨l.toArray⟩:ByteArray).size<4294967281:=by
  show l.toArray.size<_
  rw [List.size_toArray];omega
 refine (Tryz.strings_Split ⟨l.toArray⟩ ⟨#[32]⟩ m w hs hm (by decide)).mono ?_
 rintro e w' ⟨rfl,rfl⟩
 rw [h1,h2]
 refine ⟨some ⟨w.heap.size,0,none⟩,rfl,.inr ⟨w.heap.size,0,rfl,by simp,fun i hi=>?_⟩,(Below.refl _ _).alloc (Nat.le_refl _) _⟩
 have:=scells_at (wordsW l) i hi
 simpa [go_sem] using this
end Go.Proofs.YtomiclakhjncbaaGreatDoor.Kb
namespace Go.Proofs.YtomiclakhjncbaaGreatDoor
open Go.RowKit
set_option maxRecDepth 100000
set_option maxHeartbeats 12800000
def ccell (x:Cd):List Value:=[.int .i64 x.1,.int .i64 x.2]
def ccells (H:List Cd):List Value:=H.flatMap ccell
theorem ccells_cons (x:Cd) (r:List Cd):ccells (x::r)=.int .i64 x.1::.int .i64 x.2::ccells r:=rfl
theorem ccells_append (a b:List Cd):ccells (a++b)=ccells a++ccells b:=by simp [ccells]
theorem ccells_at (H:List Cd):∀ k,k<H.length→(ccells H)[k*2]?=some (.int .i64 (cdAt H k).1)∧(ccells H)[k*2+1]?=some (.int .i64 (cdAt H k).2):=by
 induction H with
 | nil=>intro k h;simp at h
 | cons x r ih =>
  intro k h
  rw [ccells_cons]
  cases k with
  | zero=>exact ⟨rfl,rfl⟩
  | succ k =>
   have:=ih k (by simpa using h)
   rw [show (k+1) * 2=k*2+1+1 by omega,List.getElem?_cons_succ,List.getElem?_cons_succ,List.getElem?_cons_succ,List.getElem?_cons_succ]
   exact this
theorem ccells_set (H:List Cd) (x:Cd):∀ k,k<H.length→((ccells H).set (k*2) (.int .i64 x.1)).set (k*2+1) (.int .i64 x.2)=ccells (H.set k x):=by
 induction H with
 | nil=>intro k h;simp at h
 | cons g r ih =>
  intro k h
  rw [ccells_cons]
  cases k with
  | zero=>rfl
  | succ k =>
   have:=ih k (by simpa using h)
   rw [show (k+1) * 2=k*2+1+1 by omega,List.set_cons_succ,List.set_cons_succ,List.set_cons_succ,List.set_cons_succ,this]
   rfl
theorem ccells_one (H:List Cd):∀ u ∈ ccells H,u.oneCell'=true:=by
 intro u hu
 obtain ⟨a,_,h⟩:=List.mem_flatMap.1 hu
 simp only [ccell,List.mem_cons,List.not_mem_nil,or_false] at h
 rcases h with rfl | rfl <;> rfl
theorem infoHp:(Tryz.prog.info? 294).map (fun i=>(i.zero,i.size,i.bytes))=some (some (.agg #[.int .i64 0,.int .i64 0]),2,16):=by kernel_rfl
structure HP (q:Option (Nat×Obj)) (w:World) (H:List Cd) (ao:Option Addr) (cap:Nat) (u:World):Prop where
 bel:Below w.heap.size w u
 box:u.cell? ⟨w.heap.size,0,none⟩=some (.slice ao H.length cap)
 fz:u.frozen? ⟨w.heap.size,0,none⟩=false
 own:u.ownsRow (w.heap.size+1) 294 2 (.slice ao H.length cap) H.length (ccells H)
 kp:∀ b o,q=some (b,o)→u.heap[b]?=some o∧w.heap.size<b∧∀ x,(Value.slice ao H.length cap).ownBlock=some x→x≠b
theorem HP.lt {q:Option (Nat×Obj)} {w u:World} {H:List Cd} {ao:Option Addr} {cap:Nat} (h:HP q w H ao cap u):w.heap.size<u.heap.size:=World.block_lt_of_cell? u _ h.box
theorem keepC {w w':World} {base n size:Nat} {t:TypeId} {v:Value} {xs:List Value} (h:w.ownsRow base t size v n xs) (hb:Below w.heap.size w w'):w'.ownsRow base t size v n xs:=by
 obtain ⟨h1,h2⟩:=h
 refine ⟨h1,?_⟩
 rcases h2 with h | ⟨g,cap,cur,hv,hg,hh,a1,a2,a3,a4⟩
 ·exact .inl h
 ·have hlt:g<w.heap.size:=(Array.getElem?_eq_some_iff.1 hh).1
  exact .inr ⟨g,cap,cur,hv,hg,(hb.block g hlt).trans hh,a1,a2,a3,a4⟩
theorem HP.below {q:Option (Nat×Obj)} {w u u':World} {H:List Cd} {ao:Option Addr} {cap:Nat} (h:HP q w H ao cap u) (b:Below u.heap.size u u'):HP q w H ao cap u' :=
 ⟨h.bel.trans (b.mono h.bel.size),(b.cell (p:=⟨w.heap.size,0,none⟩) h.lt).trans h.box,(b.frozen (p:=⟨w.heap.size,0,none⟩) h.lt).trans h.fz,keepC h.own b,fun x o e=>by
  obtain ⟨h1,h2,h3⟩:=h.kp x o e
  exact ⟨(b.block x (Array.getElem?_eq_some_iff.1 h1).1).trans h1,h2,h3⟩⟩
theorem HP.row {q:Option (Nat×Obj)} {w u:World} {H:List Cd} {ao:Option Addr} {cap:Nat} (h:HP q w H ao cap u) (h0:0<H.length):∃ g,ao=some ⟨g,0,none⟩∧w.heap.size<g∧g<u.heap.size:=by
 rcases h.own.2 with ⟨hv,hn⟩ | ⟨g,c,cur,hv,hg,_⟩
 ·omega
 ·obtain ⟨rfl,rfl⟩:ao=some ⟨g,0,none⟩∧cap=c:=by simpa using hv
  exact ⟨g,rfl,by omega,(h.own.lt g rfl).2⟩
theorem HP.at {q:Option (Nat×Obj)} {w u:World} {H:List Cd} {g:Nat} {cap:Nat} (h:HP q w H (some ⟨g,0,none⟩) cap u) {k:Nat} (hk:k<H.length):u.cell? ⟨g,k*2,none⟩=some (.int .i64 (cdAt H k).1)∧u.cell? ⟨g,k*2+1,none⟩=some (.int .i64 (cdAt H k).2):=by
 have hl:=h.own.1
 rw [h.own.cellAt (k*2) (by omega),h.own.cellAt (k*2+1) (by omega)]
 exact ccells_at H k hk
theorem HP.apart {q:Option (Nat×Obj)} {w u:World} {H:List Cd} {ao:Option Addr} {cap:Nat} (h:HP q w H ao cap u):some w.heap.size≠(Value.slice ao H.length cap).ownBlock:=fun e=>by have:=(h.own.lt _ e.symm).1;omega
theorem setC_other {w:World} {g k g' k':Nat} {v u:Value} (h:g≠g') (hc:w.cell? ⟨g',k',none⟩=some u):(w.setCell ⟨g,k,none⟩ v).cell? ⟨g',k',none⟩=some u:=by
 rw [World.cell?_setCell_other w ⟨g,k,none⟩ v (b:=⟨g',k',none⟩) (fun e=>by injection e with e1 e2;exact h e1)];exact hc
theorem HP.setAt {q:Option (Nat×Obj)} {w u:World} {H:List Cd} {g:Nat} {cap:Nat} (h:HP q w H (some ⟨g,0,none⟩) cap u) {k:Nat} (hk:k<H.length) (x:Cd):HP q w (H.set k x) (some ⟨g,0,none⟩) cap ((u.setCell ⟨g,k*2,none⟩ (.int .i64 x.1)).setCell ⟨g,k*2+1,none⟩ (.int .i64 x.2)):=by
 obtain ⟨g',e,hg,_⟩:=h.row (by omega)
 obtain rfl:g=g':=by simpa using e
 have R0:=h.own.stored (k*2) (.int .i64 x.1)
 have R1:=R0.1.stored (k*2+1) (.int .i64 x.2)
 have R:=R1.1
 rw [ccells_set H x k hk] at R
 refine ⟨(h.bel.setCell (Nat.le_of_lt hg) _).setCell (Nat.le_of_lt hg) _,?_,?_,by rw [List.length_set];exact R,fun b o e=>?_⟩
 ·rw [List.length_set]
  exact setC_other (by omega) (setC_other (by omega) h.box)
 ·simp [h.fz]
 ·obtain ⟨h1,h2,h3⟩:=h.kp b o e
  have hgb:g≠b:=h3 g rfl
  refine ⟨?_,h2,by rw [List.length_set];exact h3⟩
  rw [Below.heap_setCell _ _ _ _ (fun e=>hgb e.symm),Below.heap_setCell _ _ _ _ (fun e=>hgb e.symm)]
  exact h1
theorem methPush (a : Value) (w : World) : (method 501 322 a "Push").run Tryz.prog w = .ok (403, a) w := by kernel_rfl
theorem methPop (a : Value) (w : World) : (method 501 322 a "Pop").run Tryz.prog w = .ok (402, a) w := by kernel_rfl
theorem nilchk (a : Addr) (nm : String) (w : World) : (Builtin.ssaWrapNilChk_ #[322] 322 #[.pointer (some a), strVal "", strVal nm]).run Tryz.prog w = .ok (.pointer (some a)) w := rfl
theorem recv_at (nm:String) {a:Addr} {v:Value} {w:World} (h:w.cell? a=some v):(receiverAt 322 (.val (.pointer (some a))) false (some nm)).run Tryz.prog w=.ok v w:=by
 simp [receiverAt,run_underlying Tryz.underlying322,Place.get,nilchk,asAddr,loadVar,Tryz.isAgg291,h]
theorem meth_found {t:TypeId} {nm:String} {f:FuncId} (im:(Tryz.prog.info? t).map (fun i=>(i.methods.find? (·.name == nm)).map fun m=>(m.path,m.func))=some (some (#[],some (f,false)))) (n:Nat) (x:Value) (w:World) {v:Value}
  (hr:∀ s,(receiverAt t (.val x) false (some s)).run Tryz.prog w=.ok v w):(method (n+1) t x nm).run Tryz.prog w=.ok (f,v) w:=by
 cases hq:Tryz.prog.info? t with
 | none=>rw [hq] at im;cases im
 | some i =>
  rw [hq] at im
  cases hm:i.methods.find? (·.name == nm) with
  | none=>simp [hm] at im
  | some m =>
   simp [hm] at im
   obtain ⟨h1,h2⟩:=im
   rw [method]
   simp [typeInfo,hq,hm,follow,h1,h2]
   rw [hr]
   rfl
theorem methLen {a : Addr} {v : Value} {w : World} (h : w.cell? a = some v) : (method 501 322 (.pointer (some a)) "Len").run Tryz.prog w = .ok (282, v) w :=
 meth_found (by kernel_rfl) _ _ w (fun _=>recv_at _ h)
theorem methLess {a : Addr} {v : Value} {w : World} (h : w.cell? a = some v) : (method 501 322 (.pointer (some a)) "Less").run Tryz.prog w = .ok (400, v) w :=
 meth_found (by kernel_rfl) _ _ w (fun _=>recv_at _ h)
theorem methSwap {a : Addr} {v : Value} {w : World} (h : w.cell? a = some v) : (method 501 322 (.pointer (some a)) "Swap").run Tryz.prog w = .ok (401, v) w :=
 meth_found (by kernel_rfl) _ _ w (fun _=>recv_at _ h)
end Go.Proofs.YtomiclakhjncbaaGreatDoor
namespace Go.Proofs.YtomiclakhjncbaaGreatDoor
open Go.RowKit Go.Maps
set_option maxRecDepth 100000
set_option maxHeartbeats 12800000
def keyL (a c:Int):Lit:=.string (keyBytes [.int .i64 a,.int .i64 c])
section
variable {P:Program} {k:TypeId} {f0 f1:Field}
theorem keyOf_mkP {n : Nat} (hu : P.underlying k = some (.struct #[f0, f1])) (hkt : P.keyType k = true) (ck : P.cellsOf k = 2) (o0 : f0.offset = 0) (o1 : f1.offset = 1) (n0 : (f0.name != "_") = true) (n1 : (f1.name != "_") = true)
  (c0:P.cellsOf f0.type=1) (c1:P.cellsOf f1.type=1) (u0:P.underlying f0.type=some (.int .i64)) (u1:P.underlying f1.type=some (.int .i64)) (hn:P.types.size=n+1) {a c:Int} (ha:wf64 a) (hc:wf64 c):keyOf P k (.agg #[.int .i64 a,.int .i64 c])=some (keyL a c):=by
 have ha':(Lit.int .i64 a).wf=true:=ha
 have hc':(Lit.int .i64 c).wf=true:=hc
 simp only [bne_iff_ne,ne_eq] at n0 n1
 simp [keyOf,hu,hkt,Value.formed,ck,hn,Program.keyLits,Value.cells,o0,o1,c0,c1,u0,u1,n0,n1,ha',hc',keyL]
theorem keyLits_int {d:Nat} {t:TypeId} (u0:P.underlying t=some (.int .i64)) {u:Value} {l:List Lit} (h:P.keyLits (d+1) t [u]=some l):∃ x,u=.int .i64 x∧l=[.int .i64 x]∧wf64 x:=by
 cases u <;> simp [Program.keyLits,u0] at h
 obtain ⟨⟨rfl,hw⟩,rfl⟩:=h
 exact ⟨_,rfl,rfl,hw⟩
theorem keyOf_invP {n:Nat} (hu:P.underlying k=some (.struct #[f0,f1])) (hkt:P.keyType k=true) (ck:P.cellsOf k=2) (o0:f0.offset=0) (o1:f1.offset=1)
  (c0:P.cellsOf f0.type=1) (c1:P.cellsOf f1.type=1) (u0:P.underlying f0.type=some (.int .i64)) (u1:P.underlying f1.type=some (.int .i64)) (hn:P.types.size=n+1) {key:Value} {kl:Lit} (h:keyOf P k key=some kl) :
  ∃ a c,key=.agg #[.int .i64 a,.int .i64 c]∧kl=keyL a c∧wf64 a∧wf64 c:=by
 cases key <;> simp [keyOf,hu,hkt,Value.formed,ck] at h
 rename_i cs
 obtain ⟨l⟩:=cs
 obtain ⟨hl,ls,hk,rfl⟩:=h
 match l,hl with
 | [u,v],_ =>
  rw [hn] at hk
  unfold Program.keyLits at hk
  simp only [hu] at hk
  split at hk
  ·simp only [List.mapM_cons,List.mapM_nil,o0,o1,c0,c1,List.drop_zero] at hk
   have e1:(List.take 1 (Value.agg { toList:=[u,v] }).cells.toList)=[u]:=rfl
   have e2:(List.take 1 (List.drop 1 (Value.agg { toList:=[u,v] }).cells.toList))=[v]:=rfl
   rw [e1,e2] at hk
   cases h0:P.keyLits (n+1) f0.type [u] with
   | none=>rw [h0] at hk;cases hk
   | some l0 =>
    cases h1:P.keyLits (n+1) f1.type [v] with
    | none=>rw [h0,h1] at hk;cases hk
    | some l1 =>
     rw [h0,h1] at hk
     have hk':([l0,l1]:List (List Lit)).flatten=ls:=by simpa using hk
     obtain ⟨x,rfl,rfl,hx⟩:=keyLits_int u0 h0
     obtain ⟨y,rfl,rfl,hy⟩:=keyLits_int u1 h1
     exact ⟨x,y,rfl,by rw [← hk'];rfl,hx,hy⟩
  ·cases hk
end
theorem rowK:(128:TypeId)<Tryz.prog.types.size:=of_decide_eq_true (by kernel_rfl)
theorem cellsK:Tryz.prog.cellsOf 128=2:=by kernel_rfl
theorem deepK:Tryz.prog.keyType 128=true:=by kernel_rfl
theorem wideK:(match Tryz.prog.underlying 128 with | some (.array _ _) | some (.struct _)=>true | _=>false)=true:=by kernel_rfl
theorem klawK:WideMaps.KeyLaw Tryz.prog 128:=deep_law_laid laidOut (m:=3) (by omega) rowK (by kernel_rfl) wideK
theorem lawK:Keyed Tryz.prog 128:=Keyed.of_law klawK
theorem cells3:Tryz.prog.cellsOf 3=1:=by kernel_rfl
theorem typesN:∃ n,Tryz.prog.types.size=n+1:=⟨Tryz.prog.types.size - 1,(Nat.succ_pred_eq_of_pos (Nat.lt_of_le_of_lt (Nat.zero_le _) rowK)).symm⟩
theorem keyOf_ac {a c:Int} (ha:wf64 a) (hc:wf64 c):keyOf Tryz.prog 128 (.agg #[.int .i64 a,.int .i64 c])=some (keyL a c) :=
 let ⟨_,hn⟩:=typesN
 keyOf_mkP Tryz.underlying128 deepK cellsK rfl rfl (by decide) (by decide) cells3 cells3 Tryz.underlying3 Tryz.underlying3 hn ha hc
theorem keyOf_inv {key:Value} {kl:Lit} (h:keyOf Tryz.prog 128 key=some kl):∃ a c,key=.agg #[.int .i64 a,.int .i64 c]∧kl=keyL a c∧wf64 a∧wf64 c :=
 let ⟨_,hn⟩:=typesN
 keyOf_invP Tryz.underlying128 deepK cellsK rfl rfl cells3 cells3 Tryz.underlying3 Tryz.underlying3 hn h
theorem keyL_inj {a c a' c':Int} (ha:wf64 a) (hc:wf64 c) (ha':wf64 a') (hc':wf64 c') (h:keyL a c=keyL a' c'):a=a'∧c=c':=by
 have:=lawK.inj (keyOf_ac ha hc) (h ▸ keyOf_ac ha' hc')
 simpa using this
def MapF (w:World) (b n:Nat) (f:Int→Int→Option Int):Prop :=
 ∃ D:DataW Unit,w.ownsMap Tryz.prog 128 (plainElem (H:=Unit) Tryz.prog 3) b n D ∧
  (∀ a c,wf64 a→wf64 c→Maps.has D (keyL a c)=(f a c).isSome∧D.atKey (keyL a c) (.lit (.int .i64 0))=.lit (.int .i64 ((f a c).getD 0)))∧∀ a c,f a c≠none→wf64 a∧wf64 c
theorem keyL_is (a c:Int):WideAt.IsKeyLit (keyL a c):=trivial
theorem viewF_put {D:DataW Unit} {f:Int→Int→Option Int} (hm:IsMap D) (h:∀ a c,wf64 a→wf64 c→Maps.has D (keyL a c)=(f a c).isSome∧D.atKey (keyL a c) (.lit (.int .i64 0))=.lit (.int .i64 ((f a c).getD 0))) {a c v:Int} (ha:wf64 a) (hc:wf64 c) :
  ∀ a' c',wf64 a'→wf64 c'→Maps.has (D.put (keyL a c) (.lit (.int .i64 v))) (keyL a' c')=(if a'=a∧c'=c then some v else f a' c').isSome∧(D.put (keyL a c) (.lit (.int .i64 v))).atKey (keyL a' c') (.lit (.int .i64 0))=.lit (.int .i64 ((if a'=a∧c'=c then some v else f a' c').getD 0)):=by
 intro a' c' ha' hc'
 by_cases he:a'=a∧c'=c
 ·obtain ⟨rfl,rfl⟩:=he
  rw [if_pos ⟨rfl,rfl⟩,Maps.has_put_same hm (keyL_is _ _),Maps.atKey_put_same hm (keyL_is _ _)]
  exact ⟨rfl,rfl⟩
 ·have hne:keyL a' c'≠keyL a c:=fun e=>he (keyL_inj ha' hc' ha hc e)
  rw [if_neg he,Maps.has_put_other hne,Maps.atKey_put_other hne]
  exact h a' c' ha' hc'
theorem viewF_del {D:DataW Unit} {f:Int→Int→Option Int} (h:∀ a c,wf64 a→wf64 c→Maps.has D (keyL a c)=(f a c).isSome∧D.atKey (keyL a c) (.lit (.int .i64 0))=.lit (.int .i64 ((f a c).getD 0))) {a c:Int} (ha:wf64 a) (hc:wf64 c) :
  ∀ a' c',wf64 a'→wf64 c'→Maps.has (D.del (keyL a c)) (keyL a' c')=(if a'=a∧c'=c then none else f a' c').isSome∧(D.del (keyL a c)).atKey (keyL a' c') (.lit (.int .i64 0))=.lit (.int .i64 ((if a'=a∧c'=c then none else f a' c').getD 0)):=by
 intro a' c' ha' hc'
 by_cases he:a'=a∧c'=c
 ·obtain ⟨rfl,rfl⟩:=he
  rw [if_pos ⟨rfl,rfl⟩,Maps.has_del_same,Maps.atKey_del_same]
  exact ⟨rfl,rfl⟩
 ·have hne:keyL a' c'≠keyL a c:=fun e=>he (keyL_inj ha' hc' ha hc e)
  rw [if_neg he,Maps.has_del_other hne,Maps.atKey_del_other hne]
  exact h a' c' ha' hc'
theorem MapF.kept {w w':World} {b n:Nat} {f:Int→Int→Option Int} {row:Option Nat} (h:MapF w b n f) (hg:w.grownBy w' row) (hne:some b≠row):MapF w' b n f:=by
 obtain ⟨D,h1,h2,h3⟩:=h
 exact ⟨D,h1.kept hg hne,h2,h3⟩
theorem MapF.lt {w:World} {b n:Nat} {f:Int→Int→Option Int} (h:MapF w b n f):b<w.heap.size:=by
 obtain ⟨D,h1,_⟩:=h
 exact h1.lt
theorem MapF.below {w w':World} {b n:Nat} {f:Int→Int→Option Int} (h:MapF w b n f) (hb:Below w.heap.size w w'):MapF w' b n f:=by
 have hl:=h.lt
 obtain ⟨D,⟨es,clock,h1,r⟩,h2,h3⟩:=h
 exact ⟨D,⟨es,clock,(hb.block b hl).trans h1,r⟩,h2,h3⟩
end Go.Proofs.YtomiclakhjncbaaGreatDoor
namespace Go.Proofs.YtomiclakhjncbaaGreatDoor
open Go.RowKit Go.Maps Go.MapKept Go.ChangeMaps
open Go.WideElems (Fit)
open Go.WideMaps (KeyLaw)
set_option maxRecDepth 100000
set_option maxHeartbeats 12800000
section
variable {H:Type} {P:Program} {w:World} {t k e:TypeId} {R:Value→Option (DataW H×List MemPlace)} {b:Nat} {es:Array MapEntry} {clock:Nat}
theorem set_sameK {α:Type} : ∀ (l:List α) (j:Nat) (x:α),l[j]?=some x→l.set j x=l
 | [],_,_,h=>by simp at h
 | y::r,0,x,h=>by simp at h;subst h;rfl
 | y::r,j+1,x,h=>by simp at h;simp [set_sameK r j x h]
theorem entry_is (K:KeyLaw P k) (ht:P.underlying t=some (.map k e)) {z:Value} (hz:∀ u:World,(zeroValue e).run P u=.ok z u) (hb:w.heap[b]?=some (.map es clock)) (F:Fit P k R es clock) {key:Value} {kl:Lit} (hkey:keyOf P k key=some kl) :
  ∃ (v0:Value) (st:Nat) (es1:Array MapEntry) (clock1:Nat),(Instr.mapEntry t (.map (some b)) key).run P w=.ok (.tuple #[v0,goInt st]) (setBlock w b (.map es1 clock1)) ∧
   (Instr.mapUpdate t (.map (some b)) key v0).run P w=.ok () (setBlock w b (.map es1 clock1))∧(Instr.lookup t (.map (some b)) key false).run P w=.ok v0 w:=by
 rcases K.find w hkey es.toList F.keys with ⟨h1,h2⟩ | ⟨j,e0,h1,h2,h3⟩
 ·refine ⟨z,clock,es.push ⟨key,z,clock⟩,clock+1,?_,?_,?_⟩
  ·simp [Instr.mapEntry,run_underlying ht,MapKept.run_getObj_map hb,K.check w false hkey,h1,hz,MapKept.run_setObj_map _ hb,Result.andThen,setBlock]
  ·simp [Instr.mapUpdate,run_underlying ht,MapKept.run_getObj_map hb,K.check w false hkey,h1,MapKept.run_setObj_map _ hb,Result.andThen,setBlock]
  ·simp [Instr.lookup,run_underlying ht,MapKept.run_getObj_map hb,K.check w _ hkey,h1,hz,Result.andThen]
 ·have hj:es[j]?=some e0:=by simpa using h2
  have m1:es.modify j (fun e=>{ e with key:=key })=es:=by
   apply Array.ext'
   rw [Array.toList_modify,modify_eq_set _ _ _ _ h2,show ({ e0 with key:=key } : MapEntry)=e0 by rw [← h3]]
   exact set_sameK _ _ _ h2
  have m2:es.modify j (fun e=>{ e with key:=key,val:=e0.val })=es:=by
   apply Array.ext'
   rw [Array.toList_modify,modify_eq_set _ _ _ _ h2,show ({ e0 with key:=key,val:=e0.val } : MapEntry)=e0 by rw [← h3]]
   exact set_sameK _ _ _ h2
  refine ⟨e0.val,e0.born,es,clock,?_,?_,?_⟩
  ·simp [Instr.mapEntry,run_underlying ht,MapKept.run_getObj_map hb,K.check w false hkey,h1,hj,h3,K.stays w hkey,m1,MapKept.run_setObj_map _ hb,Result.andThen,setBlock]
  ·simp [Instr.mapUpdate,run_underlying ht,MapKept.run_getObj_map hb,K.check w false hkey,h1,hj,h3,K.stays w hkey,m2,MapKept.run_setObj_map _ hb,Result.andThen,setBlock]
  ·simp [Instr.lookup,run_underlying ht,MapKept.run_getObj_map hb,K.check w _ hkey,h1,Result.andThen]
end
theorem add_steps {W:World} {b n:Nat} {f:Int→Int→Option Int} (h:MapF W b n f) {a c v m:Int} (ha:wf64 a) (hc:wf64 c) (hv:(f a c).getD 0=v) (hw:wf64 (v+m)) (hn:n<maxLen) :
  ∃ (st:Nat) (W1 W2:World),(Instr.mapEntry 338 (.map (some b)) (.agg #[.int .i64 a,.int .i64 c])).run Tryz.prog W=.ok (.tuple #[.int .i64 v,.int .i64 st]) W1 ∧
   (Instr.lookup 338 (.map (some b)) (.agg #[.int .i64 a,.int .i64 c]) false).run Tryz.prog W=.ok (.int .i64 v) W ∧
   (Instr.lookup 338 (.map (some b)) (.agg #[.int .i64 a,.int .i64 c]) false).run Tryz.prog W1=.ok (.int .i64 v) W1 ∧
   (Instr.entryStore 338 (.map (some b)) (.int .i64 st) (.int .i64 (v+m))).run Tryz.prog W1=.ok () W2 ∧
   (Instr.lookup 338 (.map (some b)) (.agg #[.int .i64 a,.int .i64 c]) false).run Tryz.prog W2=.ok (.int .i64 (v+m)) W2 ∧
   W.grownBy W1 (some b)∧W.grownBy W2 (some b)∧MapF W2 b (n+1) (fun a' c'=>if a'=a∧c'=c then some (v+m) else f a' c'):=by
 obtain ⟨D,hown,hview,hwf⟩:=h
 have hkey:=keyOf_ac ha hc
 obtain ⟨es,clock,hb,F,hs,hD⟩:=hown
 have hown:W.ownsMap Tryz.prog 128 (plainElem (H:=Unit) Tryz.prog 3) b n D:=⟨es,clock,hb,F,hs,hD⟩
 obtain ⟨v0,st,es1,clock1,hE,hU,hL⟩:=entry_is klawK Tryz.underlying338 zero3 hb F hkey
 obtain ⟨c0,hL',hat,hwc⟩:=hown.lookup_int lawK Tryz.underlying338 Tryz.underlying3 (zero3 _) hkey
 have hc0:c0=v:=by
  have e:=hat.symm.trans (hview a c ha hc).2
  rw [hv] at e
  injection e with e1;injection e1
 have hv0:v0=.int .i64 v:=by
  rw [hL] at hL'
  rw [← hc0]
  injection hL'
 subst hv0
 rw [hc0] at hwc
 obtain ⟨w1,hU',hown1,hg1⟩:=hown.update lawK Tryz.underlying338 hn hkey (plainElem_int Tryz.underlying3 hwc)
 have hw1:w1=setBlock W b (.map es1 clock1):=by
  rw [hU] at hU'
  injection hU' with _ e;exact e.symm
 subst hw1
 obtain ⟨c1,hL1,hat1,_⟩:=hown1.lookup_int lawK Tryz.underlying338 Tryz.underlying3 (zero3 _) hkey
 have hc1:c1=v:=by
  rw [Maps.atKey_put_same hown.isMap (keyL_is _ _)] at hat1
  injection hat1 with e1;injection e1 with _ e2;exact e2.symm
 subst hc1
 obtain ⟨v0',st',es1',clock1',hE',_,hS⟩:=WideElems.entry_then_store klawK Tryz.underlying338 zero3 hb F hkey
 have hE2:=hE.symm.trans hE'
 have hst:st=st'∧setBlock W b (.map es1 clock1)=setBlock W b (.map es1' clock1'):=by
  simp only [Result.ok.injEq,Value.tuple.injEq,goInt] at hE2
  refine ⟨?_,hE2.2⟩
  have:=hE2.1
  simp at this
  exact Int.natCast_inj.1 this.2
 obtain ⟨rfl,hbe⟩:=hst
 have hb1:(setBlock W b (.map es1 clock1)).heap[b]?=some (.map es1' clock1'):=by rw [hbe];exact heap_setBlock_same hb _
 obtain ⟨es2,clock2,hS1,hU2⟩:=hS (setBlock W b (.map es1 clock1)) (.int .i64 (c1+m)) hb1
 obtain ⟨w2,hU2',hown2,hg2⟩:=hown.update lawK Tryz.underlying338 hn hkey (plainElem_int Tryz.underlying3 hw)
 have hw2:w2=setBlock W b (.map es2 clock2):=by
  rw [hU2] at hU2'
  injection hU2' with _ e;exact e.symm
 subst hw2
 have hbb:setBlock (setBlock W b (.map es1 clock1)) b (.map es2 clock2)=setBlock W b (.map es2 clock2):=by simp [setBlock]
 rw [hbb] at hS1
 obtain ⟨c2,hL2,hat2,_⟩:=hown2.lookup_int lawK Tryz.underlying338 Tryz.underlying3 (zero3 _) hkey
 have hc2:c2=c1+m:=by
  rw [Maps.atKey_put_same hown.isMap (keyL_is _ _)] at hat2
  injection hat2 with e1;injection e1 with _ e2;exact e2.symm
 subst hc2
 refine ⟨st,_,_,hE,hL,hL1,hS1,hL2,hg1,hg2,_,hown2,viewF_put hown.isMap hview ha hc,fun a' c' hf=>?_⟩
 by_cases he:a'=a∧c'=c
 ·obtain ⟨rfl,rfl⟩:=he;exact ⟨ha,hc⟩
 ·simp only [if_neg he] at hf;exact hwf a' c' hf
end Go.Proofs.YtomiclakhjncbaaGreatDoor
namespace Go.Proofs.YtomiclakhjncbaaGreatDoor
open Go.RowKit Go.Maps
set_option maxRecDepth 100000
set_option maxHeartbeats 12800000
theorem upd_zero {f:Int→Int→Option Int} {a c m v:Int} (hv:(f a c).getD 0=v) (h0:v+m=0):upd f a c m=fun a' c'=>if a'=a∧c'=c then none else if a'=a∧c'=c then some (v+m) else f a' c':=by
 funext a' c'
 unfold upd
 by_cases he:a'=a∧c'=c
 ·rw [if_pos he,if_pos he,hv,if_pos h0]
 ·rw [if_neg he,if_neg he,if_neg he]
theorem upd_some {f:Int→Int→Option Int} {a c m v:Int} (hv:(f a c).getD 0=v) (h0:v+m≠0):upd f a c m=fun a' c'=>if a'=a∧c'=c then some (v+m) else f a' c':=by
 funext a' c'
 unfold upd
 by_cases he:a'=a∧c'=c
 ·rw [if_pos he,if_pos he,hv,if_neg h0]
 ·rw [if_neg he,if_neg he]
theorem add_any (b n:Nat) (f:Int→Int→Option Int) (a c m v:Int) (w:World) (h:MapF w b n f) (ha:wf64 a) (hc:wf64 c) (hv:(f a c).getD 0=v) (hbd:-9000000000000000000≤v+m∧v+m≤9000000000000000000) (hn:n<maxLen) :
  Calls Tryz.prog 315 #[.map (some b),.agg #[.int .i64 a,.int .i64 c],.int .i64 m] w fun e w'=>e=.returned (.tuple #[])∧MapF w' b (n+1) (upd f a c m)∧w.grownBy w' (some b):=by
 obtain ⟨W0,hW0⟩:∃ W0,W0=w.alloc (.cells #[.int .i64 a,.int .i64 c] 128):=⟨_,rfl⟩
 have hbl:b<w.heap.size:=h.lt
 have k0:W0.cell? ⟨w.heap.size,0,none⟩=some (.int .i64 a):=by rw [hW0];simp
 have k1:W0.cell? ⟨w.heap.size,1,none⟩=some (.int .i64 c):=by rw [hW0];simp
 have hs0:w.heap.size<W0.heap.size:=by rw [hW0];simp
 have G0:w.grownBy W0 (some b):=by rw [hW0];exact World.grownBy_alloc w _ _
 have M0:MapF W0 b n f:=by rw [hW0];exact h.kept (World.grownBy_alloc w _ none) (by simp)
 have M1:MapF W0.drew b n f:=M0
 obtain ⟨st,W1,W2,hE,hL,hL1,hS,hL2,hg1,hg2,M2⟩:=add_steps (m:=m) M1 ha hc hv (WalkArith.wf_i64 (by omega)) hn
 have hwr:IntKind.i64.wrap (v+m)=v+m:=by simp [IntKind.wrap,IntKind.bits,IntKind.signed];omega
 have x0:=(hg1.cell_far ⟨w.heap.size,0,none⟩ hs0 (by simp;omega)).trans k0
 have x1:=(hg1.cell_far ⟨w.heap.size,1,none⟩ hs0 (by simp;omega)).trans k1
 have y0:=(hg2.cell_far ⟨w.heap.size,0,none⟩ hs0 (by simp;omega)).trans k0
 have y1:=(hg2.cell_far ⟨w.heap.size,1,none⟩ hs0 (by simp;omega)).trans k1
 have G2:W0.grownBy W2 (some b):=⟨hg2.os,hg2.tape,hg2.output,hg2.size,hg2.block⟩
 have HG:Hid (w.grownBy W2 (some b)):=G0.trans G2
 have HM:Hid (MapF W2 b (n+1) (fun a' c'=>if a'=a∧c'=c then some (v+m) else f a' c')):=M2
 have HKY:Hid _:=keyOf_ac ha hc
 have HA:Hid (wf64 a):=ha
 have HC:Hid (wf64 c):=hc
 clear h M0 M1 M2 hg1 hg2 G0 G2 ha hc
 by_cases h0:v+m=0
 ·have h0':(v+m == 0)=true:=by simpa using h0
  have HU:Hid _:=upd_zero hv h0
  clear h0 hv
  go_enter Tryz.func315,Tryz.ntmps315
  go_upto_region 1 with fail
  rw [← hW0]
  clear hW0
  go_region
  all_goals
   obtain ⟨D,hown,hview,hwf⟩:=HM.out
   have HO:Hid (W2.ownsMap Tryz.prog 128 (plainElem (H:=Unit) Tryz.prog 3) b (n+1) D):=hown
   have HV:Hid _:=viewF_del hview HA.out HC.out
   have HWF:Hid _:=hwf
   clear hown hview hwf
   go_wp2_with (at_delete;refine wpList_delete_own _ rfl _ _ 338 128 rfl 3 lawK Tryz.underlying338 _ b (n+1) D rfl HO.out _ _ rfl HKY.out ?_;intro w3 hown3 hturn3)
   have hg3:=hturn3.grown
   go_end0
   refine ⟨rfl,⟨_,hown3,?_,?_⟩,HG.out.trans hg3⟩
   ·rw [HU.out];exact HV.out
   ·rw [HU.out]
    intro a' c' hf
    by_cases he:a'=a∧c'=c
    ·simp only [if_pos he] at hf;exact absurd rfl hf
    ·simp only [if_neg he] at hf
     exact HWF.out a' c' (by simp only [if_neg he];exact hf)
 ·have h0':(v+m == 0)=false:=by simpa using h0
  have HU:Hid _:=upd_some hv h0
  clear h0 hv
  go_enter Tryz.func315,Tryz.ntmps315
  go_upto_region 1 with fail
  rw [← hW0]
  clear hW0
  go_region
  all_goals
   go_wp2
   go_end0
   refine ⟨rfl,?_,HG.out⟩
   rw [HU.out];exact HM.out
theorem mapF_made (w:World):MapF (w.alloc (.map #[] 0)) w.heap.size 0 (look []) :=
 ⟨.map [],World.ownsMap_made w Tryz.prog 128 (plainElem (H:=Unit) Tryz.prog 3),fun _ _ _ _=>⟨rfl,rfl⟩,fun _ _ h=>absurd rfl h⟩
theorem look_bd {ls:List Ln} (h:∀ x ∈ ls,-1000000000000≤x.2.2∧x.2.2≤1000000000000) (a c:Int):-1000000000000≤(look ls a c).getD 0∧(look ls a c).getD 0≤1000000000000:=by
 cases hl:look ls a c with
 | none=>simp
 | some v=>have:=h _ (look_mem hl);simpa using this
theorem balances_any (ao:Option Addr) (cap:Nat) (ls:List Ln) (w:World) (hz:LinesAt w ao ls) (hn:ls.length≤400) (hs:Srt ls) (hnz:NZ ls) (hbd:∀ x ∈ ls,-1000000000000≤x.2.2∧x.2.2≤1000000000000) (hwf:∀ x ∈ ls,lnBd x) :
  Calls Tryz.prog 314 #[.agg #[.slice ao ls.length cap]] w fun e w'=>∃ g,e=.returned (.map (some g))∧w.heap.size≤g∧MapF w' g ls.length (look ls)∧Below w.heap.size w w':=by
 have hmm:=@run_makeMap Tryz.prog
 obtain ⟨W,hW⟩:∃ W,W=(w.alloc (.cells #[.slice ao ls.length cap] 29)).alloc (.map #[] 0):=⟨_,rfl⟩
 have bW:Below w.heap.size w W:=by rw [hW];go_grown
 have hWs:W.heap.size=w.heap.size+2:=by rw [hW];simp
 have k0:W.cell? ⟨w.heap.size,0,none⟩=some (.slice ao ls.length cap):=by rw [hW];simp [go_sem]
 have M0:MapF W (w.heap.size+1) 0 (look []):=by
  have:=mapF_made (w.alloc (.cells #[.slice ao ls.length cap] 29))
  rw [hW];simpa using this
 have HZ:Hid (LinesAt w ao ls):=hz
 have HS:Hid (Srt ls):=hs
 have HNZ:Hid (NZ ls):=hnz
 have HBD:Hid (∀ x ∈ ls,-1000000000000≤x.2.2∧x.2.2≤1000000000000):=hbd
 have HWF:Hid (∀ x ∈ ls,lnBd x):=hwf
 have HWB:Hid (Below w.heap.size w W):=bW
 have HM0:Hid _:=M0
 clear hz hs hnz hbd hwf bW M0
 go_enter Tryz.func314,Tryz.ntmps314
 go_wp2
 rw [← hW]
 clear hW
 go_loopw [10] (fun i wr=>∃ k:Nat,k≤ls.length∧i=.int .i64 k∧MapF wr (w.heap.size+1) k (look (ls.take k))∧Below w.heap.size w wr) (fun i _=>ls.length - (intOf i).toNat)
 case atStart=>exact ⟨0,Nat.zero_le _,rfl,HM0.out,HWB.out⟩
 case round =>
  obtain ⟨k,hk,rfl,hM,hbr⟩:=hrel
  have HM:Hid (MapF wr (w.heap.size+1) k (look (ls.take k))):=hM
  have hsz:w.heap.size≤wr.heap.size:=hbr.size
  have hMl:w.heap.size+1<wr.heap.size:=hM.lt
  clear hM HM0
  by_cases hlt:k<ls.length
  ·have hki:(k:Int)<(ls.length:Int):=by omega
   obtain ⟨b,off,rfl,hb2,c1,c2,c3⟩:=(HZ.out.below hbr).at hlt
   have hLT:=look_take HS.out HNZ.out hlt
   have hbk:=HBD.out _ (lnAt_mem hlt)
   have hwk:=HWF.out _ (lnAt_mem hlt)
   obtain ⟨⟨x,y,z⟩,hx⟩:∃ x,lnAt ls k=x:=⟨_,rfl⟩
   rw [hx] at c1 c2 c3 hLT hbk hwk
   simp only at c1 c2 c3 hLT hbk
   have hlb:=look_bd (ls:=ls.take k) (fun q hq=>HBD.out q (List.mem_of_mem_take hq)) x y
   have HLT:Hid _:=hLT
   have HWK:Hid (wf64 x∧wf64 y∧wf64 z):=hwk
   obtain ⟨V,hV⟩:∃ V,V=wr.alloc (.cells #[.int .i64 x,.int .i64 y,.int .i64 z] 113):=⟨_,rfl⟩
   have bV:Below w.heap.size w V:=by rw [hV];exact hbr.alloc hsz _
   have hVs:V.heap.size=wr.heap.size+1:=by rw [hV];simp
   have MV:MapF V (w.heap.size+1) k (look (ls.take k)):=by rw [hV];exact HM.out.kept (World.grownBy_alloc wr _ none) (by simp)
   have v0:V.cell? ⟨wr.heap.size,0,none⟩=some (.int .i64 x):=by rw [hV];simp
   have v1:V.cell? ⟨wr.heap.size,1,none⟩=some (.int .i64 y):=by rw [hV];simp
   have v2:V.cell? ⟨wr.heap.size,2,none⟩=some (.int .i64 z):=by rw [hV];simp
   obtain ⟨t,ht⟩:∃ t,(look (ls.take k) x y).getD 0=t:=⟨_,rfl⟩
   rw [ht] at hlb
   have HT:Hid _:=ht
   have HBV:Hid (Below w.heap.size w V):=bV
   have HMV:Hid (MapF V (w.heap.size+1) k (look (ls.take k))):=MV
   have HVW:Hid (w.heap.size≤V.heap.size):=bV.size
   have HKP:Hid (∀ u,Below V.heap.size V u→u.cell? ⟨wr.heap.size,0,none⟩=some (.int .i64 x)∧u.cell? ⟨wr.heap.size,1,none⟩=some (.int .i64 y)∧u.cell? ⟨wr.heap.size,2,none⟩=some (.int .i64 z)):=fun u hu =>
    ⟨(hu.cell (p:=⟨wr.heap.size,0,none⟩) (by show wr.heap.size<V.heap.size;omega)).trans v0,(hu.cell (p:=⟨wr.heap.size,1,none⟩) (by show wr.heap.size<V.heap.size;omega)).trans v1,(hu.cell (p:=⟨wr.heap.size,2,none⟩) (by show wr.heap.size<V.heap.size;omega)).trans v2⟩
   have HADD:Hid (∀ u,Below V.heap.size V u→Calls Tryz.prog 315 #[.map (some (w.heap.size+1)),.agg #[.int .i64 x,.int .i64 y],.int .i64 z] u fun e u'=>e=.returned (.tuple #[])∧MapF u' (w.heap.size+1) (k+1) (look (ls.take (k+1)))∧u.grownBy u' (some (w.heap.size+1))):=fun u hu=>by
    rw [HLT.out]
    exact add_any (w.heap.size+1) k _ x y z t u (HMV.out.below hu) HWK.out.1 HWK.out.2.1 HT.out ⟨by omega,by omega⟩ (by unfold maxLen;omega)
   clear hLT hx ht hwk hbk MV bV hbr hlb
   go_upto_region 5 with fail
   rw [← hV]
   clear hV c1 c2 c3
   go_region_held3 (fun u=>u.cell? ⟨wr.heap.size,0,none⟩=some (.int .i64 x)∧u.cell? ⟨wr.heap.size,1,none⟩=some (.int .i64 y)∧u.cell? ⟨wr.heap.size,2,none⟩=some (.int .i64 z)) (first | exact ⟨v0,v1,v2⟩ | exact HKP.out _ q1 | exact HKP2.out) ((first
    | (go_at_call 107;refine (iKey_any _ _ _ _).mono ?_;rintro e u1 ⟨rfl,b1⟩;have q1:Below V.heap.size V u1:=(Below.refl _ _).drew.trans b1)
    | (go_at_call 315;refine (HADD.out _ q1).mono ?_;rintro e u2 ⟨rfl,m2,g2⟩;have HKP2:Hid (u2.cell? ⟨wr.heap.size,0,none⟩=some (.int .i64 x)∧u2.cell? ⟨wr.heap.size,1,none⟩=some (.int .i64 y)∧u2.cell? ⟨wr.heap.size,2,none⟩=some (.int .i64 z)):=⟨(g2.cell_far ⟨wr.heap.size,0,none⟩ (by have:=q1.size;show wr.heap.size<u1.heap.size;omega) (by simp;omega)).trans (HKP.out _ q1).1,(g2.cell_far ⟨wr.heap.size,1,none⟩ (by have:=q1.size;show wr.heap.size<u1.heap.size;omega) (by simp;omega)).trans (HKP.out _ q1).2.1,(g2.cell_far ⟨wr.heap.size,2,none⟩ (by have:=q1.size;show wr.heap.size<u1.heap.size;omega) (by simp;omega)).trans (HKP.out _ q1).2.2⟩)))
   all_goals
    have HM2:Hid _:=m2
    have q2:Below w.heap.size w u2:=(HBV.out.trans (q1.mono HVW.out)).grown g2 (HBV.out.trans (q1.mono HVW.out)).size (fun j hj=>by cases hj;omega)
    clear m2 g2 q1 b1 HKP HADD HKP2
    go_wp2
    go_roundw
    case rel=>exact ⟨k+1,by omega,by go_num,HM2.out,q2⟩
    case measure=>simp [intOf];omega
  ·have hke:k=ls.length:=by omega
   subst hke
   have hki:¬ (ls.length:Int)<(ls.length:Int):=by omega
   rw [List.take_length] at HM
   go_wp2
   go_ret
   exact ⟨w.heap.size+1,rfl,by omega,HM.out,hbr⟩
end Go.Proofs.YtomiclakhjncbaaGreatDoor
namespace Go.Proofs.YtomiclakhjncbaaGreatDoor
open Go.RowKit
set_option maxRecDepth 100000
set_option maxHeartbeats 12800000
def fillTo (f:Nat→Int) (xs:List Value) (j:Nat):List Value:=((List.range j).map fun i=>Value.int .i64 (f i))++xs.drop j
theorem fillTo_zero (f:Nat→Int) (xs:List Value):fillTo f xs 0=xs:=by simp [fillTo]
theorem fillTo_all (f:Nat→Int) (xs:List Value):fillTo f xs xs.length=(List.range xs.length).map fun i=>Value.int .i64 (f i):=by simp [fillTo]
theorem fillTo_at (f:Nat→Int) (xs:List Value) (j:Nat):(fillTo f xs j)[j]?=xs[j]?:=by simp [fillTo,List.getElem?_append]
theorem fillTo_succ (f:Nat→Int) (xs:List Value) (j:Nat) (h:j<xs.length):fillTo f xs (j+1)=(fillTo f xs j).set j (.int .i64 (f j)):=by
 unfold fillTo
 rw [List.range_succ,List.map_append,List.set_append_right _ _ (by simp)]
 simp
 rw [List.drop_eq_getElem_cons h,List.set_cons_zero]
def cnt (k:Int) (n:Nat):List Int:=(List.range n).map fun i:Nat=>k+(i:Int)
theorem cnt_len (k:Int) (n:Nat):(cnt k n).length=n:=by simp [cnt]
theorem cnt_at (k:Int) (n i:Nat) (h:i<n):(cnt k n).getD i 0=k+(i:Int):=by simp [cnt,List.getD_eq_getElem?_getD,h]
theorem fill_cnt (k:Int) (xs:List Value) (n:Nat) (h:xs.length=n):fillTo (fun i:Nat=>k+(i:Int)) xs n=(cnt k n).map (Value.int .i64):=by
 subst h;rw [fillTo_all];simp [cnt]
theorem markIntS_any (ao:Option Addr) (cap n base:Nat) (k:Int) (xs:List Value) (w:World) (ho:w.ownsRow base 3 1 (.slice ao n cap) n xs) (hn:n≤1099511627776) (k1:0≤k) (k2:k≤1099511627776) :
  Calls Tryz.prog 18 #[.slice ao n cap,.int .i64 k] w fun e w'=>e=.returned (.int .i64 (k+n)) ∧
   w'.ownsRow base 3 1 (.slice ao n cap) n ((cnt k n).map (Value.int .i64))∧w.grownBy w' (Value.slice ao n cap).ownBlock:=by
 have hxl:xs.length=n:=by simpa using ho.1
 rcases ho.2 with ⟨hv,h0⟩ | ⟨g,cap',cur,hv,hrest⟩
 ·obtain ⟨rfl,rfl,rfl⟩:ao=none∧n=0∧cap=0:=by simpa using hv
  clear hv h0
  go_enter Tryz.func18,Tryz.ntmps18
  go_wp2
  refine wp_loop_rounds 1 ?_
  rw [rounds_succ]
  go_wp2
  go_ret
  exact ⟨one_int (by simp),World.ownsRow_nil _ _ _ _,World.grownBy.refl _ _⟩
 ·obtain ⟨rfl,rfl⟩:ao=some ⟨g,0,none⟩∧cap=cap':=by simpa using hv
  clear hv hrest
  go_enter Tryz.func18,Tryz.ntmps18
  go_wp2
  go_loopw [1,5] (fun c i wr=>∃ j:Nat,j≤n∧i=.int .i64 j∧c=.int .i64 (k+j)∧wr.ownsRow base 3 1 (.slice (some ⟨g,0,none⟩) n cap) n (fillTo (fun i:Nat=>k+(i:Int)) xs j)∧w.grownBy wr (some g)) (fun _ i _=>n - (intOf i).toNat)
  case atStart=>exact ⟨0,Nat.zero_le _,rfl,by simp,by rw [fillTo_zero];exact ho,World.grownBy.refl _ _⟩
  case round =>
   obtain ⟨j,hj,rfl,rfl,hor,hgr⟩:=hrel
   clear ho
   by_cases hlt:j<n
   ·have hji:(j:Int)<(n:Int):=by omega
    have c2:∃ v,wr.cell? ⟨g,j,none⟩=some v:=by rw [hor.cellAt j (by omega),fillTo_at];exact ⟨_,List.getElem?_eq_getElem (by omega)⟩
    obtain ⟨old,c2⟩:=c2
    have c3:wr.frozen? ⟨g,j,none⟩=false:=hor.frozenAt j
    have R:=hor.stored j (.int .i64 (k+j))
    rw [show (fillTo (fun i:Nat=>k+(i:Int)) xs j).set j (.int .i64 (k+(j:Int)))=fillTo (fun i:Nat=>k+(i:Int)) xs (j+1) from (fillTo_succ _ _ j (by omega)).symm] at R
    have HR:Hid _:=R.1
    have HG:Hid (w.grownBy (wr.setCell ⟨g,j,none⟩ (.int .i64 (k+j))) (some g)):=hgr.trans R.2
    clear R hor hgr
    go_wp2
    go_roundw
    case rel=>exact ⟨j+1,by omega,by go_num,by congr 1;omega,HR.out,HG.out⟩
    case measure=>simp [intOf];omega
   ·have hjn:j=n:=by omega
    subst hjn
    rw [fill_cnt k xs j hxl] at hor
    have HO:Hid _:=hor
    clear hor
    go_wp2
    go_ret
    exact ⟨rfl,HO.out,hgr⟩
theorem heldIntS_any (ao:Option Addr) (cap n:Nat) (k:Int) (w:World) (hz:IntsAt w ao (cnt k n)) (hn:n≤1099511627776) (k1:0≤k) (k2:k≤1099511627776) :
  Calls Tryz.prog 60 #[.slice ao n cap,.int .i64 k] w fun e w'=>e=.returned (.int .i64 (k+n))∧w'=w:=by
 rcases hz with h0 | ⟨b,off,rfl,hb,hcell⟩
 ·have hn0:n=0:=by have:=cnt_len k n;rw [h0] at this;simpa using this.symm
  subst hn0
  clear h0
  go_enter Tryz.func60,Tryz.ntmps60
  go_wp2
  refine wp_loop_rounds 1 ?_
  rw [rounds_succ]
  go_wp2
  go_ret
  exact ⟨one_int (by simp),rfl⟩
 ·rw [cnt_len] at hcell
  go_enter Tryz.func60,Tryz.ntmps60
  go_wp2
  go_loop [1,5] (fun c i=>∃ j:Nat,j≤n∧i=.int .i64 j∧c=.int .i64 (k+j)) (fun _ i=>n - (intOf i).toNat)
  case atStart=>exact ⟨0,Nat.zero_le _,rfl,by simp⟩
  case round =>
   obtain ⟨j,hj,rfl,rfl⟩:=hrel
   by_cases hlt:j<n
   ·have hji:(j:Int)<(n:Int):=by omega
    have c2:=hcell j hlt
    rw [cnt_at k n j hlt] at c2
    clear hcell
    go_wp2
    go_round
    case rel=>exact ⟨j+1,by omega,by go_num,by congr 1;omega⟩
    case measure=>simp [intOf];omega
   ·have hjn:j=n:=by omega
    subst hjn
    clear hcell
    go_wp2
    go_ret
    exact ⟨rfl,rfl⟩
end Go.Proofs.YtomiclakhjncbaaGreatDoor
