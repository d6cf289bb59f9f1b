import Derived.Test.YtomiclakhjncbaaGreatDoorJX0a
import Derived.Test.YtomiclakhjncbaaGreatDoorKXCur
import Derived.Test.YtomiclakhjncbaaGreatDoorKXBase
import Derived.Deep.SlicePairs
import Derived.Deep.Strs
import Derived.Lib.SmallJoins
import Derived.Lib.AppendZeros
import Derived.Maps.AppendAt
import Derived.Deep.AppendLies
import Derived.Handy
import Derived.OwnWalk
import Derived.Deep.RegionWith
import Derived.Deep.RegionHeld3
import Derived.Conc.MuLone
import Derived.Deep.DeepCutAuto
import Derived.Lib.LaidTab
import Derived.Lib.AppendIntMem
import Derived.Lib.SplitLaws
import Derived.Lib.IndexBytes
import Derived.Deep.RegionLaw
import Derived.DeepKeys4
import Derived.Maps.OwnSet
import Derived.Maps.RangeWalk
import Derived.WideKeyEntry
namespace Go.Proofs.YtomiclakhjncbaaGreatDoor
open Go.Proofs.Tryz
set_option maxRecDepth 100000
set_option maxHeartbeats 12800000
abbrev Ln:=Int×Int×Int
abbrev En:=Int×Int×Int×Int
def Cg (ls:List Ln) (k:Nat):Ln:=ls.getD k (0,0,0)
theorem Pu {ls:List Ln} {k:Nat} (h:k<ls.length):Cg ls k=ls[k]:=by simp [Cg,List.getD_eq_getElem?_getD,h]
theorem Ex {ls:List Ln} {k:Nat} (h:k<ls.length):Cg ls k ∈ ls:=by rw [Pu h];exact List.getElem_mem h
theorem Kl (ls:List Ln) (k:Nat) (h:k<ls.length):ls.take (k+1)=ls.take k++[Cg ls k]:=by rw [List.take_succ_eq_append_getElem h,Pu h]
theorem Tu (ls:List Ln) (k:Nat) (h:k<ls.length):ls.drop k=Cg ls k::ls.drop (k+1):=by rw [List.drop_eq_getElem_cons h,Pu h]
def Cb (a:Int):Bool:=decide (1≤a∧a≤9999)
def G7 (x:Ln):Bool:=Cb x.1 && (decide (0≤Dc x.2.1) && (fL x.2.2 && decide (x.2.2≠0)))
def E3 (x y:Ln):Bool:=decide (x.1<y.1∨x.1=y.1∧x.2.1<y.2.1)
def Az:Option Ln→List Ln→Bool
 | _,[]=>true
 | none,x::r=>G7 x && Az (some x) r
 | some y,x::r=>(G7 x && E3 y x) && Az (some x) r
def Ec (cur:Int) (ls:List Ln):Int:=(ls.map fun x=>if x.2.1=cur then x.2.2 else 0).sum
theorem N5 (cur:Int) (ls:List Ln) (k:Nat) (h:k<ls.length):Ec cur (ls.take (k+1))=Ec cur (ls.take k)+if (Cg ls k).2.1=cur then (Cg ls k).2.2 else 0:=by
 rw [Kl ls k h];simp [Ec]
def Wo (ls:List Ln):Bool:=Gi.all fun c=>decide (Ec c ls=0)
def At (ls:List Ln):Bool:=Az none ls && (decide (ls.length≤400) && Wo ls)
def Bt (e:En):Bool:=Cb e.1 && (Cb e.2.1 && (decide (e.1≠e.2.1) && (decide (0≤Dc e.2.2.1) && decide (1≤e.2.2.2∧e.2.2.2≤1000000000000))))
def My (x:Ln) (a c:Int):Bool:=decide (a<x.1∨x.1=a∧c≤x.2.1)
def Cr:List Ln→Int→Int→Int→List Ln
 | [],a,c,m=>[(a,c,m)]
 | x::r,a,c,m=>if My x a c=true then (if x.1=a∧x.2.1=c then (if x.2.2+m≠0 then (a,c,x.2.2+m)::r else r) else (a,c,m)::x::r) else x::Cr r a c m
def G5 (ls:List Ln) (e:En):List Ln:=Cr (Cr ls e.1 e.2.2.1 (-e.2.2.2)) e.2.1 e.2.2.1 e.2.2.2
def Cj (ls:List Ln) (e:En):Bool:=(At ls && Bt e) && At (G5 ls e)
def Gg (ls:List Ln) (e:En):List Ln:=if Cj ls e=true then G5 ls e else ls
def Ch:List Ln→List En→Option (List Ln)
 | ls,[]=>some ls
 | ls,e::r=>if Cj ls e=true then Ch (G5 ls e) r else none
theorem Dv {ls:List Ln} : ∀ {p:Option Ln},Az p ls=true→∀ x ∈ ls,G7 x=true:=by
 induction ls with
 | nil=>intro p _ x hx;cases hx
 | cons y r ih =>
  intro p h x hx
  cases p with
  | none =>
   simp only [Az,Bool.and_eq_true] at h
   rcases List.mem_cons.1 hx with rfl | hr
   ·exact h.1
   ·exact ih h.2 x hr
  | some q =>
   simp only [Az,Bool.and_eq_true] at h
   rcases List.mem_cons.1 hx with rfl | hr
   ·exact h.1.1
   ·exact ih h.2 x hr
theorem Ig {x:Ln} (h:G7 x=true):(1≤x.1∧x.1≤9999)∧0≤Dc x.2.1∧(-1000000000000≤x.2.2∧x.2.2≤1000000000000)∧x.2.2≠0:=by
 simp only [G7,Cb,Bool.and_eq_true,decide_eq_true_eq] at h
 exact ⟨h.1,h.2.1,rH h.2.2.1,h.2.2.2⟩
theorem Mp (ls:List Ln) (a c m:Int):(Cr ls a c m).length≤ls.length+1:=by
 induction ls with
 | nil=>simp [Cr]
 | cons x r ih =>
  simp only [Cr]
  split
  ·split
   ·split <;> simp <;> omega
   ·simp
  ·simp;omega
structure Au where
 ref:List UInt8
 iss:Int
 cur:Int
 am:Int
 day:Int
 used:Bool
def Jc:Au:=⟨[],0,0,0,0,false⟩
def Ak (az:List Au) (k:Nat):Au:=az.getD k Jc
theorem Gw {az:List Au} {k:Nat} (h:k<az.length):Ak az k=az[k]:=by simp [Ak,List.getD_eq_getElem?_getD,h]
theorem J8 {az:List Au} {k:Nat} (h:k<az.length):Ak az k ∈ az:=by rw [Gw h];exact List.getElem_mem h
def Kk (l:List UInt8):Bool:=decide (l.length=12) && A6 33 126 l
def Gy (a:Au):Bool:=Kk a.ref && (Cb a.iss && (decide (0≤Dc a.cur) && (decide (1≤a.am∧a.am≤100000000000) && Dn a.day)))
def E9 (a:Au) (day:Int):Bool:=decide (a.day≤day∧day≤a.day+7)
def Ia (a:Au) (am:Int):Bool:=decide (1≤am∧am≤a.am+a.am / 10)
def Xr (a:Au) (iss cur am day:Int):Bool:=Gy a && (!a.used && (decide (a.iss=iss) && (decide (a.cur=cur) && (E9 a day && Ia a am))))
def Ue (x:Int):Int:=if x<0 then -x else x
def Co (a:Au) (iss cur am day:Int):Int:=if Xr a iss cur am day=true then 8*Ue (am - a.am)+day - a.day else -1
theorem L0 {a:Au} (h:Gy a=true):Kk a.ref=true∧Cb a.iss=true∧0≤Dc a.cur∧(1≤a.am∧a.am≤100000000000)∧Dn a.day=true:=by
 simpa [Gy] using h
end Go.Proofs.YtomiclakhjncbaaGreatDoor
namespace Go.Proofs.YtomiclakhjncbaaGreatDoor
open Go.ChangeShapes Go.WideShapes Go.ChangeAt Go.RowKit Go.Deep Go.Proofs.Tryz
set_option maxRecDepth 100000
set_option maxHeartbeats 12800000
def Bf (n:Int):Prop:=(Lit.int .i64 n).wf=true
def Hw (x:Ln):Prop:=Bf x.1∧Bf x.2.1∧Bf x.2.2
def Ma (e:En):Prop:=Bf e.1∧Bf e.2.1∧Bf e.2.2.1∧Bf e.2.2.2
def Ai (w:World) (ao:Option Addr) (ls:List Ln):Prop :=
 ls=[]∨∃ b off,ao=some ⟨b,off,none⟩∧b<w.heap.size∧∀ i,i<ls.length →
  w.cell? ⟨b,off+i*3,none⟩=some (.int .i64 (Cg ls i).1)∧w.cell? ⟨b,off+i*3+1,none⟩=some (.int .i64 (Cg ls i).2.1)∧w.cell? ⟨b,off+i*3+2,none⟩=some (.int .i64 (Cg ls i).2.2)
def Po (ls:List Ln):Prop:=ls.length≤maxLen∧∀ x ∈ ls,Hw x
theorem Ai.below {w w':World} {ao:Option Addr} {ls:List Ln} (h:Ai w ao ls) (hb:BW w w'):Ai w' ao ls:=by
 rcases h with h | ⟨b,off,h1,h2,h3⟩
 ·exact .inl h
 ·exact .inr ⟨b,off,h1,Nat.lt_of_lt_of_le h2 hb.size,fun i hi=>⟨(hb.cell (p:=⟨b,off+i*3,none⟩) h2).trans (h3 i hi).1,(hb.cell (p:=⟨b,off+i*3+1,none⟩) h2).trans (h3 i hi).2.1,(hb.cell (p:=⟨b,off+i*3+2,none⟩) h2).trans (h3 i hi).2.2⟩⟩
theorem Ai.at {w:World} {ao:Option Addr} {ls:List Ln} (h:Ai w ao ls) {k:Nat} (hk:k<ls.length) :
  ∃ b off,ao=some ⟨b,off,none⟩∧b<w.heap.size∧w.cell? ⟨b,off+k*3,none⟩=some (.int .i64 (Cg ls k).1)∧w.cell? ⟨b,off+k*3+1,none⟩=some (.int .i64 (Cg ls k).2.1)∧w.cell? ⟨b,off+k*3+2,none⟩=some (.int .i64 (Cg ls k).2.2):=by
 rcases h with rfl | ⟨b,off,h1,h2,h3⟩
 ·simp at hk
 ·exact ⟨b,off,h1,h2,h3 k hk⟩
def I4 (es:List En) (k:Nat):En:=es.getD k (0,0,0,0)
theorem bI {es:List En} {k:Nat} (h:k<es.length):I4 es k=es[k]:=by simp [I4,List.getD_eq_getElem?_getD,h]
theorem lJ {es:List En} {k:Nat} (h:k<es.length):I4 es k ∈ es:=by rw [bI h];exact List.getElem_mem h
def C8 (w:World) (ao:Option Addr) (es:List En):Prop :=
 es=[]∨∃ b off,ao=some ⟨b,off,none⟩∧b<w.heap.size∧∀ i,i<es.length →
  w.cell? ⟨b,off+i*4,none⟩=some (.int .i64 (I4 es i).1)∧w.cell? ⟨b,off+i*4+1,none⟩=some (.int .i64 (I4 es i).2.1)∧w.cell? ⟨b,off+i*4+2,none⟩=some (.int .i64 (I4 es i).2.2.1)∧w.cell? ⟨b,off+i*4+3,none⟩=some (.int .i64 (I4 es i).2.2.2)
theorem C8.below {w w':World} {ao:Option Addr} {es:List En} (h:C8 w ao es) (hb:BW w w'):C8 w' ao es:=by
 rcases h with h | ⟨b,off,h1,h2,h3⟩
 ·exact .inl h
 ·exact .inr ⟨b,off,h1,Nat.lt_of_lt_of_le h2 hb.size,fun i hi=>⟨(hb.cell (p:=⟨b,off+i*4,none⟩) h2).trans (h3 i hi).1,(hb.cell (p:=⟨b,off+i*4+1,none⟩) h2).trans (h3 i hi).2.1,(hb.cell (p:=⟨b,off+i*4+2,none⟩) h2).trans (h3 i hi).2.2.1,(hb.cell (p:=⟨b,off+i*4+3,none⟩) h2).trans (h3 i hi).2.2.2⟩⟩
theorem C8.at {w:World} {ao:Option Addr} {es:List En} (h:C8 w ao es) {k:Nat} (hk:k<es.length) :
  ∃ b off,ao=some ⟨b,off,none⟩∧b<w.heap.size∧w.cell? ⟨b,off+k*4,none⟩=some (.int .i64 (I4 es k).1)∧w.cell? ⟨b,off+k*4+1,none⟩=some (.int .i64 (I4 es k).2.1)∧w.cell? ⟨b,off+k*4+2,none⟩=some (.int .i64 (I4 es k).2.2.1)∧w.cell? ⟨b,off+k*4+3,none⟩=some (.int .i64 (I4 es k).2.2.2):=by
 rcases h with rfl | ⟨b,off,h1,h2,h3⟩
 ·simp at hk
 ·exact ⟨b,off,h1,h2,h3 k hk⟩
section
variable {P:Program} {H:Type} {enc:TypeId×Value→H} {W:World}
theorem sS {e:TypeId} {f0 f1 f2:Field} {fuel:Nat} {cs:List Value} {x:DataW H×List MemPlace} (he:P.underlying e=some (.struct #[f0,f1,f2])) (ce:P.cellsOf e=3) (o0:f0.offset=0) (o1:f1.offset=1) (o2:f2.offset=2)
  (c0:P.cellsOf f0.type=1) (c1:P.cellsOf f1.type=1) (c2:P.cellsOf f2.type=1) (u0:P.underlying f0.type=some (.int .i64)) (u1:P.underlying f1.type=some (.int .i64)) (u2:P.underlying f2.type=some (.int .i64))
  (h:DataW.trod enc P W 0 (fun _=>true) true fuel e cs=some x):∃ l:Ln,cs=[.int .i64 l.1,.int .i64 l.2.1,.int .i64 l.2.2]∧Hw l:=by
 obtain ⟨y0,y1,y2,n,_,hl,h0,h1,h2⟩:=trod_struct3 he h;rw [ce] at hl
 match cs,hl with
 | [a,b,c],_ =>
  simp [o0,o1,o2,c0,c1,c2] at h0 h1 h2
  obtain ⟨z0,q0,_,r0⟩:=DataW.trod_int u0 h0;obtain ⟨z1,q1,_,r1⟩:=DataW.trod_int u1 h1;obtain ⟨z2,q2,_,r2⟩:=DataW.trod_int u2 h2
  simp at q0 q1 q2
  exact ⟨(z0,z1,z2),by rw [q0,q1,q2],r0,r1,r2⟩
theorem Km (b off i j:Nat):((⟨b,off,none⟩:Addr).add i).add j=⟨b,off+i+j,none⟩:=by
 have e:∀ o k,((⟨b,o,none⟩:Addr).add k)=⟨b,o+k,none⟩:=fun o k=>by unfold Addr.add;split <;> simp_all
 rw [e,e]
theorem X9 {t e:TypeId} {f0 f1 f2:Field} {fuel:Nat} {y:Value} {x:DataW H×List MemPlace} (ht:P.underlying t=some (.slice e)) (he:P.underlying e=some (.struct #[f0,f1,f2])) (ce:P.cellsOf e=3) (o0:f0.offset=0) (o1:f1.offset=1) (o2:f2.offset=2)
  (c0:P.cellsOf f0.type=1) (c1:P.cellsOf f1.type=1) (c2:P.cellsOf f2.type=1) (u0:P.underlying f0.type=some (.int .i64)) (u1:P.underlying f1.type=some (.int .i64)) (u2:P.underlying f2.type=some (.int .i64))
  (h:DataW.trod enc P W 0 (fun _=>true) true fuel t [y]=some x):∃ a cap ls,y=.slice a (List.length ls) cap∧Ai W a ls∧Po ls:=by
 rcases open_slice ht h with ⟨e1,_⟩ | ⟨a,len,cap,m,n,D,Pl,e1,hb,hlc,hm,hmm,_,hx⟩
 ·simp at e1
  exact ⟨none,0,[],by rw [e1];rfl,.inl rfl,Nat.zero_le _,fun f hf=>by cases hf⟩
 ·simp at e1 hmm
  subst hmm
  obtain ⟨F,hF⟩:=choose_lt (α:=Ln) (n:=m) (p:=fun i l=>W.cells? 0 (a.add (i*P.cellsOf e)) (P.cellsOf e)=some [.int .i64 l.1,.int .i64 l.2.1,.int .i64 l.2.2]∧Hw l) (fun i hi=>by
   obtain ⟨cs',g1,g2⟩:=hx i hi;obtain ⟨l,rfl,hl⟩:=sS he ce o0 o1 o2 c0 c1 c2 u0 u1 u2 g2;exact ⟨l,g1,hl⟩)
  refine ⟨some a,m,(List.range len).map F,by rw [e1];simp,?_,by rw [List.length_map,List.length_range];exact Nat.le_trans hlc hm,fun f hf=>by
   obtain ⟨i,hi,rfl⟩:=List.mem_map.1 hf
   exact (hF i (by have:=List.mem_range.1 hi;omega)).2⟩
  by_cases hz:len=0
  ·subst hz;exact .inl rfl
  ·have each:∀ i,i<len→∀ j v,[Value.int .i64 (F i).1,.int .i64 (F i).2.1,.int .i64 (F i).2.2][j]?=some v→W.cell? ((a.add (i*3)).add j)=some v:=fun i hi j v hv=>by
     have g:=(hF i (by omega)).1
     rw [ce] at g;obtain ⟨_,_,hcell⟩:=World.cells?_some g
     have:=hcell j (by have:=(List.getElem?_eq_some_iff.1 hv).1;simpa using this)
     rw [this];simpa using hv
   obtain ⟨bk,off,spot⟩:=a
   have hc0:=each 0 (by omega) 0 _ rfl
   have hspot:spot=none:=by simpa [Addr.add] using World.cell?_spot hc0
   subst hspot
   refine .inr ⟨bk,off,rfl,?_,fun i hi=>?_⟩
   ·have:=World.block_lt_of_cell? W _ hc0
    simpa [Km] using this
   ·have hi':i<len:=by simpa using hi
    have hat:Cg ((List.range len).map F) i=F i:=by simp [Cg,List.getD_eq_getElem?_getD,hi']
    rw [hat];have g0:=each i hi' 0 _ rfl;have g1:=each i hi' 1 _ rfl;have g2:=each i hi' 2 _ rfl;rw [Km] at g0 g1 g2;exact ⟨g0,g1,g2⟩
end
def Lm (x:Ln):List Value:=[.int .i64 x.1,.int .i64 x.2.1,.int .i64 x.2.2]
def Ag (ls:List Ln):List Value:=ls.flatMap Lm
theorem Kj (x:Ln) (r:List Ln):Ag (x::r)=.int .i64 x.1::.int .i64 x.2.1::.int .i64 x.2.2::Ag r:=rfl
theorem Ip (a b:List Ln):Ag (a++b)=Ag a++Ag b:=by simp [Ag]
theorem Cn (ls:List Ln):(Ag ls).length=ls.length*3:=by
 induction ls with
 | nil=>rfl
 | cons f r ih=>rw [Kj];simp [ih];omega
theorem Hj (ls:List Ln):∀ k,k<ls.length→(Ag ls)[k*3]?=some (.int .i64 (Cg ls k).1)∧(Ag ls)[k*3+1]?=some (.int .i64 (Cg ls k).2.1)∧(Ag ls)[k*3+2]?=some (.int .i64 (Cg ls k).2.2):=by
 induction ls with
 | nil=>intro k h;simp at h
 | cons f r ih =>
  intro k h;rw [Kj]
  cases k with
  | zero=>exact ⟨rfl,rfl,rfl⟩
  | succ k =>
   have:=ih k (by simpa using h)
   rw [show (k+1) * 3=k*3+1+1+1 by omega]
   simp only [List.getElem?_cons_succ]
   exact this
theorem Q2 (ls:List Ln) (x:Ln):∀ k,k<ls.length→(((Ag ls).set (k*3) (.int .i64 x.1)).set (k*3+1) (.int .i64 x.2.1)).set (k*3+2) (.int .i64 x.2.2)=Ag (ls.set k x):=by
 induction ls with
 | nil=>intro k h;simp at h
 | cons g r ih =>
  intro k h;rw [Kj]
  cases k with
  | zero=>rfl
  | succ k =>
   have:=ih k (by simpa using h)
   rw [show (k+1) * 3=k*3+1+1+1 by omega]
   simp only [List.set_cons_succ]
   rw [this]
   rfl
theorem Z5 (ls:List Ln):∀ u ∈ Ag ls,u.oneCell'=true:=by
 intro u hu
 simp only [Ag,List.mem_flatMap,Lm] at hu
 obtain ⟨f,_,hf⟩:=hu
 simp at hf
 rcases hf with rfl | rfl | rfl <;> rfl
theorem Ef {w:World} {base n:Nat} {t:TypeId} {v:Value} {ls:List Ln} (h:w.ownsRow base t 3 v n (Ag ls)):∃ ao cap,v=.slice ao ls.length cap∧Ai w ao ls∧n=ls.length:=by
 have hn:n=ls.length:=by have:=h.1;rw [Cn] at this;omega
 subst hn
 rcases h.2 with ⟨rfl,hn⟩ | ⟨g,cap,cur,rfl,_⟩
 ·have:ls=[]:=List.eq_nil_of_length_eq_zero hn
  subst this;exact ⟨none,0,rfl,.inl rfl,rfl⟩
 ·refine ⟨_,cap,rfl,?_,rfl⟩
  by_cases h0:ls=[]
  ·exact .inl h0
  ·refine .inr ⟨g,0,rfl,(h.lt g rfl).2,fun i hi=>?_⟩
   have:=Hj ls i hi
   rw [Nat.zero_add,h.cellAt (i*3) (by omega),h.cellAt (i*3+1) (by omega),h.cellAt (i*3+2) (by omega)]
   exact this
def Kx (a:Au):List Value:=[.string ⟨a.ref.toArray⟩,.int .i64 a.iss,.int .i64 a.cur,.int .i64 a.am,.int .i64 a.day,.bool a.used]
def Fe (a:Au):Value:=.agg #[.string ⟨a.ref.toArray⟩,.int .i64 a.iss,.int .i64 a.cur,.int .i64 a.am,.int .i64 a.day,.bool a.used]
def qH (a:Au):Prop:=a.ref.length≤maxLen∧Bf a.iss∧Bf a.cur∧Bf a.am∧Bf a.day
def Ar (w:World) (ao:Option Addr) (az:List Au):Prop :=
 az=[]∨∃ b off,ao=some ⟨b,off,none⟩∧b<w.heap.size∧∀ i,i<az.length →
  w.cell? ⟨b,off+i*6,none⟩=some (.string ⟨(Ak az i).ref.toArray⟩)∧w.cell? ⟨b,off+i*6+1,none⟩=some (.int .i64 (Ak az i).iss)∧w.cell? ⟨b,off+i*6+2,none⟩=some (.int .i64 (Ak az i).cur)∧w.cell? ⟨b,off+i*6+3,none⟩=some (.int .i64 (Ak az i).am)∧w.cell? ⟨b,off+i*6+4,none⟩=some (.int .i64 (Ak az i).day)∧w.cell? ⟨b,off+i*6+5,none⟩=some (.bool (Ak az i).used)
def Ml (az:List Au):Prop:=az.length≤maxLen∧∀ x ∈ az,qH x
theorem Ar.below {w w':World} {ao:Option Addr} {az:List Au} (h:Ar w ao az) (hb:BW w w'):Ar w' ao az:=by
 rcases h with h | ⟨b,off,h1,h2,h3⟩
 ·exact .inl h
 ·exact .inr ⟨b,off,h1,Nat.lt_of_lt_of_le h2 hb.size,fun i hi=>⟨(hb.cell (p:=⟨b,off+i*6,none⟩) h2).trans (h3 i hi).1,(hb.cell (p:=⟨b,off+i*6+1,none⟩) h2).trans (h3 i hi).2.1,(hb.cell (p:=⟨b,off+i*6+2,none⟩) h2).trans (h3 i hi).2.2.1,(hb.cell (p:=⟨b,off+i*6+3,none⟩) h2).trans (h3 i hi).2.2.2.1,(hb.cell (p:=⟨b,off+i*6+4,none⟩) h2).trans (h3 i hi).2.2.2.2.1,(hb.cell (p:=⟨b,off+i*6+5,none⟩) h2).trans (h3 i hi).2.2.2.2.2⟩⟩
section
variable {P:Program} {H:Type} {enc:TypeId×Value→H} {W:World}
theorem Zw {e:TypeId} {f0 f1 f2 f3 f4 f5:Field} {fuel:Nat} {cs:List Value} {x:DataW H×List MemPlace} (he:P.underlying e=some (.struct #[f0,f1,f2,f3,f4,f5])) (ce:P.cellsOf e=6) (o0:f0.offset=0) (o1:f1.offset=1) (o2:f2.offset=2) (o3:f3.offset=3) (o4:f4.offset=4) (o5:f5.offset=5)
  (c0:P.cellsOf f0.type=1) (c1:P.cellsOf f1.type=1) (c2:P.cellsOf f2.type=1) (c3:P.cellsOf f3.type=1) (c4:P.cellsOf f4.type=1) (c5:P.cellsOf f5.type=1) (u0:P.underlying f0.type=some .string) (u1:P.underlying f1.type=some (.int .i64)) (u2:P.underlying f2.type=some (.int .i64)) (u3:P.underlying f3.type=some (.int .i64)) (u4:P.underlying f4.type=some (.int .i64)) (u5:P.underlying f5.type=some .bool)
  (h:DataW.trod enc P W 0 (fun _=>true) true fuel e cs=some x):∃ l:Au,cs=Kx l∧qH l:=by
 obtain ⟨xs,n,_,_,hl,hxl,hf⟩:=DataW.trod_struct he h;rw [ce] at hl
 match xs,hxl,cs,hl with
 | [y0,y1,y2,y3,y4,y5],_,[a0,a1,a2,a3,a4,a5],_ =>
  have h0:=hf 0 f0 rfl;have h1:=hf 1 f1 rfl;have h2:=hf 2 f2 rfl;have h3:=hf 3 f3 rfl;have h4:=hf 4 f4 rfl;have h5:=hf 5 f5 rfl
  simp [o0,c0] at h0
  simp [o1,c1] at h1
  simp [o2,c2] at h2
  simp [o3,c3] at h3
  simp [o4,c4] at h4
  simp [o5,c5] at h5
  obtain ⟨z0,q0,_,r0⟩:=DataW.trod_string u0 h0;obtain ⟨z1,q1,_,r1⟩:=DataW.trod_int u1 h1;obtain ⟨z2,q2,_,r2⟩:=DataW.trod_int u2 h2;obtain ⟨z3,q3,_,r3⟩:=DataW.trod_int u3 h3;obtain ⟨z4,q4,_,r4⟩:=DataW.trod_int u4 h4;obtain ⟨z5,q5,_⟩:=DataW.trod_bool u5 h5
  simp at q0 q1 q2 q3 q4 q5
  exact ⟨⟨z0.data.toList,z1,z2,z3,z4,z5⟩,by rw [q0,q1,q2,q3,q4,q5];rfl,by show z0.data.toList.length≤maxLen;rw [Array.length_toList];exact r0,r1,r2,r3,r4⟩
theorem aX {t e:TypeId} {f0 f1 f2 f3 f4 f5:Field} {fuel:Nat} {y:Value} {x:DataW H×List MemPlace} (ht:P.underlying t=some (.slice e)) (he:P.underlying e=some (.struct #[f0,f1,f2,f3,f4,f5])) (ce:P.cellsOf e=6) (o0:f0.offset=0) (o1:f1.offset=1) (o2:f2.offset=2) (o3:f3.offset=3) (o4:f4.offset=4) (o5:f5.offset=5)
  (c0:P.cellsOf f0.type=1) (c1:P.cellsOf f1.type=1) (c2:P.cellsOf f2.type=1) (c3:P.cellsOf f3.type=1) (c4:P.cellsOf f4.type=1) (c5:P.cellsOf f5.type=1) (u0:P.underlying f0.type=some .string) (u1:P.underlying f1.type=some (.int .i64)) (u2:P.underlying f2.type=some (.int .i64)) (u3:P.underlying f3.type=some (.int .i64)) (u4:P.underlying f4.type=some (.int .i64)) (u5:P.underlying f5.type=some .bool)
  (h:DataW.trod enc P W 0 (fun _=>true) true fuel t [y]=some x):∃ a cap ls,y=.slice a (List.length ls) cap∧Ar W a ls∧Ml ls:=by
 rcases open_slice ht h with ⟨e1,_⟩ | ⟨a,len,cap,m,n,D,Pl,e1,hb,hlc,hm,hmm,_,hx⟩
 ·simp at e1
  exact ⟨none,0,[],by rw [e1];rfl,.inl rfl,Nat.zero_le _,fun f hf=>by cases hf⟩
 ·simp at e1 hmm
  subst hmm
  haveI:Inhabited Au:=⟨Jc⟩
  obtain ⟨F,hF⟩:=choose_lt (α:=Au) (n:=m) (p:=fun i l=>W.cells? 0 (a.add (i*P.cellsOf e)) (P.cellsOf e)=some (Kx l)∧qH l) (fun i hi=>by
   obtain ⟨cs',g1,g2⟩:=hx i hi;obtain ⟨l,rfl,hl⟩:=Zw he ce o0 o1 o2 o3 o4 o5 c0 c1 c2 c3 c4 c5 u0 u1 u2 u3 u4 u5 g2;exact ⟨l,g1,hl⟩)
  refine ⟨some a,m,(List.range len).map F,by rw [e1];simp,?_,by rw [List.length_map,List.length_range];exact Nat.le_trans hlc hm,fun f hf=>by
   obtain ⟨i,hi,rfl⟩:=List.mem_map.1 hf
   exact (hF i (by have:=List.mem_range.1 hi;omega)).2⟩
  by_cases hz:len=0
  ·subst hz;exact .inl rfl
  ·have each:∀ i,i<len→∀ j v,(Kx (F i))[j]?=some v→W.cell? ((a.add (i*6)).add j)=some v:=fun i hi j v hv=>by
     have g:=(hF i (by omega)).1
     rw [ce] at g;obtain ⟨_,_,hcell⟩:=World.cells?_some g
     have:=hcell j (by have:=(List.getElem?_eq_some_iff.1 hv).1;simpa [Kx] using this)
     rw [this];simpa using hv
   obtain ⟨bk,off,spot⟩:=a
   have hc0:=each 0 (by omega) 0 _ rfl
   have hspot:spot=none:=by simpa [Addr.add] using World.cell?_spot hc0
   subst hspot
   refine .inr ⟨bk,off,rfl,?_,fun i hi=>?_⟩
   ·have:=World.block_lt_of_cell? W _ hc0
    simpa [Km] using this
   ·have hi':i<len:=by simpa using hi
    have hat:Ak ((List.range len).map F) i=F i:=by simp [Ak,List.getD_eq_getElem?_getD,hi']
    rw [hat];have g0:=each i hi' 0 _ rfl;have g1:=each i hi' 1 _ rfl;have g2:=each i hi' 2 _ rfl;have g3:=each i hi' 3 _ rfl;have g4:=each i hi' 4 _ rfl;have g5:=each i hi' 5 _ rfl;rw [Km] at g0 g1 g2 g3 g4 g5;exact ⟨g0,g1,g2,g3,g4,g5⟩
end
end Go.Proofs.YtomiclakhjncbaaGreatDoor
namespace Go.Proofs.YtomiclakhjncbaaGreatDoor
open Go.RowKit Go.Proofs.Tryz
set_option maxRecDepth 100000
set_option maxHeartbeats 12800000
theorem Iw {w w':World} {base n size:Nat} {t:TypeId} {v:Value} {xs:List Value} (h:w.ownsRow base t size v n xs) (hb:BW w w'):w'.ownsRow base t size v n xs:=by
 obtain ⟨h1,h2⟩:=h;refine ⟨h1,?_⟩
 rcases h2 with h | ⟨g,cap,cur,hv,hg,hh,a1,a2,a3,a4⟩
 ·exact .inl h
 ·have hlt:g<w.heap.size:=(Array.getElem?_eq_some_iff.1 hh).1
  exact .inr ⟨g,cap,cur,hv,hg,(hb.block g hlt).trans hh,a1,a2,a3,a4⟩
theorem Ri {w:World} {base base' n size:Nat} {t:TypeId} {v:Value} {xs:List Value} (h:w.ownsRow base t size v n xs) (hb:base'≤base):w.ownsRow base' t size v n xs:=by
 obtain ⟨h1,h2⟩:=h;refine ⟨h1,?_⟩
 rcases h2 with h | ⟨g,cap,cur,hv,hg,r⟩
 ·exact .inl h
 ·exact .inr ⟨g,cap,cur,hv,Nat.le_trans hb hg,r⟩
def Ah (az:List Au):List Value:=az.flatMap Kx
theorem Ju (a:Au) (r:List Au):Ah (a::r)=.string ⟨a.ref.toArray⟩::.int .i64 a.iss::.int .i64 a.cur::.int .i64 a.am::.int .i64 a.day::.bool a.used::Ah r:=rfl
theorem F9 (a b:List Au):Ah (a++b)=Ah a++Ah b:=by simp [Ah]
theorem E2 (az:List Au):(Ah az).length=az.length*6:=by
 induction az with
 | nil=>rfl
 | cons a r ih=>rw [Ju];simp [ih];omega
theorem De (az:List Au):∀ k,k<az.length→(Ah az)[k*6]?=some (.string ⟨(Ak az k).ref.toArray⟩)∧(Ah az)[k*6+1]?=some (.int .i64 (Ak az k).iss)∧(Ah az)[k*6+2]?=some (.int .i64 (Ak az k).cur)∧(Ah az)[k*6+3]?=some (.int .i64 (Ak az k).am)∧(Ah az)[k*6+4]?=some (.int .i64 (Ak az k).day)∧(Ah az)[k*6+5]?=some (.bool (Ak az k).used):=by
 induction az with
 | nil=>intro k h;simp at h
 | cons a r ih =>
  intro k h;rw [Ju]
  cases k with
  | zero=>exact ⟨rfl,rfl,rfl,rfl,rfl,rfl⟩
  | succ k =>
   have:=ih k (by simpa using h)
   rw [show (k+1) * 6=k*6+1+1+1+1+1+1 by omega,show k*6+1+1+1+1+1+1+1=(k*6+1)+1+1+1+1+1+1 by omega,show k*6+1+1+1+1+1+1+2=(k*6+2)+1+1+1+1+1+1 by omega,show k*6+1+1+1+1+1+1+3=(k*6+3)+1+1+1+1+1+1 by omega,show k*6+1+1+1+1+1+1+4=(k*6+4)+1+1+1+1+1+1 by omega,show k*6+1+1+1+1+1+1+5=(k*6+5)+1+1+1+1+1+1 by omega]
   simp only [List.getElem?_cons_succ]
   exact this
theorem Hu (az:List Au) (a:Au):∀ k,k<az.length→(((((((Ah az).set (k*6) (.string ⟨a.ref.toArray⟩)).set (k*6+1) (.int .i64 a.iss)).set (k*6+2) (.int .i64 a.cur)).set (k*6+3) (.int .i64 a.am)).set (k*6+4) (.int .i64 a.day)).set (k*6+5) (.bool a.used))=Ah (az.set k a):=by
 induction az with
 | nil=>intro k h;simp at h
 | cons g r ih =>
  intro k h;rw [Ju]
  cases k with
  | zero=>rfl
  | succ k =>
   have:=ih k (by simpa using h)
   rw [show (k+1) * 6=k*6+1+1+1+1+1+1 by omega,show k*6+1+1+1+1+1+1+1=(k*6+1)+1+1+1+1+1+1 by omega,show k*6+1+1+1+1+1+1+2=(k*6+2)+1+1+1+1+1+1 by omega,show k*6+1+1+1+1+1+1+3=(k*6+3)+1+1+1+1+1+1 by omega,show k*6+1+1+1+1+1+1+4=(k*6+4)+1+1+1+1+1+1 by omega,show k*6+1+1+1+1+1+1+5=(k*6+5)+1+1+1+1+1+1 by omega]
   simp only [List.set_cons_succ,this]
   rfl
theorem G9 {xs:List Value} {k:Nat} {v:Value} (h:xs[k]?=some v):xs.set k v=xs:=by
 apply List.ext_getElem? ;intro i
 by_cases e:k=i
 ·subst e
  rw [List.getElem?_set_self (List.getElem?_eq_some_iff.1 h).1,h]
 ·rw [List.getElem?_set_ne e]
theorem On (az:List Au) (b:Bool) (k:Nat) (h:k<az.length):(Ah az).set (k*6+5) (.bool b)=Ah (az.set k ⟨(Ak az k).ref,(Ak az k).iss,(Ak az k).cur,(Ak az k).am,(Ak az k).day,b⟩):=by
 rw [← Hu az _ k h];obtain ⟨h0,h1,h2,h3,h4,h5⟩:=De az k h
 simp only
 rw [G9 h0,G9 h1,G9 h2,G9 h3,G9 h4]
theorem aN (az:List Au):∀ u ∈ Ah az,u.oneCell'=true:=by
 intro u hu;obtain ⟨a,_,h⟩:=List.mem_flatMap.1 hu
 simp only [Kx,List.mem_cons,List.not_mem_nil,or_false] at h
 rcases h with rfl | rfl | rfl | rfl | rfl | rfl <;> rfl
theorem Ul {w:World} {base g n cap:Nat} {t:TypeId} {az:List Au} (h:w.ownsRow base t 6 (.slice (some ⟨g,0,none⟩) n cap) n (Ah az)):Ar w (some ⟨g,0,none⟩) az:=by
 have hl:=h.1;rw [E2] at hl
 by_cases h0:az=[]
 ·exact .inl h0
 ·have hlt:=(h.lt g rfl).2
  refine .inr ⟨g,0,rfl,hlt,fun i hi=>?_⟩
  have:=De az i hi
  rw [Nat.zero_add,h.cellAt (i*6) (by omega),h.cellAt (i*6+1) (by omega),h.cellAt (i*6+2) (by omega),h.cellAt (i*6+3) (by omega),h.cellAt (i*6+4) (by omega),h.cellAt (i*6+5) (by omega)]
  exact this
theorem Lo {w:World} {base n:Nat} {t:TypeId} {v:Value} {az:List Au} (h:w.ownsRow base t 6 v n (Ah az)):∃ ao cap,v=.slice ao az.length cap∧Ar w ao az∧n=az.length:=by
 have hn:n=az.length:=by have:=h.1;rw [E2] at this;omega
 subst hn
 rcases h.2 with ⟨rfl,hn⟩ | ⟨g,cap,cur,rfl,_⟩
 ·have:az=[]:=List.eq_nil_of_length_eq_zero hn
  subst this;exact ⟨none,0,rfl,.inl rfl,rfl⟩
 ·exact ⟨_,cap,rfl,Ul h,rfl⟩
theorem Fd {w:World} {base n:Nat} {t:TypeId} {ao:Option Addr} {cap:Nat} {az:List Au} (h:w.ownsRow base t 6 (.slice ao n cap) n (Ah az)):Ar w ao az:=by
 obtain ⟨ao',cap',hv,hf,_⟩:=Lo h
 obtain ⟨rfl,_⟩:ao=ao'∧n=az.length∧cap=cap':=by simpa using hv
 exact hf
def Du (az:List Au) (k:Nat):List Au:=az.take k++List.replicate (az.length - k) Jc
theorem Pz (az:List Au):Du az 0=List.replicate az.length Jc:=by simp [Du]
theorem Sv (az:List Au):Du az az.length=az:=by simp [Du]
theorem Iu (az:List Au) (k:Nat) (h:k≤az.length):(Du az k).length=az.length:=by simp [Du];omega
theorem Ly (az:List Au) (k:Nat) (h:k<az.length):(Du az k).set k (Ak az k)=Du az (k+1):=by
 unfold Du
 rw [List.set_append,if_neg (by simp;omega),List.length_take,Nat.min_eq_left (Nat.le_of_lt h),Nat.sub_self,show az.length - k=az.length - (k+1)+1 by omega,List.replicate_succ,List.set_cons_zero,List.take_succ_eq_append_getElem h,Gw h,List.append_assoc]
 rfl
theorem Wu (az:List Au) (k:Nat) (h:k<az.length):Ak (Du az k) k=Jc:=by
 simp [Ak,Du,List.getD_eq_getElem?_getD,List.getElem?_append,Nat.min_eq_left (Nat.le_of_lt h),List.getElem?_replicate]
 split <;> rfl
theorem cF:(prog.info? 107).map (fun i=>(i.zero,i.size,i.bytes))=some (some (.agg #[.string ⟨#[]⟩,.int .i64 0,.int .i64 0,.int .i64 0,.int .i64 0,.bool false]),6,56):=by kernel_rfl
theorem Qx (m:Nat):(madeCells (Value.agg #[.string ⟨#[]⟩,.int .i64 0,.int .i64 0,.int .i64 0,.int .i64 0,.bool false]).cells (m*6)).toList=Ah (List.replicate m Jc):=by
 apply List.ext_getElem?;intro j
 by_cases hj:j<m*6
 ·have hq:j / 6<(List.replicate m Jc).length:=by simp;omega
  have ha:Ak (List.replicate m Jc) (j / 6)=Jc:=by
   simp [Ak,List.getD_eq_getElem?_getD,List.getElem?_replicate];split <;> rfl
  have h:=De _ _ hq;rw [ha] at h
  have hl:(madeCells (Value.agg #[.string ⟨#[]⟩,.int .i64 0,.int .i64 0,.int .i64 0,.int .i64 0,.bool false]).cells (m*6)).toList[j]?=some ((#[Value.string ⟨#[]⟩,.int .i64 0,.int .i64 0,.int .i64 0,.int .i64 0,.bool false]:Array Value)[j % 6]!):=by
   simp [madeCells,hj,Value.cells]
  obtain ⟨h0,h1,h2,h3,h4,h5⟩:=h
  rcases (show j % 6=0∨j % 6=1∨j % 6=2∨j % 6=3∨j % 6=4∨j % 6=5 by omega) with e | e | e | e | e | e
  ·rw [hl,e,show j=j / 6*6 by omega,h0];rfl
  ·rw [hl,e,show j=j / 6*6+1 by omega,h1];rfl
  ·rw [hl,e,show j=j / 6*6+2 by omega,h2];rfl
  ·rw [hl,e,show j=j / 6*6+3 by omega,h3];rfl
  ·rw [hl,e,show j=j / 6*6+4 by omega,h4];rfl
  ·rw [hl,e,show j=j / 6*6+5 by omega,h5];rfl
 ·rw [List.getElem?_eq_none (by rw [Array.length_toList,size_madeCells];omega),List.getElem?_eq_none (by rw [E2];simp;omega)]
end Go.Proofs.YtomiclakhjncbaaGreatDoor
namespace Go.Proofs.YtomiclakhjncbaaGreatDoor
open Go.Proofs.Tryz
set_option maxRecDepth 100000
set_option maxHeartbeats 12800000
structure Cs where
 iss:Int
 acq:Int
 cur:Int
 am:Int
 st:Int
 rsn:Int
 cl:Int
 bk:Int
 fee:Int
 cop:Bool
 sta:Int
 due:Int
structure Ac where
 kind:Int
 am:Int
 rsn:Int
def Oy (x:Int):Bool:=x == 4837 || x == 4855 || x == 4834 || x == 4831 || x == 4853 || x == 4841
def Fs (x:Int):Int:=if x=4837 then 85 else if x=4855 then 65 else if x=4834 then 45 else if x=4831 then 45 else if x=4853 then 65 else if x=4841 then 45 else -1
def Gb (x:Int):Bool:=x == 4831 || x == 4853
def E8 (x:Int):Bool:=x == 4837 || x == 4834
theorem K7 (x:Int):x=4837∨x=4855∨x=4834∨x=4831∨x=4853∨x=4841∨(x≠4837∧x≠4855∧x≠4834∧x≠4831∧x≠4853∧x≠4841):=by omega
theorem Up {x:Int} (h:x≠4837∧x≠4855∧x≠4834∧x≠4831∧x≠4853∧x≠4841):Oy x=false:=by simp [Oy,h]
theorem jX {x:Int} (h:x≠4837∧x≠4855∧x≠4834∧x≠4831∧x≠4853∧x≠4841):Fs x = -1:=by simp [Fs,h]
theorem mD {x:Int} (h:x≠4837∧x≠4855∧x≠4834∧x≠4831∧x≠4853∧x≠4841):Gb x=false:=by simp [Gb,h]
theorem gS {x:Int} (h:x≠4837∧x≠4855∧x≠4834∧x≠4831∧x≠4853∧x≠4841):E8 x=false:=by simp [E8,h]
def Ls (st:Int):Bool:=decide (0≤st∧st≤2) || decide (st=7)
def Fb (a:Int):Bool:=Cb a && decide (a≠9999)
def Cy (r st:Int):Bool:=Oy r || (decide (r=0) && Ls st)
def Ao (c:Cs):Bool :=
 Fb c.iss && (Fb c.acq && (decide (c.iss≠c.acq) && (decide (0≤Dc c.cur) && (decide (1≤c.am∧c.am≤100000000000) && (decide (0≤c.st∧c.st≤7) && (Cy c.rsn c.st &&
  (decide (0≤c.cl∧c.cl≤c.am) && (decide (0≤c.bk∧c.bk≤c.am) && (decide (0≤c.fee∧c.fee≤500000) && (Dn c.sta && (Dn c.due || decide (c.due = -1))))))))))))
theorem Jb {c:Cs} (h:Ao c=true):Fb c.iss=true∧Fb c.acq=true∧c.iss≠c.acq∧0≤Dc c.cur∧(1≤c.am∧c.am≤100000000000)∧(0≤c.st∧c.st≤7)∧Cy c.rsn c.st=true ∧
  (0≤c.cl∧c.cl≤c.am)∧(0≤c.bk∧c.bk≤c.am)∧(0≤c.fee∧c.fee≤500000)∧Dn c.sta=true∧(Dn c.due=true∨c.due = -1):=by
 simpa [Ao] using h
def Ci (iss acq cur am day:Int):Cs:=⟨iss,acq,cur,am,0,0,0,0,0,false,day,-1⟩
end Go.Proofs.YtomiclakhjncbaaGreatDoor
namespace Go.Proofs.YtomiclakhjncbaaGreatDoor
open Go.RowKit Go.Proofs.Tryz
set_option maxRecDepth 100000
set_option maxHeartbeats 12800000
def cv (c:Cs):Value:=.agg #[.int .i64 c.iss,.int .i64 c.acq,.int .i64 c.cur,.int .i64 c.am,.int .i64 c.st,.int .i64 c.rsn,.int .i64 c.cl,.int .i64 c.bk,.int .i64 c.fee,.bool c.cop,.int .i64 c.sta,.int .i64 c.due]
def Xt (c:Cs):Array Value:=#[.int .i64 c.iss,.int .i64 c.acq,.int .i64 c.cur,.int .i64 c.am,.int .i64 c.st,.int .i64 c.rsn,.int .i64 c.cl,.int .i64 c.bk,.int .i64 c.fee,.bool c.cop,.int .i64 c.sta,.int .i64 c.due]
structure CB (s o:Nat) (c:Cs) (u:World):Prop where
 f0:u.cell? ⟨s,o,none⟩=some (.int .i64 c.iss)
 f1:u.cell? ⟨s,o+1,none⟩=some (.int .i64 c.acq)
 f2:u.cell? ⟨s,o+2,none⟩=some (.int .i64 c.cur)
 f3:u.cell? ⟨s,o+3,none⟩=some (.int .i64 c.am)
 f4:u.cell? ⟨s,o+4,none⟩=some (.int .i64 c.st)
 f5:u.cell? ⟨s,o+5,none⟩=some (.int .i64 c.rsn)
 f6:u.cell? ⟨s,o+6,none⟩=some (.int .i64 c.cl)
 f7:u.cell? ⟨s,o+7,none⟩=some (.int .i64 c.bk)
 f8:u.cell? ⟨s,o+8,none⟩=some (.int .i64 c.fee)
 f9:u.cell? ⟨s,o+9,none⟩=some (.bool c.cop)
 f10:u.cell? ⟨s,o+10,none⟩=some (.int .i64 c.sta)
 f11:u.cell? ⟨s,o+11,none⟩=some (.int .i64 c.due)
theorem CB.lt {s o:Nat} {c:Cs} {u:World} (h:CB s o c u):s<u.heap.size:=World.block_lt_of_cell? u _ h.f0
theorem CB.below {s o:Nat} {c:Cs} {u u':World} (h:CB s o c u) (b:BW u u'):CB s o c u':=by
 have l:=h.lt
 exact ⟨(b.cell (p:=⟨s,o,none⟩) l).trans h.f0,(b.cell (p:=⟨s,o+1,none⟩) l).trans h.f1,(b.cell (p:=⟨s,o+2,none⟩) l).trans h.f2,(b.cell (p:=⟨s,o+3,none⟩) l).trans h.f3,(b.cell (p:=⟨s,o+4,none⟩) l).trans h.f4,(b.cell (p:=⟨s,o+5,none⟩) l).trans h.f5,
  (b.cell (p:=⟨s,o+6,none⟩) l).trans h.f6,(b.cell (p:=⟨s,o+7,none⟩) l).trans h.f7,(b.cell (p:=⟨s,o+8,none⟩) l).trans h.f8,(b.cell (p:=⟨s,o+9,none⟩) l).trans h.f9,(b.cell (p:=⟨s,o+10,none⟩) l).trans h.f10,(b.cell (p:=⟨s,o+11,none⟩) l).trans h.f11⟩
theorem CB.grown {s o:Nat} {c:Cs} {u u':World} {row:Option Nat} (h:CB s o c u) (g:u.grownBy u' row) (hr:some s≠row):CB s o c u':=by
 have l:=h.lt
 exact ⟨(g.cell_far ⟨s,o,none⟩ l hr).trans h.f0,(g.cell_far ⟨s,o+1,none⟩ l hr).trans h.f1,(g.cell_far ⟨s,o+2,none⟩ l hr).trans h.f2,(g.cell_far ⟨s,o+3,none⟩ l hr).trans h.f3,(g.cell_far ⟨s,o+4,none⟩ l hr).trans h.f4,(g.cell_far ⟨s,o+5,none⟩ l hr).trans h.f5,
  (g.cell_far ⟨s,o+6,none⟩ l hr).trans h.f6,(g.cell_far ⟨s,o+7,none⟩ l hr).trans h.f7,(g.cell_far ⟨s,o+8,none⟩ l hr).trans h.f8,(g.cell_far ⟨s,o+9,none⟩ l hr).trans h.f9,(g.cell_far ⟨s,o+10,none⟩ l hr).trans h.f10,(g.cell_far ⟨s,o+11,none⟩ l hr).trans h.f11⟩
theorem CB.new (w:World) (c:Cs) (t:TypeId):CB w.heap.size 0 c (w.alloc (.cells #[.int .i64 c.iss,.int .i64 c.acq,.int .i64 c.cur,.int .i64 c.am,.int .i64 c.st,.int .i64 c.rsn,.int .i64 c.cl,.int .i64 c.bk,.int .i64 c.fee,.bool c.cop,.int .i64 c.sta,.int .i64 c.due] t)):=by
 exact ⟨by simp,by simp,by simp,by simp,by simp,by simp,by simp,by simp,by simp,by simp,by simp,by simp⟩
structure FZ (s o:Nat) (u:World):Prop where
 z0:u.frozen? ⟨s,o,none⟩=false
 z1:u.frozen? ⟨s,o+1,none⟩=false
 z2:u.frozen? ⟨s,o+2,none⟩=false
 z3:u.frozen? ⟨s,o+3,none⟩=false
 z4:u.frozen? ⟨s,o+4,none⟩=false
 z5:u.frozen? ⟨s,o+5,none⟩=false
 z6:u.frozen? ⟨s,o+6,none⟩=false
 z7:u.frozen? ⟨s,o+7,none⟩=false
 z8:u.frozen? ⟨s,o+8,none⟩=false
 z9:u.frozen? ⟨s,o+9,none⟩=false
 z10:u.frozen? ⟨s,o+10,none⟩=false
 z11:u.frozen? ⟨s,o+11,none⟩=false
theorem FZ.below {s o:Nat} {u u':World} (h:FZ s o u) (l:s<u.heap.size) (b:BW u u'):FZ s o u' :=
 ⟨(b.frozen (p:=⟨s,o,none⟩) l).trans h.z0,(b.frozen (p:=⟨s,o+1,none⟩) l).trans h.z1,(b.frozen (p:=⟨s,o+2,none⟩) l).trans h.z2,(b.frozen (p:=⟨s,o+3,none⟩) l).trans h.z3,(b.frozen (p:=⟨s,o+4,none⟩) l).trans h.z4,(b.frozen (p:=⟨s,o+5,none⟩) l).trans h.z5,(b.frozen (p:=⟨s,o+6,none⟩) l).trans h.z6,(b.frozen (p:=⟨s,o+7,none⟩) l).trans h.z7,(b.frozen (p:=⟨s,o+8,none⟩) l).trans h.z8,(b.frozen (p:=⟨s,o+9,none⟩) l).trans h.z9,(b.frozen (p:=⟨s,o+10,none⟩) l).trans h.z10,(b.frozen (p:=⟨s,o+11,none⟩) l).trans h.z11⟩
theorem FZ.grown {s o:Nat} {u u':World} {row:Option Nat} (h:FZ s o u) (l:s<u.heap.size) (g:u.grownBy u' row) (hr:some s≠row):FZ s o u' :=
 ⟨(g.frozen_far ⟨s,o,none⟩ l hr).trans h.z0,(g.frozen_far ⟨s,o+1,none⟩ l hr).trans h.z1,(g.frozen_far ⟨s,o+2,none⟩ l hr).trans h.z2,(g.frozen_far ⟨s,o+3,none⟩ l hr).trans h.z3,(g.frozen_far ⟨s,o+4,none⟩ l hr).trans h.z4,(g.frozen_far ⟨s,o+5,none⟩ l hr).trans h.z5,(g.frozen_far ⟨s,o+6,none⟩ l hr).trans h.z6,(g.frozen_far ⟨s,o+7,none⟩ l hr).trans h.z7,(g.frozen_far ⟨s,o+8,none⟩ l hr).trans h.z8,(g.frozen_far ⟨s,o+9,none⟩ l hr).trans h.z9,(g.frozen_far ⟨s,o+10,none⟩ l hr).trans h.z10,(g.frozen_far ⟨s,o+11,none⟩ l hr).trans h.z11⟩
theorem FZ.new (w:World) (cs:Array Value) (t:TypeId):FZ w.heap.size 0 (w.alloc (.cells cs t)) :=
 (by constructor<;>simp [go_sem, *])
def Cz (u:World) (h:Nat) (c:Cs):World :=
 (((((((((((u.setCell ⟨h,0,none⟩ (.int .i64 c.iss)).setCell ⟨h,1,none⟩ (.int .i64 c.acq)).setCell ⟨h,2,none⟩ (.int .i64 c.cur)).setCell ⟨h,3,none⟩ (.int .i64 c.am)).setCell ⟨h,4,none⟩ (.int .i64 c.st)).setCell ⟨h,5,none⟩ (.int .i64 c.rsn)).setCell ⟨h,6,none⟩ (.int .i64 c.cl)).setCell ⟨h,7,none⟩ (.int .i64 c.bk)).setCell ⟨h,8,none⟩ (.int .i64 c.fee)).setCell ⟨h,9,none⟩ (.bool c.cop)).setCell ⟨h,10,none⟩ (.int .i64 c.sta)).setCell ⟨h,11,none⟩ (.int .i64 c.due)
theorem Cp {w u:World} {h n:Nat} (c:Cs) (b:Below n w u) (hn:n≤h):Below n w (Cz u h c) :=
 (((((((((((b.setCell hn _).setCell hn _).setCell hn _).setCell hn _).setCell hn _).setCell hn _).setCell hn _).setCell hn _).setCell hn _).setCell hn _).setCell hn _).setCell hn _
theorem Mb {u:World} {h:Nat} {c d:Cs} (b:CB h 0 d u):CB h 0 c (Cz u h c):=by
 obtain ⟨f0,f1,f2,f3,f4,f5,f6,f7,f8,f9,f10,f11⟩:=b
 simp only [Nat.zero_add] at f0 f1 f2 f3 f4 f5 f6 f7 f8 f9 f10 f11
 exact ⟨by simp [Cz,go_sem,f0],by simp [Cz,go_sem,f1],by simp [Cz,go_sem,f2],by simp [Cz,go_sem,f3],by simp [Cz,go_sem,f4],by simp [Cz,go_sem,f5],by simp [Cz,go_sem,f6],by simp [Cz,go_sem,f7],by simp [Cz,go_sem,f8],by simp [Cz,go_sem,f9],by simp [Cz,go_sem,f10],by simp [Cz,go_sem,f11]⟩
theorem Av {w w':World} {base n size:Nat} {t:TypeId} {v:Value} {xs:List Value} (h:w.ownsRow base t size v n xs) (hb:BW w w'):w'.ownsRow base t size v n xs:=by
 obtain ⟨h1,h2⟩:=h;refine ⟨h1,?_⟩
 rcases h2 with h | ⟨g,cap,cur,hv,hg,hh,a1,a2,a3,a4⟩
 ·exact .inl h
 ·have hlt:g<w.heap.size:=(Array.getElem?_eq_some_iff.1 hh).1
  exact .inr ⟨g,cap,cur,hv,hg,(hb.block g hlt).trans hh,a1,a2,a3,a4⟩
theorem A5 {w:World} {base n size:Nat} {t:TypeId} {v:Value} {xs:List Value} (h:w.ownsRow base t size v n xs) (p:Addr) (u:Value) (hp:∀ g,v.ownBlock=some g→g≠p.block):(w.setCell p u).ownsRow base t size v n xs:=by
 obtain ⟨h1,h2⟩:=h;refine ⟨h1,?_⟩
 rcases h2 with h | ⟨g,cap,cur,hv,hg,hh,a1,a2,a3,a4⟩
 ·exact .inl h
 ·exact .inr ⟨g,cap,cur,hv,hg,(Below.heap_setCell w p u g (hp g (by rw [hv];rfl))).trans hh,a1,a2,a3,a4⟩
theorem sH {w w':World} {base n size:Nat} {t:TypeId} {v:Value} {xs:List Value} {row:Option Nat} (h:w.ownsRow base t size v n xs) (hg:w.grownBy w' row) (hne:∀ g,v.ownBlock=some g→some g≠row):w'.ownsRow base t size v n xs:=by
 obtain ⟨h1,h2⟩:=h;refine ⟨h1,?_⟩
 rcases h2 with h | ⟨g,cap,cur,hv,hg',hh,a1,a2,a3,a4⟩
 ·exact .inl h
 ·have hlt:g<w.heap.size:=(Array.getElem?_eq_some_iff.1 hh).1
  exact .inr ⟨g,cap,cur,hv,hg',(hg.block g hlt (hne g (by rw [hv];rfl))).trans hh,a1,a2,a3,a4⟩
theorem Bi {w:World} {base base' n size:Nat} {t:TypeId} {v:Value} {xs:List Value} (h:w.ownsRow base t size v n xs) (hb:base'≤base):w.ownsRow base' t size v n xs:=by
 obtain ⟨h1,h2⟩:=h;refine ⟨h1,?_⟩
 rcases h2 with h | ⟨g,cap,cur,hv,hg,r⟩
 ·exact .inl h
 ·exact .inr ⟨g,cap,cur,hv,Nat.le_trans hb hg,r⟩
def Fw (n:Nat) (left:Int):Int:=if left - (n:Int)<0 then -1 else left - (n:Int)
theorem Pd (ao:Option Addr) (cap n:Nat) (left:Int) (w:World) (h0:0≤left) (h1:left≤1048576) (hn:n≤9223372036854775807) :
  Calls prog 122 #[.slice ao n cap,.int .i64 left] w fun e w'=>e=.returned (.int .i64 (Fw n left))∧BW w w':=by
 by_cases hneg:left - (n:Int)<0
 ·have HE:Hid (Fw n left = -1):=if_pos hneg
  go_enter func122,ntmps122
  go_wp2;go_ret;exact ⟨Af HE.o.symm,bR⟩
 ·have HE:Hid (Fw n left=left - (n:Int)):=if_neg hneg
  go_enter func122,ntmps122
  go_wp2;go_ret;exact ⟨Af HE.o.symm,bR⟩
theorem Uk (ao:Option Addr) (cap n:Nat) (left:Int) (w:World) (h0:0≤left) (h1:left≤1048576) (hn:n≤9223372036854775807) :
  Calls prog 70 #[.agg #[.slice ao n cap],.int .i64 left] w fun e w'=>e=.returned (.int .i64 (Fw n left))∧BW w w':=by
 have bel:Below w.heap.size w (w.alloc (.cells #[.slice ao n cap] 48)):=by go_grown
 by_cases hneg:left - (n:Int)<0
 ·have HE:Hid (Fw n left = -1):=if_pos hneg
  go_enter func70,ntmps70
  go_wp2_with fail
  refine (Pd _ _ _ _ _ h0 h1 hn).mono ?_;rintro e w1 ⟨rfl,b1⟩;have q1:=bel.trans (b1.mono bel.size);rw [HE.o];clear b1 bel;go_wp2;go_ret;exact ⟨Af HE.o.symm,q1⟩
 ·have HE:Hid (Fw n left=left - (n:Int)):=if_neg hneg
  go_enter func70,ntmps70
  go_wp2_with fail
  refine (Pd _ _ _ _ _ h0 h1 hn).mono ?_;rintro e w1 ⟨rfl,b1⟩;have q1:=bel.trans (b1.mono bel.size);rw [HE.o];clear b1 bel;go_wp2;go_ret;exact ⟨Af HE.o.symm,q1⟩
theorem aP (a b c:Int) (w:World) :
  Calls prog 162 #[.agg #[.int .i64 a,.int .i64 b,.int .i64 c]] w fun e w'=>e=.returned (.agg #[.int .i64 a,.int .i64 b,.int .i64 c])∧BW w w':=by
 go_enter func162,ntmps162
 go_wp2
 go_returns
 refine ⟨rfl,?_⟩
 go_grown
def Gn (ls:List Ln) (k:Nat):List Ln:=ls.take k++List.replicate (ls.length - k) (0,0,0)
theorem dX (ls:List Ln):Gn ls ls.length=ls:=by simp [Gn]
theorem Ts (ls:List Ln) (k:Nat) (h:k≤ls.length):(Gn ls k).length=ls.length:=by simp [Gn];omega
theorem Yj (ls:List Ln) (k:Nat) (h:k<ls.length):(Gn ls k).set k (Cg ls k)=Gn ls (k+1):=by
 unfold Gn
 rw [List.set_append,if_neg (by simp;omega),List.length_take,Nat.min_eq_left (Nat.le_of_lt h),Nat.sub_self,show ls.length - k=ls.length - (k+1)+1 by omega,List.replicate_succ,List.set_cons_zero,Kl ls k h,List.append_assoc]
 rfl
theorem jR (ls:List Ln) (k:Nat) (h:k<ls.length):Cg (Gn ls k) k=(0,0,0):=by
 simp [Cg,Gn,List.getD_eq_getElem?_getD,List.getElem?_append,Nat.min_eq_left (Nat.le_of_lt h),List.getElem?_replicate]
 split <;> rfl
theorem bY:(prog.info? 113).map (fun i=>(i.zero,i.size,i.bytes))=some (some (.agg #[.int .i64 0,.int .i64 0,.int .i64 0]),3,24):=by kernel_rfl
theorem Yc (m:Nat):(madeCells (Value.agg #[.int .i64 0,.int .i64 0,.int .i64 0]).cells (m*3)).toList=Ag (List.replicate m (0,0,0)):=by
 apply List.ext_getElem?;intro j
 by_cases hj:j<m*3
 ·have hq:j / 3<(List.replicate m ((0:Int),(0:Int),(0:Int))).length:=by simp;omega
  have ha:Cg (List.replicate m ((0:Int),(0:Int),(0:Int))) (j / 3)=(0,0,0):=by
   simp [Cg,List.getD_eq_getElem?_getD,List.getElem?_replicate];split <;> rfl
  have h:=Hj _ _ hq;rw [ha] at h
  have hl:(madeCells (Value.agg #[.int .i64 0,.int .i64 0,.int .i64 0]).cells (m*3)).toList[j]?=some ((#[Value.int .i64 0,.int .i64 0,.int .i64 0]:Array Value)[j % 3]!):=by
   simp [madeCells,hj,Value.cells]
  rcases (show j % 3=0∨j % 3=1∨j % 3=2 by omega) with e | e | e
  ·rw [hl,e,show j=j / 3*3 by omega,h.1];rfl
  ·rw [hl,e,show j=j / 3*3+1 by omega,h.2.1];rfl
  ·rw [hl,e,show j=j / 3*3+2 by omega,h.2.2];rfl
 ·rw [List.getElem?_eq_none (by rw [Array.length_toList,size_madeCells];omega),List.getElem?_eq_none (by rw [Cn];simp;omega)]
theorem Wm (ao:Option Addr) (cap:Nat) (ls:List Ln) (w:World) (hz:Ai w ao ls) (hn:ls.length≤1048576) :
  Calls prog 126 #[.slice ao ls.length cap] w fun e w'=>e=.returned (.slice (some ⟨w.heap.size,0,none⟩) ls.length ls.length) ∧
   w'.ownsRow w.heap.size 113 3 (.slice (some ⟨w.heap.size,0,none⟩) ls.length ls.length) ls.length (Ag ls)∧BW w w':=by
 obtain ⟨i0,hi,hz0,hz1,hz2⟩:=info_parts bY;have hm0:=Yc ls.length;have HZ:Hid (Ai w ao ls):=hz;clear hz
 go_enter func126,ntmps126
 go_wp2_with (refine wpList_make_full _ rfl (.tmp 6) (.tmp 6) 27 rfl w.heap.size 113 i0 _ 3 underlying27 hi hz0 hz1 .i64 .i64 _ _ ls.length rfl rfl rfl rfl (by rw [hz2];omega) (by unfold maxLen;omega) nL ?_;intro w1 hown hg)
 rw [hm0,show List.replicate ls.length ((0:Int),(0:Int),(0:Int))=Gn ls 0 from by simp [Gn]] at hown
 have hb1:BW w w1:=bR.grown hg nL (fun k hk=>by cases hk)
 clear hm0 hg
 go_loopw [4] (fun i wr=>∃ k:Nat,k≤ls.length∧i=.int .i64 k∧wr.ownsRow w.heap.size 113 3 (.slice (some ⟨w.heap.size,0,none⟩) ls.length ls.length) ls.length (Ag (Gn ls k))∧BW w wr) (fun i _=>ls.length - (intOf i).toNat)
 case atStart=>exact ⟨0,Nat.zero_le _,rfl,hown,hb1⟩
 case round =>
  obtain ⟨k,hk,rfl,ho,hbr⟩:=hrel;clear hown hb1
  by_cases hlt:k<ls.length
  ·obtain ⟨b,off,rfl,hb,c1,c2,c3⟩:=(HZ.o.below hbr).at hlt
   have hki:(k:Int)<(ls.length:Int):=by omega
   have HS:Hid _:=Yj ls k hlt
   have HT:Hid _:=Q2 (Gn ls k) (Cg ls k) k (by rw [Ts ls k hk];exact hlt)
   obtain ⟨⟨x,y,z⟩,hf⟩:∃ f,Cg ls k=f:=⟨_,rfl⟩;rw [hf] at c1 c2 c3 HS HT
   simp only at c1 c2 c3 HT
   have HO:Hid (wr.ownsRow w.heap.size 113 3 (.slice (some ⟨w.heap.size,0,none⟩) ls.length ls.length) ls.length (Ag (Gn ls k))):=ho;have HA:Hid _:=jR ls k hlt;clear hf ho;go_wp2_with fail
   refine (aP _ _ _ _).mono ?_;rintro e w2 ⟨rfl,b2⟩;have ho:=Av HO.o b2
   have hat:=Hj (Gn ls k) k (by rw [Ts ls k hk];exact hlt)
   rw [HA.o] at hat
   have d1:w2.cell? ⟨w.heap.size,k*3,none⟩=some (.int .i64 0):=by rw [ho.cellAt (k*3) (by omega)];exact hat.1
   have d2:w2.cell? ⟨w.heap.size,k*3+1,none⟩=some (.int .i64 0):=by rw [ho.cellAt (k*3+1) (by omega)];exact hat.2.1
   have d3:w2.cell? ⟨w.heap.size,k*3+2,none⟩=some (.int .i64 0):=by rw [ho.cellAt (k*3+2) (by omega)];exact hat.2.2
   have e1:w2.frozen? ⟨w.heap.size,k*3,none⟩=false:=ho.frozenAt _;have e2:w2.frozen? ⟨w.heap.size,k*3+1,none⟩=false:=ho.frozenAt _;have e3:w2.frozen? ⟨w.heap.size,k*3+2,none⟩=false:=ho.frozenAt _
   have HR:Hid ((((w2.setCell ⟨w.heap.size,k*3,none⟩ (.int .i64 x)).setCell ⟨w.heap.size,k*3+1,none⟩ (.int .i64 y)).setCell ⟨w.heap.size,k*3+2,none⟩ (.int .i64 z)).ownsRow w.heap.size 113 3 (.slice (some ⟨w.heap.size,0,none⟩) ls.length ls.length) ls.length (Ag (Gn ls (k+1)))):=by
    have R:=(((ho.stored (k*3) (.int .i64 x)).1.stored (k*3+1) (.int .i64 y)).1.stored (k*3+2) (.int .i64 z)).1;rw [HT.o,HS.o] at R;exact R
   clear ho hat;go_wp2
   go_roundw
   case rel=>exact ⟨k+1,by omega,by go_num,HR.o,(((hbr.trans (b2.mono hbr.size)).setCell nL _).setCell nL _).setCell nL _⟩
   case measure=>simp [intOf];omega
  ·have:k=ls.length:=by omega
   subst this;rw [dX] at ho;go_wp2;go_ret;exact ⟨rfl,ho,hbr⟩
theorem Df {w:World} {base n:Nat} {t:TypeId} {ao:Option Addr} {cap:Nat} {ls:List Ln} (h:w.ownsRow base t 3 (.slice ao ls.length cap) n (Ag ls)):Ai w ao ls:=by
 obtain ⟨ao',cap',hv,hf,_⟩:=Ef h
 obtain ⟨rfl,_⟩:ao=ao'∧cap=cap':=by simpa using hv
 exact hf
theorem W9 (a b c:Int) (w:World) :
  Calls prog 158 #[.agg #[.int .i64 a,.int .i64 b,.int .i64 c],.agg #[.int .i64 a,.int .i64 b,.int .i64 c]] w fun e w'=>e=.returned (.bool true)∧BW w w':=by
 go_enter func158,ntmps158
 go_wp2;go_ret
 exact ⟨rfl,by go_grown⟩
theorem Ug (ao bo:Option Addr) (c1 c2:Nat) (ls:List Ln) (w:World) (hx:Ai w ao ls) (hy:Ai w bo ls) (h1:ls.length≤1099511627776) :
  Calls prog 117 #[.slice ao ls.length c1,.slice bo ls.length c2] w fun e w'=>e=.returned (.bool true)∧BW w w':=by
 have HX:Hid (Ai w ao ls):=hx;have HY:Hid (Ai w bo ls):=hy;clear hx hy
 go_enter func117,ntmps117
 go_wp2
 go_loopw [5] (fun i wr=>∃ k:Nat,k≤ls.length∧i=.int .i64 k∧BW w wr) (fun i _=>ls.length - (intOf i).toNat)
 case atStart=>exact ⟨0,Nat.zero_le _,rfl,bR⟩
 case round =>
  obtain ⟨k,hk,rfl,hbr⟩:=hrel
  by_cases hlt:k<ls.length
  ·obtain ⟨b,off,rfl,hb,e1,e2,e3⟩:=(HX.o.below hbr).at hlt
   obtain ⟨b',off',rfl,hb',e4,e5,e6⟩:=(HY.o.below hbr).at hlt
   have hki:(k:Int)<(ls.length:Int):=by omega
   obtain ⟨⟨x,y,z⟩,hxk⟩:∃ x,Cg ls k=x:=⟨_,rfl⟩;rw [hxk] at e1 e2 e3 e4 e5 e6
   simp only at e1 e2 e3 e4 e5 e6
   clear hxk;go_wp2
   go_region_with (go_at_call 158;refine (W9 _ _ _ _).mono ?_;rintro e w2 ⟨rfl,b2⟩)
   all_goals
    go_wp2
    go_roundw
    case rel=>exact ⟨k+1,by omega,by go_num,(hbr.drew).trans (b2.mono hbr.size)⟩
    case measure=>simp [intOf];omega
  ·go_wp2
   go_ret;exact ⟨rfl,hbr⟩
theorem Uz (ao:Option Addr) (cap:Nat) (ls:List Ln) (w:World) (hz:Ai w ao ls) (hn:ls.length≤1048576) :
  Calls prog 75 #[.agg #[.slice ao ls.length cap]] w fun e w'=>∃ g,e=.returned (.agg #[.slice (some ⟨g,0,none⟩) ls.length ls.length]) ∧
   w'.ownsRow w.heap.size 113 3 (.slice (some ⟨g,0,none⟩) ls.length ls.length) ls.length (Ag ls)∧BW w w':=by
 go_enter func75,ntmps75
 go_wp2_with fail
 refine (Wm _ _ _ _ (hz.below (by go_grown)) hn).mono ?_
 rintro e w1 ⟨rfl,ho,b1⟩
 generalize hW:(((w.alloc (.cells #[.slice ao ls.length cap] 48)).alloc (.cells #[.slice none 0 0] 29)).alloc (.cells #[.slice none 0 0] 29))=W at ho b1 ⊢
 have hs:W.heap.size=w.heap.size+3:=by rw [← hW];simp
 have bW:BW w W:=by rw [← hW];go_grown
 have c1:w1.cell? ⟨w.heap.size+1,0,none⟩=some (.slice none 0 0):=(b1.cell (p:=⟨w.heap.size+1,0,none⟩) (by rw [hs];simp)).trans (by rw [← hW];simp [go_sem])
 have c3:w1.cell? ⟨w.heap.size+1+1,0,none⟩=some (.slice none 0 0):=(b1.cell (p:=⟨w.heap.size+1+1,0,none⟩) (by rw [hs];simp)).trans (by rw [← hW];simp [go_sem])
 have z1:w1.frozen? ⟨w.heap.size+1,0,none⟩=false:=(b1.frozen (p:=⟨w.heap.size+1,0,none⟩) (by rw [hs];simp)).trans (by rw [← hW];simp [go_sem])
 have z3:w1.frozen? ⟨w.heap.size+1+1,0,none⟩=false:=(b1.frozen (p:=⟨w.heap.size+1+1,0,none⟩) (by rw [hs];simp)).trans (by rw [← hW];simp [go_sem])
 have HB:Hid (BW w w1):=bW.trans (b1.mono (by rw [hs];omega))
 have HO:Hid (w1.ownsRow W.heap.size 113 3 (.slice (some ⟨W.heap.size,0,none⟩) ls.length ls.length) ls.length (Ag ls)):=ho;have HS:Hid _:=hs;clear b1 bW hW ho hs hz;go_wp2
 refine bodyPost_ret (by simp [results,results75,go_sem,c1];try rfl) rfl ?_
 refine ⟨W.heap.size,rfl,?_,(HB.o.setCell (by show w.heap.size≤w.heap.size+1+1;omega) _).setCell (by show w.heap.size≤w.heap.size+1;omega) _⟩
 have hs:=HS.o
 have hne:∀ (c:Nat) (g:Nat),c≤2→(Value.slice (some ⟨W.heap.size,0,none⟩) ls.length ls.length).ownBlock=some g→g≠w.heap.size+c:=by
  intro c g hc h
  simp [Value.ownBlock] at h
  omega
 exact Bi (A5 (A5 HO.o _ _ (fun g h=>hne 2 g (by omega) h)) _ _ (fun g h=>hne 1 g (by omega) h)) (by omega)
theorem R6 (ao bo:Option Addr) (c1 c2:Nat) (ls:List Ln) (w:World) (hx:Ai w ao ls) (hy:Ai w bo ls) (h1:ls.length≤1099511627776) :
  Calls prog 55 #[.agg #[.slice ao ls.length c1],.agg #[.slice bo ls.length c2]] w fun e w'=>e=.returned (.bool true)∧BW w w':=by
 have bel:Below w.heap.size w ((w.alloc (.cells #[.slice ao ls.length c1] 29)).alloc (.cells #[.slice bo ls.length c2] 29)):=by go_grown
 have hx1:=hx.below bel;have hy1:=hy.below bel;have HB:Hid _:=bel;clear bel hx hy
 go_enter func55,ntmps55
 go_wp2_with fail
 refine (Ug _ _ _ _ _ _ hx1 hy1 h1).mono ?_;rintro e w1 ⟨rfl,b1⟩;have bb:=HB.o.trans (b1.mono HB.o.size);clear b1 hx1 hy1;go_wp2;go_ret;exact ⟨rfl,bb⟩
def V9 (k n:Nat):List Ln:=(List.range n).map fun i=>(((k+3*i:Nat):Int),((k+3*i+1:Nat):Int),((k+3*i+2:Nat):Int))
theorem Mn (k n:Nat):(V9 k n).length=n:=by simp [V9]
theorem rA (k n i:Nat) (h:i<n):Cg (V9 k n) i=(((k+3*i:Nat):Int),((k+3*i+1:Nat):Int),((k+3*i+2:Nat):Int)):=by simp [Cg,V9,List.getD_eq_getElem?_getD,h]
def Fx (ls:List Ln) (k j:Nat):List Ln:=V9 k j++ls.drop j
theorem Th (ls:List Ln) (k j:Nat) (h:j≤ls.length):(Fx ls k j).length=ls.length:=by simp [Fx,Mn];omega
theorem Yg (ls:List Ln) (k:Nat):Fx ls k 0=ls:=by simp [Fx,V9]
theorem fH (ls:List Ln) (k:Nat):Fx ls k ls.length=V9 k ls.length:=by simp [Fx]
theorem Za (ls:List Ln) (k j:Nat) (h:j<ls.length):(Fx ls k j).set j (((k+3*j:Nat):Int),((k+3*j+1:Nat):Int),((k+3*j+2:Nat):Int))=Fx ls k (j+1):=by
 unfold Fx
 rw [List.set_append,if_neg (by rw [Mn];omega),Mn,Nat.sub_self,List.drop_eq_getElem_cons h,List.set_cons_zero]
 simp [V9,List.range_succ]
theorem R7 (ao:Option Addr) (cap base k:Nat) (ls:List Ln) (w:World) (ho:w.ownsRow base 113 3 (.slice ao ls.length cap) ls.length (Ag ls)) (hn:ls.length≤1099511627) (k2:k≤1099511627) :
  Calls prog 118 #[.slice ao ls.length cap,.int .i64 k] w fun e w'=>e=.returned (.int .i64 (k+3*ls.length:Nat)) ∧
   w'.ownsRow base 113 3 (.slice ao ls.length cap) ls.length (Ag (V9 k ls.length))∧w.grownBy w' (Value.slice ao ls.length cap).ownBlock:=by
 rcases ho.2 with ⟨hv,h0⟩ | ⟨g,cap',cur,hv,hrest⟩
 ·obtain rfl:ls=[]:=List.eq_nil_of_length_eq_zero h0
  obtain ⟨rfl,rfl⟩:ao=none∧cap=0:=by simpa using hv
  clear hv h0
  go_enter func118,ntmps118
  go_wp2;refine wp_loop_rounds 1 ?_;rw [rounds_succ];go_wp2;go_ret
  exact ⟨Af (by simp),World.ownsRow_nil _ _ _ _,World.grownBy.refl _ _⟩
 ·obtain ⟨rfl,rfl⟩:ao=some ⟨g,0,none⟩∧cap=cap':=by simpa using hv
  clear hv hrest
  go_enter func118,ntmps118
  go_wp2
  go_loopw [1,5] (fun c i wr=>∃ j:Nat,j≤ls.length∧i=.int .i64 j∧c=.int .i64 (k+3*j:Nat)∧wr.ownsRow base 113 3 (.slice (some ⟨g,0,none⟩) ls.length cap) ls.length (Ag (Fx ls k j))∧w.grownBy wr (some g)) (fun _ i _=>ls.length - (intOf i).toNat)
  case atStart=>exact ⟨0,Nat.zero_le _,rfl,rfl,by rw [Yg];exact ho,World.grownBy.refl _ _⟩
  case round =>
   obtain ⟨j,hj,rfl,rfl,hor,hgr⟩:=hrel;clear ho
   by_cases hlt:j<ls.length
   ·have hji:(j:Int)<(ls.length:Int):=by omega
    have hat:=Hj (Fx ls k j) j (by rw [Th ls k j hj];exact hlt)
    have c1:wr.cell? ⟨g,j*3,none⟩=some (.int .i64 (Cg (Fx ls k j) j).1):=by rw [hor.cellAt (j*3) (by omega)];exact hat.1
    have c2:wr.cell? ⟨g,j*3+1,none⟩=some (.int .i64 (Cg (Fx ls k j) j).2.1):=by rw [hor.cellAt (j*3+1) (by omega)];exact hat.2.1
    have c3:wr.cell? ⟨g,j*3+2,none⟩=some (.int .i64 (Cg (Fx ls k j) j).2.2):=by rw [hor.cellAt (j*3+2) (by omega)];exact hat.2.2
    have d1:wr.frozen? ⟨g,j*3,none⟩=false:=hor.frozenAt _;have d2:wr.frozen? ⟨g,j*3+1,none⟩=false:=hor.frozenAt _;have d3:wr.frozen? ⟨g,j*3+2,none⟩=false:=hor.frozenAt _;have R1:=hor.stored (j*3) (.int .i64 (k+3*j:Nat));have R2:=R1.1.stored (j*3+1) (.int .i64 (k+3*j+1:Nat));have R3:=R2.1.stored (j*3+2) (.int .i64 (k+3*j+2:Nat))
    have HS:=Q2 (Fx ls k j) (((k+3*j:Nat):Int),((k+3*j+1:Nat):Int),((k+3*j+2:Nat):Int)) j (by rw [Th ls k j hj];exact hlt)
    simp only at HS
    have R:=R3.1;rw [HS,Za ls k j hlt] at R;have G:=((hgr.trans R1.2).trans R2.2).trans R3.2;obtain ⟨m,hm⟩:∃ m:Nat,k+3*j=m:=⟨_,rfl⟩;obtain ⟨o1,h1⟩:∃ x,(Cg (Fx ls k j) j).1=x:=⟨_,rfl⟩;obtain ⟨o2,h2⟩:∃ x,(Cg (Fx ls k j) j).2.1=x:=⟨_,rfl⟩;obtain ⟨o3,h3⟩:∃ x,(Cg (Fx ls k j) j).2.2=x:=⟨_,rfl⟩;rw [hm] at R G ⊢;rw [h1] at c1;rw [h2] at c2;rw [h3] at c3
    have e1:((m+1:Nat):Int)=(m:Int)+1:=by omega
    have e2:((m+2:Nat):Int)=(m:Int)+1+1:=by omega
    rw [e1,e2] at R G;have HR:Hid _:=R;have HG:Hid _:=G
    have hmb:m≤5000000000:=by omega
    have HM:Hid (k+3 * (j+1)=m+1+1+1):=by rw [Hid];omega
    clear R1 R2 R3 R G hor hgr hat hm h1 h2 h3 HS e1 e2;go_wp2
    go_roundw
    case rel=>exact ⟨j+1,by omega,by go_num,by rw [HM.o];go_num,HR.o,HG.o⟩
    case measure=>simp [intOf];omega
   ·have hjn:j=ls.length:=by omega
    subst hjn;rw [fH] at hor;have HO:Hid _:=hor;clear hor;go_wp2;go_ret;exact ⟨rfl,HO.o,hgr⟩
theorem Ry (ao:Option Addr) (cap n k:Nat) (w:World) (hz:Ai w ao (V9 k n)) (hn:n≤1099511627) (k2:k≤1099511627) :
  Calls prog 119 #[.slice ao n cap,.int .i64 k] w fun e w'=>e=.returned (.int .i64 (k+3*n:Nat))∧BW w w':=by
 have HZ:Hid (Ai w ao (V9 k n)):=hz;clear hz
 go_enter func119,ntmps119
 go_wp2
 go_loopw [1,5] (fun c i wr=>∃ j:Nat,j≤n∧i=.int .i64 j∧c=.int .i64 (k+3*j:Nat)∧wr=w) (fun _ i _=>n - (intOf i).toNat)
 case atStart=>exact ⟨0,Nat.zero_le _,rfl,rfl,rfl⟩
 case round =>
  obtain ⟨j,hj,rfl,rfl,hwr⟩:=hrel;subst hwr
  by_cases hlt:j<n
  ·have hji:(j:Int)<(n:Int):=by omega
   obtain ⟨b,off,rfl,hb,c1,c2,c3⟩:=HZ.o.at (k:=j) (by rw [Mn];exact hlt)
   rw [rA k n j hlt] at c1 c2 c3
   simp only at c1 c2 c3
   obtain ⟨m,hm⟩:∃ m:Nat,k+3*j=m:=⟨_,rfl⟩;rw [hm] at c1 c2 c3 ⊢
   rw [show ((m+1:Nat):Int)=(m:Int)+1 by omega] at c2
   rw [show ((m+2:Nat):Int)=(m:Int)+1+1 by omega] at c3
   have hmb:m≤5000000000:=by omega
   have HM:Hid (k+3 * (j+1)=m+1+1+1):=by rw [Hid];omega
   have n1:((m:Int) != (m:Int))=false:=by simp
   have n2:((m:Int)+1 != (m:Int)+1)=false:=by simp
   have n3:((m:Int)+1+1 != (m:Int)+1+1)=false:=by simp
   clear hm;go_wp2
   go_roundw
   case rel=>exact ⟨j+1,by omega,by go_num,by rw [HM.o];go_num,trivial⟩
   case measure=>simp [intOf];omega
  ·have hjn:j=n:=by omega
   subst hjn;go_wp2;go_ret;exact ⟨rfl,bR⟩
theorem Kc (ao:Option Addr) (cap base k:Nat) (ls:List Ln) (w:World) (ho:w.ownsRow base 113 3 (.slice ao ls.length cap) ls.length (Ag ls)) (hn:ls.length≤1099511627) (k2:k≤1099511627) :
  Calls prog 59 #[.agg #[.slice ao ls.length cap],.int .i64 k] w fun e w'=>e=.returned (.int .i64 (k+3*ls.length:Nat)) ∧
   w'.ownsRow base 113 3 (.slice ao ls.length cap) ls.length (Ag (V9 k ls.length))∧w.grownBy w' (Value.slice ao ls.length cap).ownBlock:=by
 have bel:Below w.heap.size w (w.alloc (.cells #[.slice ao ls.length cap] 29)):=by go_grown
 have ho1:=Av ho bel;have gb:w.grownBy (w.alloc (.cells #[.slice ao ls.length cap] 29)) (Value.slice ao ls.length cap).ownBlock:=World.grownBy_alloc w _ _
 go_enter func59,ntmps59
 go_wp2_with fail
 refine (R7 _ _ _ _ _ _ ho1 hn k2).mono ?_;rintro e w1 ⟨rfl,o1,g1⟩;have HG:Hid _:=gb.trans g1;have HO:Hid _:=o1;clear bel ho ho1 o1 g1 gb;go_wp2;go_ret;exact ⟨rfl,HO.o,HG.o⟩
theorem Qg (ao:Option Addr) (cap n k:Nat) (w:World) (hz:Ai w ao (V9 k n)) (hn:n≤1099511627) (k2:k≤1099511627) :
  Calls prog 63 #[.agg #[.slice ao n cap],.int .i64 k] w fun e w'=>e=.returned (.int .i64 (k+3*n:Nat))∧BW w w':=by
 have bel:Below w.heap.size w (w.alloc (.cells #[.slice ao n cap] 29)):=by go_grown
 have hz1:=hz.below bel
 go_enter func63,ntmps63
 go_wp2_with fail
 refine (Ry _ _ _ _ _ hz1 hn k2).mono ?_;rintro e w1 ⟨rfl,b1⟩;have bb:=bel.trans (b1.mono bel.size);obtain ⟨m,hm⟩:∃ m,k+3*n=m:=⟨_,rfl⟩;rw [hm];have HM:Hid _:=hm
 have hmb:m≤5000000000:=by omega
 clear bel hz hz1 b1 hm;go_wp2;go_ret
 exact ⟨Af (by rw [HM.o]),bb⟩
def sW (x:En):List Value:=[.int .i64 x.1,.int .i64 x.2.1,.int .i64 x.2.2.1,.int .i64 x.2.2.2]
def Ba (es:List En):List Value:=es.flatMap sW
theorem Ou (x:En) (r:List En):Ba (x::r)=.int .i64 x.1::.int .i64 x.2.1::.int .i64 x.2.2.1::.int .i64 x.2.2.2::Ba r:=rfl
theorem aK (es:List En):(Ba es).length=es.length*4:=by
 induction es with
 | nil=>rfl
 | cons f r ih=>rw [Ou];simp [ih];omega
theorem fS (es:List En):∀ k,k<es.length→(Ba es)[k*4]?=some (.int .i64 (I4 es k).1)∧(Ba es)[k*4+1]?=some (.int .i64 (I4 es k).2.1)∧(Ba es)[k*4+2]?=some (.int .i64 (I4 es k).2.2.1)∧(Ba es)[k*4+3]?=some (.int .i64 (I4 es k).2.2.2):=by
 induction es with
 | nil=>intro k h;simp at h
 | cons f r ih =>
  intro k h;rw [Ou]
  cases k with
  | zero=>exact ⟨rfl,rfl,rfl,rfl⟩
  | succ k =>
   have:=ih k (by simpa using h)
   rw [show (k+1) * 4=k*4+1+1+1+1 by omega]
   simp only [List.getElem?_cons_succ]
   exact this
theorem Gh {w:World} {base n:Nat} {t:TypeId} {v:Value} {es:List En} (h:w.ownsRow base t 4 v n (Ba es)):∃ ao cap,v=.slice ao es.length cap∧C8 w ao es∧n=es.length:=by
 have hn:n=es.length:=by have:=h.1;rw [aK] at this;omega
 subst hn
 rcases h.2 with ⟨rfl,hn⟩ | ⟨g,cap,cur,rfl,_⟩
 ·have:es=[]:=List.eq_nil_of_length_eq_zero hn
  subst this;exact ⟨none,0,rfl,.inl rfl,rfl⟩
 ·refine ⟨_,cap,rfl,?_,rfl⟩
  by_cases h0:es=[]
  ·exact .inl h0
  ·refine .inr ⟨g,0,rfl,(h.lt g rfl).2,fun i hi=>?_⟩
   have:=fS es i hi
   rw [Nat.zero_add,h.cellAt (i*4) (by omega),h.cellAt (i*4+1) (by omega),h.cellAt (i*4+2) (by omega),h.cellAt (i*4+3) (by omega)]
   exact this
theorem Hk {w:World} {base n:Nat} {t:TypeId} {ao:Option Addr} {cap:Nat} {es:List En} (h:w.ownsRow base t 4 (.slice ao es.length cap) n (Ba es)):C8 w ao es:=by
 obtain ⟨ao',cap',hv,hf,_⟩:=Gh h
 obtain ⟨rfl,_⟩:ao=ao'∧cap=cap':=by simpa using hv
 exact hf
theorem sI:(prog.info? 269).map (fun i=>(i.zero,i.size,i.bytes))=some (some (.agg #[.int .i64 0,.int .i64 0,.int .i64 0,.int .i64 0]),4,32):=by kernel_rfl
end Go.Proofs.YtomiclakhjncbaaGreatDoor
namespace Go.Proofs.YtomiclakhjncbaaGreatDoor
open Go.ChangeShapes Go.WideShapes Go.ChangeAt Go.RowKit Go.Deep Go.Proofs.Tryz
set_option maxRecDepth 100000
set_option maxHeartbeats 12800000
def Bh (w:World) (ao:Option Addr) (rs:Be):Prop :=
 rs=[]∨∃ b off,ao=some ⟨b,off,none⟩∧b<w.heap.size∧∀ i,i<rs.length→w.cell? ⟨b,off+i,none⟩=some (.string ⟨(Al rs i).toArray⟩)
def Qu (rs:Be):Prop:=rs.length≤maxLen∧∀ r ∈ rs,r.length≤maxLen
theorem Bh.below {w w':World} {ao:Option Addr} {rs:Be} (h:Bh w ao rs) (hb:BW w w'):Bh w' ao rs:=by
 rcases h with h | ⟨b,off,h1,h2,h3⟩
 ·exact .inl h
 ·exact .inr ⟨b,off,h1,Nat.lt_of_lt_of_le h2 hb.size,fun i hi=>(hb.cell (p:=⟨b,off+i,none⟩) h2).trans (h3 i hi)⟩
def Py (r:List UInt8):Value:=.string ⟨r.toArray⟩
def Am (rs:Be):List Value:=rs.map Py
theorem L7 (rs:Be):(Am rs).length=rs.length:=by simp [Am]
theorem F6 (a b:Be):Am (a++b)=Am a++Am b:=by simp [Am]
theorem Hd (rs:Be) (k:Nat) (h:k<rs.length):(Am rs)[k]?=some (.string ⟨(Al rs k).toArray⟩):=by
 simp [Am,Py,Al,List.getD_eq_getElem?_getD,h]
theorem Lu (rs:Be) (k:Nat) (r:List UInt8):(Am rs).set k (.string ⟨r.toArray⟩)=Am (rs.set k r):=by
 show (rs.map Py).set k (Py r)=(rs.set k r).map Py
 rw [List.map_set]
theorem Zv (rs:Be):∀ u ∈ Am rs,u.oneCell'=true:=by
 intro u hu
 simp only [Am,List.mem_map] at hu
 obtain ⟨r,_,rfl⟩:=hu
 rfl
theorem S1:(prog.info? 9).map (fun i=>(i.zero,i.size,i.bytes))=some (some (.string ⟨#[]⟩),1,16):=by kernel_rfl
theorem Qc (m:Nat):(madeCells (Value.string ⟨#[]⟩).cells (m*1)).toList=Am (List.replicate m []):=by
 rw [Nat.mul_one];refine (toList_madeCells_one _ _).trans ?_
 simp [Am,Py]
theorem Vs {w w':World} {base n size:Nat} {t:TypeId} {v:Value} {xs:List Value} (h:w.ownsRow base t size v n xs) (hb:BW w w'):w'.ownsRow base t size v n xs:=by
 obtain ⟨h1,h2⟩:=h;refine ⟨h1,?_⟩
 rcases h2 with h | ⟨g,cap,cur,hv,hg,hh,a1,a2,a3,a4⟩
 ·exact .inl h
 ·have hlt:g<w.heap.size:=(Array.getElem?_eq_some_iff.1 hh).1
  exact .inr ⟨g,cap,cur,hv,hg,(hb.block g hlt).trans hh,a1,a2,a3,a4⟩
theorem Ov {w:World} {base n:Nat} {t:TypeId} {v:Value} {rs:Be} (h:w.ownsRow base t 1 v n (Am rs)):∃ ao cap,v=.slice ao rs.length cap∧Bh w ao rs∧n=rs.length:=by
 have hn:n=rs.length:=by have:=h.1;rw [L7] at this;omega
 subst hn
 rcases h.2 with ⟨rfl,hn⟩ | ⟨g,cap,cur,rfl,_⟩
 ·have:rs=[]:=List.eq_nil_of_length_eq_zero hn
  subst this;exact ⟨none,0,rfl,.inl rfl,rfl⟩
 ·refine ⟨_,cap,rfl,?_,rfl⟩
  by_cases h0:rs=[]
  ·exact .inl h0
  ·have hlt:=(h.lt g rfl).2
   refine .inr ⟨g,0,rfl,hlt,fun i hi=>?_⟩
   rw [Nat.zero_add,h.cellAt i (by omega)]
   exact Hd rs i hi
theorem Ep {w:World} {base n:Nat} {t:TypeId} {ao:Option Addr} {cap:Nat} {rs:Be} (h:w.ownsRow base t 1 (.slice ao rs.length cap) n (Am rs)):Bh w ao rs:=by
 obtain ⟨ao',cap',hv,hf,_⟩:=Ov h
 obtain ⟨rfl,_⟩:ao=ao'∧cap=cap':=by simpa using hv
 exact hf
theorem Kq {w:World} {b off:Nat} {rs:Be} (h:Bh w (some ⟨b,off,none⟩) rs) {k:Nat} (hk:k<rs.length):w.cell? ⟨b,off+k,none⟩=some (.string ⟨(Al rs k).toArray⟩)∧b<w.heap.size:=by
 rcases h with rfl | ⟨b',off',hq,hb,hc⟩
 ·simp at hk
 ·obtain ⟨rfl,rfl⟩:b=b'∧off=off':=by simpa using hq
  exact ⟨hc k hk,hb⟩
theorem Rf (r:List UInt8):∀ u ∈ [Value.string ⟨r.toArray⟩],u.oneCell'=true:=by
 intro u hu
 simp at hu
 subst hu;rfl
def Eg (rs:Be) (k:Nat):Be:=rs.take k++List.replicate (rs.length - k) []
theorem S5 (rs:Be):Eg rs rs.length=rs:=by simp [Eg]
theorem Tq (rs:Be) (k:Nat) (h:k≤rs.length):(Eg rs k).length=rs.length:=by simp [Eg];omega
theorem Q8 (rs:Be) (k:Nat) (h:k<rs.length):(Eg rs k).set k (Al rs k)=Eg rs (k+1):=by
 unfold Eg
 rw [List.set_append,if_neg (by simp;omega),List.length_take,Nat.min_eq_left (Nat.le_of_lt h),Nat.sub_self,show rs.length - k=rs.length - (k+1)+1 by omega,List.replicate_succ,List.set_cons_zero,lI rs k h,List.append_assoc]
 rfl
theorem Wd (rs:Be) (k:Nat) (h:k<rs.length):Al (Eg rs k) k=[]:=by
 simp [Al,Eg,List.getD_eq_getElem?_getD,List.getElem?_append,Nat.min_eq_left (Nat.le_of_lt h),List.getElem?_replicate]
 split <;> rfl
def Ii:Be→Int→Int
 | [],left=>left
 | f::r,left=>if left - (f.length:Int)<0 then -1 else Ii r (left - (f.length:Int))
def Lk (rs:Be) (left:Int):Int:=if left - (rs.length:Int)<0 then -1 else Ii rs (left - (rs.length:Int))
theorem V4 (rs:Be) (k:Nat) (left:Int) (h:k<rs.length):Ii (rs.drop k) left=if left - ((Al rs k).length:Int)<0 then -1 else Ii (rs.drop (k+1)) (left - ((Al rs k).length:Int)):=by
 rw [List.drop_eq_getElem_cons h,Zk h];rfl
def V3 (rs:Be):Nat:=(rs.map List.length).sum
theorem X1 (rs:Be):∀ left,0≤Ii rs left→0≤left→(V3 rs:Int)≤left:=by
 induction rs with
 | nil=>intro left _ h;simpa [V3] using h
 | cons f r ih =>
  intro left h hl
  simp only [Ii] at h
  split at h
  ·omega
  ·have:=ih _ h (by omega)
   simp only [V3,List.map_cons,List.sum_cons] at this ⊢
   omega
theorem eW {rs:Be} {left:Int} (h:0≤Lk rs left):(rs.length:Int)+V3 rs≤left:=by
 unfold Lk at h
 split at h
 ·omega
 ·have:=X1 rs _ h (by omega)
  omega
theorem jG {rs:Be} {f:List UInt8} (h:f ∈ rs):f.length≤V3 rs:=by
 induction rs with
 | nil=>cases h
 | cons g r ih =>
  simp only [V3,List.map_cons,List.sum_cons] at ih ⊢
  rcases List.mem_cons.1 h with rfl | hr
  ·omega
  ·have:=ih hr;omega
end Go.Proofs.YtomiclakhjncbaaGreatDoor
namespace Go.Proofs.YtomiclakhjncbaaGreatDoor
open Go.RowKit Go.Proofs.Tryz
set_option maxRecDepth 100000
set_option maxHeartbeats 12800000
theorem Rv (ao:Option Addr) (cap:Nat) (rs:Be) (left:Int) (w:World) (hz:Bh w ao rs) (hd:Qu rs) (hl0:0≤left) (hl1:left≤1048576) :
  Calls prog 10 #[.slice ao rs.length cap,.int .i64 left] w fun e w'=>e=.returned (.int .i64 (Lk rs left))∧BW w w':=by
 have hn:rs.length≤9223372036854775807:=by have:=hd.1;unfold maxLen at this;omega
 have HD:Hid (∀ k,k<rs.length→(Al rs k).length≤9223372036854775807):=by
  intro k hk;have:=hd.2 _ (F7 hk);unfold maxLen at this;omega
 clear hd
 by_cases hneg:left - (rs.length:Int)<0
 ·have HE:Hid (Lk rs left = -1):=if_pos hneg
  go_enter func10,ntmps10
  go_wp2;go_ret;exact ⟨Af HE.o.symm,bR⟩
 ·have HE:Hid (Lk rs left=Ii rs (left - (rs.length:Int))):=if_neg hneg
  rcases hz with rfl | ⟨b,off,rfl,hb,hcell⟩
  ·go_enter func10,ntmps10
   go_wp2;refine wp_loop_rounds 1 ?_;rw [rounds_succ];go_wp2;go_ret
   exact ⟨Af (by rw [HE.o];simp [Ii]),bR⟩
  ·have HC:Hid (∀ i,i<rs.length→w.cell? ⟨b,off+i,none⟩=some (.string ⟨(Al rs i).toArray⟩)):=hcell
   clear hcell
   go_enter func10,ntmps10
   go_wp2
   go_loopw [1,5] (fun v i wr=>∃ (k:Nat) (l:Int),k≤rs.length∧i=.int .i64 k∧v=.int .i64 l∧0≤l∧l≤1048576∧Lk rs left=Ii (rs.drop k) l∧BW w wr) (fun _ i _=>rs.length - (intOf i).toNat)
   case atStart=>exact ⟨0,_,Nat.zero_le _,rfl,rfl,by omega,by omega,HE.o,bR⟩
   case round =>
    obtain ⟨k,l,hk,rfl,rfl,h0,h1,hleft,hbr⟩:=hrel
    by_cases hlt:k<rs.length
    ·have c1:wr.cell? ⟨b,off+k,none⟩=some (.string ⟨(Al rs k).toArray⟩):=(hbr.cell (p:=⟨b,off+k,none⟩) hb).trans (HC.o k hlt)
     have hki:(k:Int)<(rs.length:Int):=by omega
     have hst:=V4 rs k l hlt;have hdk:=HD.o k hlt;obtain ⟨s,hf⟩:∃ f,Al rs k=f:=⟨_,rfl⟩;rw [hf] at c1 hst hdk
     by_cases hng:l - (s.length:Int)<0
     ·have HN:Hid (Lk rs left = -1):=by rw [Hid,hleft,hst,if_pos hng]
      clear hst hf hleft;go_wp2;go_ret;exact ⟨Af HN.o.symm,hbr⟩
     ·have HN:Hid (Lk rs left=Ii (rs.drop (k+1)) (l - (s.length:Int))):=by rw [Hid,hleft,hst,if_neg hng]
      clear hst hf hleft;go_wp2
      go_roundw
      case rel=>exact ⟨k+1,_,by omega,by go_num,rfl,by omega,by omega,HN.o,hbr⟩
      case measure=>simp [intOf];omega
    ·have:k=rs.length:=by omega
     subst this
     have HN:Hid (Lk rs left=l):=by rw [Hid,hleft,List.drop_of_length_le nL];rfl
     clear hleft;go_wp2;go_ret;exact ⟨Af HN.o.symm,hbr⟩
theorem R8 (ao:Option Addr) (cap:Nat) (rs:Be) (w:World) (hz:Bh w ao rs) (hn:rs.length≤1048576) :
  Calls prog 13 #[.slice ao rs.length cap] w fun e w'=>e=.returned (.slice (some ⟨w.heap.size,0,none⟩) rs.length rs.length) ∧
   w'.ownsRow w.heap.size 9 1 (.slice (some ⟨w.heap.size,0,none⟩) rs.length rs.length) rs.length (Am rs)∧BW w w':=by
 obtain ⟨i0,hi,hz0,hz1,hz2⟩:=info_parts S1;have hm0:=Qc rs.length
 rcases hz with rfl | ⟨b,off,rfl,hb,hcell⟩
 ·go_enter func13,ntmps13
  go_wp2_with (refine wpList_make_full _ rfl (.tmp 6) (.tmp 6) 23 rfl w.heap.size 9 i0 _ 1 underlying23 hi hz0 hz1 .i64 .i64 _ _ 0 rfl rfl rfl rfl (by rw [hz2];omega) (by unfold maxLen;omega) nL ?_;intro w1 hown hg)
  refine wp_loop_rounds 1 ?_;rw [rounds_succ];go_wp2;go_ret
  exact ⟨rfl,by simpa [madeCells,Am] using hown,bR.grown hg nL (fun k hk=>by cases hk)⟩
 ·have HC:Hid (∀ i,i<rs.length→w.cell? ⟨b,off+i,none⟩=some (.string ⟨(Al rs i).toArray⟩)):=hcell
  clear hcell
  go_enter func13,ntmps13
  go_wp2_with (refine wpList_make_full _ rfl (.tmp 6) (.tmp 6) 23 rfl w.heap.size 9 i0 _ 1 underlying23 hi hz0 hz1 .i64 .i64 _ _ rs.length rfl rfl rfl rfl (by rw [hz2];omega) (by unfold maxLen;omega) nL ?_;intro w1 hown hg)
  rw [hm0,show List.replicate rs.length ([]:List UInt8)=Eg rs 0 from by simp [Eg]] at hown
  have hb1:BW w w1:=bR.grown hg nL (fun k hk=>by cases hk)
  clear hm0 hg
  go_loopw [4] (fun i wr=>∃ k:Nat,k≤rs.length∧i=.int .i64 k∧wr.ownsRow w.heap.size 9 1 (.slice (some ⟨w.heap.size,0,none⟩) rs.length rs.length) rs.length (Am (Eg rs k))∧BW w wr) (fun i _=>rs.length - (intOf i).toNat)
  case atStart=>exact ⟨0,Nat.zero_le _,rfl,hown,hb1⟩
  case round =>
   obtain ⟨k,hk,rfl,ho,hbr⟩:=hrel;clear hown hb1
   by_cases hlt:k<rs.length
   ·have c1:wr.cell? ⟨b,off+k,none⟩=some (.string ⟨(Al rs k).toArray⟩):=(hbr.cell (p:=⟨b,off+k,none⟩) hb).trans (HC.o k hlt)
    have hki:(k:Int)<(rs.length:Int):=by omega
    have HS:Hid _:=Q8 rs k hlt;have HT:Hid _:=Lu (Eg rs k) k (Al rs k)
    have hat:=Hd (Eg rs k) k (by rw [Tq rs k hk];exact hlt)
    rw [Wd rs k hlt] at hat;obtain ⟨s,hf⟩:∃ f,Al rs k=f:=⟨_,rfl⟩;rw [hf] at c1 HS HT
    have c3:wr.cell? ⟨w.heap.size,k,none⟩=some (.string ⟨#[]⟩):=by rw [ho.cellAt k (by omega)];exact hat
    have c5:wr.frozen? ⟨w.heap.size,k,none⟩=false:=ho.frozenAt _
    have HR:Hid ((wr.setCell ⟨w.heap.size,k,none⟩ (.string ⟨s.toArray⟩)).ownsRow w.heap.size 9 1 (.slice (some ⟨w.heap.size,0,none⟩) rs.length rs.length) rs.length (Am (Eg rs (k+1)))):=by
     have R:=(ho.stored k (.string ⟨s.toArray⟩)).1;rw [HT.o,HS.o] at R;exact R
    clear ho hat hf;go_wp2
    go_roundw
    case rel=>exact ⟨k+1,by omega,by go_num,HR.o,hbr.setCell nL _⟩
    case measure=>simp [intOf];omega
   ·have:k=rs.length:=by omega
    subst this;rw [S5] at ho;go_wp2;go_ret;exact ⟨rfl,ho,hbr⟩
theorem Rr (ao bo:Option Addr) (c1 c2:Nat) (xs ys:Be) (w:World) (hx:Bh w ao xs) (hy:Bh w bo ys) (h1:xs.length≤1099511627776) (h2:ys.length≤1099511627776) :
  Calls prog 17 #[.slice ao xs.length c1,.slice bo ys.length c2] w fun e w'=>e=.returned (.bool (decide (xs=ys)))∧BW w w':=by
 by_cases hl:xs.length=ys.length
 ·rcases hx with rfl | ⟨b,off,rfl,hb,hcx⟩
  ·have hy0:ys=[]:=List.eq_nil_of_length_eq_zero hl.symm
   subst hy0
   go_enter func17,ntmps17
   go_wp2;refine wp_loop_rounds 1 ?_;rw [rounds_succ];go_wp2;go_ret;exact ⟨rfl,bR⟩
  ·rcases hy with rfl | ⟨d,off2,rfl,hd,hcy⟩
   ·have hx0:xs=[]:=List.eq_nil_of_length_eq_zero hl
    subst hx0
    go_enter func17,ntmps17
    go_wp2;refine wp_loop_rounds 1 ?_;rw [rounds_succ];go_wp2;go_ret;exact ⟨rfl,bR⟩
   ·obtain ⟨n,hn⟩:∃ n,xs.length=n:=⟨_,rfl⟩
    have hn2:ys.length=n:=by omega
    rw [hn] at hcx h1 ⊢;rw [hn2] at hcy ⊢;have HX:Hid (xs.length=n):=hn;have HY:Hid (ys.length=n):=hn2;have HCX:Hid (∀ i,i<n→w.cell? ⟨b,off+i,none⟩=some (.string ⟨(Al xs i).toArray⟩)):=hcx;have HCY:Hid (∀ i,i<n→w.cell? ⟨d,off2+i,none⟩=some (.string ⟨(Al ys i).toArray⟩)):=hcy;clear hl hn hn2 hcx hcy
    go_enter func17,ntmps17
    go_wp2
    go_loopw [5] (fun i wr=>∃ k:Nat,k≤n∧i=.int .i64 k∧(∀ j,j<k→Al xs j=Al ys j)∧BW w wr) (fun i _=>n - (intOf i).toNat)
    case atStart=>exact ⟨0,Nat.zero_le _,rfl,fun j hj=>by omega,bR⟩
    case round =>
     obtain ⟨k,hk,rfl,hsame,hbr⟩:=hrel;have HS:Hid (∀ j,j<k→Al xs j=Al ys j):=hsame;clear hsame
     by_cases hlt:k<n
     ·have e1:wr.cell? ⟨b,off+k,none⟩=some (.string ⟨(Al xs k).toArray⟩):=(hbr.cell (p:=⟨b,off+k,none⟩) hb).trans (HCX.o k hlt)
      have e3:wr.cell? ⟨d,off2+k,none⟩=some (.string ⟨(Al ys k).toArray⟩):=(hbr.cell (p:=⟨d,off2+k,none⟩) hd).trans (HCY.o k hlt)
      have hki:(k:Int)<(n:Int):=by omega
      have HNE:Hid (Al xs k≠Al ys k→¬ xs=ys):=fun h e=>h (by rw [e])
      obtain ⟨s,hxk⟩:∃ x,Al xs k=x:=⟨_,rfl⟩;obtain ⟨t,hyk⟩:∃ y,Al ys k=y:=⟨_,rfl⟩;rw [hxk] at e1;rw [hyk] at e3;have HXK:Hid (Al xs k=s):=hxk;have HYK:Hid (Al ys k=t):=hyk;clear hxk hyk;have hne:=K0 wr;have g1:=As e1;have g3:=As e3
      by_cases hs1:s=t
      ·subst hs1
       have HY2:Hid (Al xs k=Al ys k):=by rw [Hid,HXK.o,HYK.o]
       have hss:(s == s)=true:=by simp
       clear HNE;go_wp2
       refine B6 (by kernel_rfl) (by kernel_rfl) ?_
       repeat (go_big_quiet_step (fail))
       refine wpQuiet_nil ?_;rintro _ ⟨⟨w2,b2⟩,hw2⟩;subst hw2;go_wp2
       go_roundw
       case rel=>exact ⟨k+1,by omega,by go_num,fun j hj=>by rcases (show j<k∨j=k from by omega) with h | rfl;exact HS.o j h;exact HY2.o,hbr.trans (b2.mono hbr.size)⟩
       case measure=>simp [intOf];omega
      ·have hs2:(s == t)=false:=by simpa using hs1
       have HN:Hid (¬ xs=ys):=HNE.o (by rw [HXK.o,HYK.o];exact hs1)
       clear HNE hs1;go_wp2
       refine B6 (by kernel_rfl) (by kernel_rfl) ?_
       repeat (go_big_quiet_step (fail))
       refine wpQuiet_nil ?_;rintro _ ⟨⟨w2,b2⟩,hw2⟩;subst hw2;go_wp2;go_ret
       exact ⟨Aa (by rw [decide_eq_false HN.o]),hbr.trans (b2.mono hbr.size)⟩
     ·have HE:Hid (xs=ys):=by
        apply List.ext_getElem (by rw [HX.o,HY.o])
        intro i g1 g2
        have:=HS.o i (by rw [HX.o] at g1;omega)
        simpa [Al,List.getD_eq_getElem?_getD,g1,g2] using this
      go_wp2;go_ret
      exact ⟨Aa (by rw [decide_eq_true HE.o]),hbr⟩
 ·have hne:((xs.length:Int) != (ys.length:Int))=true:=by simp;omega
  have HE:Hid (¬ xs=ys):=fun e=>hl (by rw [e])
  go_enter func17,ntmps17
  go_wp2;go_ret
  exact ⟨Aa (by rw [decide_eq_false HE.o]),bR⟩
def eI (k n:Nat):Be:=(List.range n).map fun i=>Tv (k+i)
theorem Kn (k n:Nat):(eI k n).length=n:=by simp [eI]
theorem rJ (k n i:Nat) (h:i<n):Al (eI k n) i=Tv (k+i):=by simp [Al,eI,List.getD_eq_getElem?_getD,h]
def Ho (rs:Be) (k j:Nat):Be:=eI k j++rs.drop j
theorem eX (rs:Be) (k j:Nat) (h:j≤rs.length):(Ho rs k j).length=rs.length:=by simp [Ho,Kn];omega
theorem Y8 (rs:Be) (k:Nat):Ho rs k 0=rs:=by simp [Ho,eI]
theorem eH (rs:Be) (k:Nat):Ho rs k rs.length=eI k rs.length:=by simp [Ho]
theorem Zq (rs:Be) (k j:Nat) (h:j<rs.length):(Ho rs k j).set j (Tv (k+j))=Ho rs k (j+1):=by
 unfold Ho
 rw [List.set_append,if_neg (by rw [Kn];omega),Kn,Nat.sub_self,List.drop_eq_getElem_cons h,List.set_cons_zero]
 simp [eI,List.range_succ]
theorem gD {w w':World} (h:BW w w') (r:Option Nat):w.grownBy w' r:=⟨h.os,h.tape,h.output,h.size,fun k hk _=>h.block k hk⟩
theorem T0 (n:Nat) (x:Int) (hx:x=(n:Int)) (w:World) (h0:0<n) (hn:n≤1099511627776) :
  Calls prog 56 #[.int .i64 x] w fun e w'=>e=.returned (.string ⟨(Tv n).toArray⟩)∧BW w w':=by
 rw [hx];exact Gv n w h0 hn
theorem Jm (ao:Option Addr) (cap base k:Nat) (rs:Be) (w:World) (ho:w.ownsRow base 9 1 (.slice ao rs.length cap) rs.length (Am rs)) (hn:rs.length≤1099511627) (k1:0<k) (k2:k≤1099511627) :
  Calls prog 19 #[.slice ao rs.length cap,.int .i64 k] w fun e w'=>e=.returned (.int .i64 (k+rs.length:Nat)) ∧
   w'.ownsRow base 9 1 (.slice ao rs.length cap) rs.length (Am (eI k rs.length))∧w.grownBy w' (Value.slice ao rs.length cap).ownBlock:=by
 rcases ho.2 with ⟨hv,h0⟩ | ⟨g,cap',cur,hv,hrest⟩
 ·obtain rfl:rs=[]:=List.eq_nil_of_length_eq_zero h0
  obtain ⟨rfl,rfl⟩:ao=none∧cap=0:=by simpa using hv
  clear hv h0
  go_enter func19,ntmps19
  go_wp2;refine wp_loop_rounds 1 ?_;rw [rounds_succ];go_wp2;go_ret
  exact ⟨Af (by simp),World.ownsRow_nil _ _ _ _,World.grownBy.refl _ _⟩
 ·obtain ⟨rfl,rfl⟩:ao=some ⟨g,0,none⟩∧cap=cap':=by simpa using hv
  clear hv hrest
  go_enter func19,ntmps19
  go_wp2
  go_loopw [1,5] (fun c i wr=>∃ j:Nat,j≤rs.length∧i=.int .i64 j∧c=.int .i64 (k+j:Nat)∧wr.ownsRow base 9 1 (.slice (some ⟨g,0,none⟩) rs.length cap) rs.length (Am (Ho rs k j))∧w.grownBy wr (some g)) (fun _ i _=>rs.length - (intOf i).toNat)
  case atStart=>exact ⟨0,Nat.zero_le _,rfl,rfl,by rw [Y8];exact ho,World.grownBy.refl _ _⟩
  case round =>
   obtain ⟨j,hj,rfl,rfl,hor,hgr⟩:=hrel;clear ho
   by_cases hlt:j<rs.length
   ·have hji:(j:Int)<(rs.length:Int):=by omega
    have HOR:Hid (wr.ownsRow base 9 1 (.slice (some ⟨g,0,none⟩) rs.length cap) rs.length (Am (Ho rs k j))):=hor
    have HA:Hid _:=Hd (Ho rs k j) j (by rw [eX rs k j hj];exact hlt)
    have HS:Hid _:=Lu (Ho rs k j) j (Tv (k+j));have HF:Hid _:=Zq rs k j hlt;have HG:Hid (w.grownBy wr (some g)):=hgr;obtain ⟨m,hm⟩:∃ m:Nat,k+j=m:=⟨_,rfl⟩;rw [hm] at HS HF ⊢
    have hmb:m≤3298534883:=by omega
    have hm0:0<m:=by omega
    have HM:Hid (k+(j+1)=m+1):=by rw [Hid];omega
    clear hor hgr hm;go_wp2_with fail
    refine (Gv m _ hm0 (by omega)).mono ?_
    rintro e w2 ⟨rfl,b2⟩;have o2:=Vs HOR.o b2
    have c4:w2.cell? ⟨g,j,none⟩=some (.string ⟨(Al (Ho rs k j) j).toArray⟩):=by
     rw [o2.cellAt j (by omega)];exact HA.o
    have c5:w2.frozen? ⟨g,j,none⟩=false:=o2.frozenAt _;have R2:=o2.stored j (.string ⟨(Tv m).toArray⟩);rw [HS.o,HF.o] at R2;have HR2:Hid _:=R2.1;have HG2:Hid (w.grownBy (w2.setCell ⟨g,j,none⟩ (.string ⟨(Tv m).toArray⟩)) (some g)):=(HG.o.trans (gD b2 _)).trans R2.2;obtain ⟨os,hos⟩:∃ x,Al (Ho rs k j) j=x:=⟨_,rfl⟩;rw [hos] at c4
    generalize Tv m=tx at HR2 HG2
    clear R2 o2 hos b2 HOR HG HS HF HA;go_wp2
    go_roundw
    case rel=>exact ⟨j+1,by omega,by go_num,by rw [HM.o];go_num,HR2.o,HG2.o⟩
    case measure=>simp [intOf];omega
   ·have hjn:j=rs.length:=by omega
    subst hjn;rw [eH] at hor;have HO:Hid _:=hor;clear hor;go_wp2;go_ret;exact ⟨rfl,HO.o,hgr⟩
theorem Ph (ao:Option Addr) (cap n k:Nat) (w:World) (hz:Bh w ao (eI k n)) (hn:n≤1099511627) (k1:0<k) (k2:k≤1099511627) :
  Calls prog 64 #[.slice ao n cap,.int .i64 k] w fun e w'=>e=.returned (.int .i64 (k+n:Nat))∧BW w w':=by
 rcases hz with h0 | ⟨b,off,rfl,hb,hcell⟩
 ·have hn0:n=0:=by have:=Kn k n;rw [h0] at this;simpa using this.symm
  subst hn0;clear h0
  go_enter func64,ntmps64
  go_wp2;refine wp_loop_rounds 1 ?_;rw [rounds_succ];go_wp2;go_ret
  exact ⟨Af (by simp),bR⟩
 ·rw [Kn] at hcell
  have HC:Hid (∀ i,i<n→w.cell? ⟨b,off+i,none⟩=some (.string ⟨(Tv (k+i)).toArray⟩)):=by
   intro i hi
   have:=hcell i hi
   rw [rJ k n i hi] at this;exact this
  clear hcell
  go_enter func64,ntmps64
  go_wp2
  go_loopw [1,5] (fun c i wr=>∃ j:Nat,j≤n∧i=.int .i64 j∧c=.int .i64 (k+j:Nat)∧BW w wr) (fun _ i _=>n - (intOf i).toNat)
  case atStart=>exact ⟨0,Nat.zero_le _,rfl,rfl,bR⟩
  case round =>
   obtain ⟨j,hj,rfl,rfl,hbr⟩:=hrel
   by_cases hlt:j<n
   ·have hji:(j:Int)<(n:Int):=by omega
    have c2:wr.cell? ⟨b,off+j,none⟩=some (.string ⟨(Tv (k+j)).toArray⟩):=(hbr.cell (p:=⟨b,off+j,none⟩) hb).trans (HC.o j hlt);obtain ⟨m,hm⟩:∃ m:Nat,k+j=m:=⟨_,rfl⟩;rw [hm] at c2 ⊢
    have hmb:m≤3298534883:=by omega
    have hm0:0<m:=by omega
    have HM:Hid (k+(j+1)=m+1):=by rw [Hid];omega
    clear hm;have hne:=K0 wr;have g2:=As c2;go_wp2
    refine B6 (by kernel_rfl) (by kernel_rfl) ?_
    repeat (go_big_quiet_step (exact F8 (T0 m _ rfl _ hm0 (by omega))))
    refine wpQuiet_nil ?_;rintro _ ⟨⟨w2,b2⟩,hw2⟩;subst hw2
    generalize Tv m=tx
    go_wp2
    go_roundw
    case rel=>exact ⟨j+1,by omega,by go_num,by rw [HM.o];go_num,hbr.trans (b2.mono hbr.size)⟩
    case measure=>simp [intOf];omega
   ·have hjn:j=n:=by omega
    subst hjn;go_wp2;go_ret;exact ⟨rfl,hbr⟩
def Aw (w:World) (ao:Option Addr) (zs:List Int):Prop :=
 zs=[]∨∃ b off,ao=some ⟨b,off,none⟩∧b<w.heap.size∧∀ i,i<zs.length→w.cell? ⟨b,off+i,none⟩=some (.int .i64 (zs.getD i 0))
theorem Aw.below {w w':World} {ao:Option Addr} {zs:List Int} (h:Aw w ao zs) (hb:BW w w'):Aw w' ao zs:=by
 rcases h with h | ⟨b,off,h1,h2,h3⟩
 ·exact .inl h
 ·exact .inr ⟨b,off,h1,Nat.lt_of_lt_of_le h2 hb.size,fun i hi=>(hb.cell (p:=⟨b,off+i,none⟩) h2).trans (h3 i hi)⟩
theorem dM {zs:List Int} {len i:Nat} (h:i<len):(zs.take len).getD i 0=zs.getD i 0:=by
 simp [List.getD_eq_getElem?_getD,h]
theorem Vw {w:World} {a:Option Addr} {len cap:Nat} {zs:List Int} (h:pZ .i64 w a len cap zs):(zs.take len).length=len∧Aw w a (zs.take len):=by
 rcases h with ⟨rfl,rfl,rfl,rfl⟩ | ⟨x,rfl,hl,hm,hz,hcell,hwz⟩
 ·exact ⟨rfl,.inl rfl⟩
 ·have hlen:(zs.take len).length=len:=by rw [List.length_take];omega
  refine ⟨hlen,?_⟩
  by_cases h0:len=0
  ·subst h0;exact .inl (by simp)
  ·obtain ⟨b,off,spot⟩:=x
   have hc:=hcell 0 (by omega)
   have hspot:spot=none:=by simpa [Addr.add] using World.cell?_spot hc
   subst hspot
   refine .inr ⟨b,off,rfl,?_,fun i hi=>?_⟩
   ·exact World.block_lt_of_cell? w _ hc
   ·rw [hlen] at hi
    rw [dM hi]
    have:=hcell i (by omega)
    by_cases e:i=0
    ·subst e;simpa [Addr.add] using this
    ·simpa [Addr.add,e] using this
theorem Vr {w:World} {base g n cap:Nat} {zs:List Int} (h:w.ownsRow base 3 1 (.slice (some ⟨g,0,none⟩) n cap) n (zs.map (Value.int .i64))):Aw w (some ⟨g,0,none⟩) zs:=by
 by_cases h0:zs=[]
 ·exact .inl h0
 ·have hl:zs.length=n:=by simpa using h.1
  have hp:0<zs.length:=List.length_pos_iff.2 h0
  have hc:∀ i,i<zs.length→w.cell? ⟨g,0+i,none⟩=some (.int .i64 (zs.getD i 0)):=by
   intro i hi
   rw [Nat.zero_add,h.cellAt i (by omega)]
   simp [List.getD_eq_getElem?_getD,hi]
  exact .inr ⟨g,0,rfl,World.block_lt_of_cell? w _ (hc 0 hp),hc⟩
theorem pQ:(prog.info? 3).map (fun i=>(i.zero,i.size,i.bytes))=some (some (.int .i64 0),1,8):=by kernel_rfl
def Pj (zs:List Int) (k:Nat):List Value:=(zs.take k).map (Value.int .i64)++List.replicate (zs.length - k) (.int .i64 0)
theorem fE (zs:List Int):Pj zs 0=List.replicate zs.length (.int .i64 0):=by simp [Pj]
theorem mA (zs:List Int):Pj zs zs.length=zs.map (Value.int .i64):=by simp [Pj]
theorem eQ (zs:List Int) (k:Nat) (h:k<zs.length):Pj zs (k+1)=(Pj zs k).set k (.int .i64 (zs.getD k 0)):=by
 apply List.ext_getElem?;intro j
 simp only [Pj,List.getElem?_set,List.getElem?_append,List.length_map,List.length_take,List.getElem?_map,List.getElem?_take,List.getElem?_replicate,List.getD_eq_getElem?_getD,List.length_append,List.length_replicate]
 by_cases h1:j<k
 ·have:j<zs.length:=by omega
  have:¬ k=j:=by omega
  simp [*,Nat.min_eq_left (Nat.le_of_lt h),Nat.min_eq_left (show k+1≤zs.length by omega),show j<k+1 by omega]
 ·by_cases h2:j=k
  ·subst h2
   have:j<j+(zs.length - j):=by omega
   simp [*,Nat.min_eq_left (Nat.le_of_lt h),Nat.min_eq_left (show j+1≤zs.length by omega)]
  ·have:¬ k=j:=by omega
   have a1:¬ j<k+1:=by omega
   simp [*,Nat.min_eq_left (Nat.le_of_lt h),Nat.min_eq_left (show k+1≤zs.length by omega)]
   by_cases h3:j<zs.length
   ·rw [if_pos (by omega),if_pos (by omega)]
   ·rw [if_neg (by omega),if_neg (by omega)]
theorem mY (zs:List Int) (k:Nat) (h:k<zs.length):(Pj zs k)[k]?=some (.int .i64 0):=by
 simp [Pj,List.getElem?_append,Nat.min_eq_left (Nat.le_of_lt h),List.getElem?_replicate]
 omega
theorem aM (ao:Option Addr) (cap:Nat) (zs:List Int) (w:World) (hz:Aw w ao zs) (hn:zs.length≤1048576) :
  Calls prog 12 #[.slice ao zs.length cap] w fun e w'=>e=.returned (.slice (some ⟨w.heap.size,0,none⟩) zs.length zs.length) ∧
   w'.ownsRow w.heap.size 3 1 (.slice (some ⟨w.heap.size,0,none⟩) zs.length zs.length) zs.length (zs.map (Value.int .i64))∧BW w w':=by
 obtain ⟨i0,hi,hz0,hz1,hz2⟩:=info_parts pQ
 rcases hz with rfl | ⟨b,off,rfl,hb,hcell⟩
 ·go_enter func12,ntmps12
  go_wp2_with (refine wpList_make_full _ rfl (.tmp 6) (.tmp 6) 22 rfl w.heap.size 3 i0 (.int .i64 0) 1 underlying22 hi hz0 hz1 .i64 .i64 _ _ 0 rfl rfl rfl rfl (by rw [hz2];omega) (by unfold maxLen;omega) nL ?_;intro w1 hown hg)
  refine wp_loop_rounds 1 ?_;rw [rounds_succ];go_wp2;go_ret
  exact ⟨rfl,by simpa [madeCells] using hown,bR.grown hg nL (fun k hk=>by cases hk)⟩
 ·have hm0:(madeCells (Value.int .i64 0).cells (zs.length*1)).toList=Pj zs 0:=by
    rw [fE,Nat.mul_one];exact toList_madeCells_one _ _
  go_enter func12,ntmps12
  go_wp2_with (refine wpList_make_full _ rfl (.tmp 6) (.tmp 6) 22 rfl w.heap.size 3 i0 (.int .i64 0) 1 underlying22 hi hz0 hz1 .i64 .i64 _ _ zs.length rfl rfl rfl rfl (by rw [hz2];omega) (by unfold maxLen;omega) nL ?_;intro w1 hown hg)
  rw [hm0] at hown
  have hb1:BW w w1:=bR.grown hg nL (fun k hk=>by cases hk)
  clear hm0 hg
  go_loopw [4] (fun i wr=>∃ k:Nat,k≤zs.length∧i=.int .i64 k∧wr.ownsRow w.heap.size 3 1 (.slice (some ⟨w.heap.size,0,none⟩) zs.length zs.length) zs.length (Pj zs k)∧BW w wr) (fun i _=>zs.length - (intOf i).toNat)
  case atStart=>exact ⟨0,Nat.zero_le _,rfl,hown,hb1⟩
  case round =>
   obtain ⟨k,hk,rfl,ho,hbr⟩:=hrel
   by_cases hlt:k<zs.length
   ·have c1:wr.cell? ⟨b,off+k,none⟩=some (.int .i64 (zs.getD k 0)):=(hbr.cell (p:=⟨b,off+k,none⟩) hb).trans (hcell k hlt)
    have c2:wr.cell? ⟨w.heap.size,k,none⟩=some (.int .i64 0):=by rw [ho.cellAt k (by omega),mY zs k hlt]
    have c3:wr.frozen? ⟨w.heap.size,k,none⟩=false:=ho.frozenAt k;obtain ⟨c,hc⟩:∃ c,zs.getD k 0=c:=⟨_,rfl⟩;rw [hc] at c1;have R:=ho.stored k (.int .i64 c);rw [← hc,← eQ zs k hlt,hc] at R;have HR:Hid ((wr.setCell ⟨w.heap.size,k,none⟩ (.int .i64 c)).ownsRow w.heap.size 3 1 (.slice (some ⟨w.heap.size,0,none⟩) zs.length zs.length) zs.length (Pj zs (k+1))):=R.1;clear R hc hcell ho hown;go_wp2
    go_roundw
    case rel=>exact ⟨k+1,by omega,by go_num,HR.o,hbr.setCell nL _⟩
    case measure=>simp [intOf];omega
   ·have:k=zs.length:=by omega
    subst this;rw [mA] at ho;clear hcell;go_wp2;go_ret;exact ⟨rfl,ho,hbr⟩
theorem Z3 {xs ys:List Int} (hl:xs.length=ys.length) (h:∀ j,j<xs.length→xs.getD j 0=ys.getD j 0):xs=ys:=by
 apply List.ext_getElem hl;intro i h1 h2
 have:=h i h1
 simpa [List.getD_eq_getElem?_getD,h1,h2] using this
theorem aU (ao bo:Option Addr) (c1 c2:Nat) (xs ys:List Int) (w:World) (hx:Aw w ao xs) (hy:Aw w bo ys) (h1:xs.length≤1099511627776) (h2:ys.length≤1099511627776) :
  Calls prog 16 #[.slice ao xs.length c1,.slice bo ys.length c2] w fun e w'=>e=.returned (.bool (decide (xs=ys)))∧BW w w':=by
 by_cases hl:xs.length=ys.length
 ·rcases hx with rfl | ⟨b,off,rfl,hb,hcx⟩
  ·have hy0:ys=[]:=List.eq_nil_of_length_eq_zero hl.symm
   subst hy0
   go_enter func16,ntmps16
   go_wp2;refine wp_loop_rounds 1 ?_;rw [rounds_succ];go_wp2;go_ret;exact ⟨rfl,bR⟩
  ·rcases hy with rfl | ⟨d,off2,rfl,hd,hcy⟩
   ·have hx0:xs=[]:=List.eq_nil_of_length_eq_zero hl
    subst hx0
    go_enter func16,ntmps16
    go_wp2;refine wp_loop_rounds 1 ?_;rw [rounds_succ];go_wp2;go_ret;exact ⟨rfl,bR⟩
   ·obtain ⟨n,hn⟩:∃ n,xs.length=n:=⟨_,rfl⟩
    have hn2:ys.length=n:=by omega
    rw [hn] at hcx h1 ⊢;rw [hn2] at hcy ⊢;have HX:Hid (xs.length=n):=hn;have HY:Hid (ys.length=n):=hn2;clear hl hn hn2
    go_enter func16,ntmps16
    go_wp2
    go_loopw [5] (fun i wr=>∃ k:Nat,k≤n∧i=.int .i64 k∧(∀ j,j<k→xs.getD j 0=ys.getD j 0)∧BW w wr) (fun i _=>n - (intOf i).toNat)
    case atStart=>exact ⟨0,Nat.zero_le _,rfl,fun j hj=>by omega,bR⟩
    case round =>
     obtain ⟨k,hk,rfl,hsame,hbr⟩:=hrel;have HS:Hid (∀ j,j<k→xs.getD j 0=ys.getD j 0):=hsame;clear hsame
     by_cases hlt:k<n
     ·have e1:wr.cell? ⟨b,off+k,none⟩=some (.int .i64 (xs.getD k 0)):=(hbr.cell (p:=⟨b,off+k,none⟩) hb).trans (hcx k hlt)
      have e2:wr.cell? ⟨d,off2+k,none⟩=some (.int .i64 (ys.getD k 0)):=(hbr.cell (p:=⟨d,off2+k,none⟩) hd).trans (hcy k hlt)
      have hki:(k:Int)<(n:Int):=by omega
      obtain ⟨x,hxk⟩:∃ x,xs.getD k 0=x:=⟨_,rfl⟩;obtain ⟨y,hyk⟩:∃ y,ys.getD k 0=y:=⟨_,rfl⟩;rw [hxk] at e1;rw [hyk] at e2;have HXK:Hid (xs.getD k 0=x):=hxk;have HYK:Hid (ys.getD k 0=y):=hyk;clear hxk hyk hcx hcy
      cases hne:(x != y)
      ·have HE:Hid (xs.getD k 0=ys.getD k 0):=by rw [Hid,HXK.o,HYK.o];simpa using hne
       go_wp2
       go_quiet (fail)
       go_wp2
       go_roundw
       case rel=>exact ⟨k+1,by omega,by go_num,fun j hj=>by rcases (show j<k∨j=k from by omega) with h | rfl;exact HS.o j h;exact HE.o,below_drewN hbr _⟩
       case measure=>simp [intOf];omega
      ·have HE:Hid (¬ xs=ys):=fun e=>by subst e;rw [← HXK.o,← HYK.o] at hne;simp at hne
       go_wp2
       go_quiet (fail)
       go_wp2;go_ret
       exact ⟨Aa (by simpa using HE.o),below_drewN hbr _⟩
     ·have HE:Hid (xs=ys):=Z3 (by rw [HX.o,HY.o]) (fun j hj=>HS.o j (by rw [HX.o] at hj;omega))
      clear hcx hcy;go_wp2;go_ret
      exact ⟨Aa (by simpa using HE.o),hbr⟩
 ·have hne:((xs.length:Int) != (ys.length:Int))=true:=by simp;omega
  have HE:Hid (¬ xs=ys):=fun e=>hl (by rw [e])
  go_enter func16,ntmps16
  go_wp2;go_ret
  exact ⟨Aa (by simpa using HE.o),bR⟩
theorem kG {w:World} {base:Nat} {v:Value} {zs:List Int} (h:w.ownsRow base 3 1 v zs.length (zs.map (Value.int .i64))) :
  ∃ ao cap,v=.slice ao zs.length cap∧Aw w ao zs:=by
 rcases h.2 with ⟨rfl,h0⟩ | ⟨g,cap,cur,rfl,hrest⟩
 ·have:zs=[]:=List.eq_nil_of_length_eq_zero h0
  subst this;exact ⟨none,0,rfl,.inl rfl⟩
 ·exact ⟨_,cap,rfl,Vr h⟩
theorem Fz {w:World} {base m:Nat} {v:Value} {xs:List Value} (h:w.ownsRow base 3 1 v m xs):∃ ao cap,v=.slice ao m cap:=by
 rcases h.2 with ⟨rfl,rfl⟩ | ⟨g,cap,cur,rfl,hrest⟩
 ·exact ⟨none,0,rfl⟩
 ·exact ⟨_,cap,rfl⟩
theorem Hq {w:World} {base n cap:Nat} {ao:Option Addr} {zs:List Int} (h:w.ownsRow base 3 1 (.slice ao n cap) n (zs.map (Value.int .i64))):Aw w ao zs:=by
 have hl:zs.length=n:=by simpa using h.1
 subst hl;obtain ⟨ao',c,hv,hz⟩:=kG h
 obtain ⟨rfl,_⟩:ao=ao'∧cap=c:=by simpa using hv
 exact hz
theorem Yq {w:World} {b off:Nat} {xs:List Au} (h:Ar w (some ⟨b,off,none⟩) xs):∀ j u,(Ah xs)[j]?=some u→w.cell? ((⟨b,off,none⟩:Addr).add j)=some u:=by
 intro j u hj
 have hlt:j<xs.length*6:=by
  rw [← E2];exact (List.getElem?_eq_some_iff.1 hj).1
 rcases h with rfl | ⟨b',off',hq,hb,hc⟩
 ·simp at hlt
 ·obtain ⟨rfl,rfl⟩:b=b'∧off=off':=by simpa using hq
  have e:((⟨b,off,none⟩:Addr).add j)=⟨b,off+j,none⟩:=by unfold Addr.add;split <;> simp_all
  obtain ⟨k0,k1,k2,k3,k4,k5⟩:=hc (j / 6) (by omega)
  obtain ⟨f0,f1,f2,f3,f4,f5⟩:=De xs (j / 6) (by omega)
  rw [e]
  rcases (show j % 6=0∨j % 6=1∨j % 6=2∨j % 6=3∨j % 6=4∨j % 6=5 by omega) with e | e | e | e | e | e
  ·rw [show j=j / 6*6 by omega,f0] at hj
   rw [show off+j=off+j / 6*6 by omega,k0]
   exact hj
  ·rw [show j=j / 6*6+1 by omega,f1] at hj
   rw [show off+j=off+j / 6*6+1 by omega,k1]
   exact hj
  ·rw [show j=j / 6*6+2 by omega,f2] at hj
   rw [show off+j=off+j / 6*6+2 by omega,k2]
   exact hj
  ·rw [show j=j / 6*6+3 by omega,f3] at hj
   rw [show off+j=off+j / 6*6+3 by omega,k3]
   exact hj
  ·rw [show j=j / 6*6+4 by omega,f4] at hj
   rw [show off+j=off+j / 6*6+4 by omega,k4]
   exact hj
  ·rw [show j=j / 6*6+5 by omega,f5] at hj
   rw [show off+j=off+j / 6*6+5 by omega,k5]
   exact hj
theorem Nt (w:World) (base:Nat) (ty:TypeId) (v:Value) (n:Nat) (xs:List Value) (hown:w.ownsRow base 107 6 v n xs) (ao:Option Addr) (c:Nat) (az:List Au) (hz:Ar w ao az)
  (hn:n+az.length≤5000000) (hbase:base≤w.heap.size) :
  ∃ v' w',(Builtin.append_ #[25,25] ty #[v,.slice ao az.length c]).run prog w=.ok v' w'∧w'.ownsRow base 107 6 v' (n+az.length) (xs++Ah az)∧w.grownBy w' v.ownBlock ∧
   (v≠.slice none 0 0→v'≠.slice none 0 0):=by
 obtain ⟨i0,hi,hz0,hz1,hz2⟩:=info_parts cF
 cases ao with
 | none =>
  have hf:az=[]:=by
   rcases hz with h | ⟨b,off,h,_⟩
   ·exact h
   ·cases h
  subst hf
  refine ⟨v,w,?_,by simpa [Ah] using hown,⟨rfl,rfl,rfl,nL,fun _ _ _=>rfl⟩,id⟩
  have hu:=underlying25
  rcases hown.2 with ⟨rfl,rfl⟩ | ⟨g,cap,cur,rfl,hbg,hg,hnc,hcm,hcs,htake⟩
  ·simp [Builtin.append_,run_underlying hu,sizeOf,typeInfo,hi,Builtin.lenOf,Builtin.firstCells]
  ·simp [Builtin.append_,run_underlying hu,sizeOf,typeInfo,hi,Builtin.lenOf,Builtin.firstCells,loadCells,hnc,storeCells]
 | some a =>
  have hnews:∀ j u,(Ah az)[j]?=some u→w.cell? (a.add j)=some u:=by
   rcases hz with rfl | ⟨b,off,hq,hb,hc⟩
   ·intro j u hj;simp [Ah] at hj
   ·obtain rfl:a=⟨b,off,none⟩:=by simpa using hq
    exact Yq (.inr ⟨b,off,rfl,hb,hc⟩)
  obtain ⟨v',w',h1,h2,h3,h4,_⟩:=run_append_own_at (P:=prog) w base 25 ty 107 i0 _ 6 56 underlying25 hi hz0 hz1 hz2 rfl (by decide) v n xs hown a az.length c (Ah az) (E2 az) hnews (aN az) (by unfold maxLen;omega) (by omega) hbase
  exact ⟨v',w',h1,h2,h3,fun hne h=>hne (h4.1 h).1⟩
theorem Bu {ops:Array Oper} {rest:List Oper} {o:Oper} {a:Act} {Q:Exit→Act→World→Prop} (w:World) (hgd:o.guard=none) (s x:Operand)
  (ho:o.op=.call { callee:=.builtin .append,args:=#[s,x],argTypes:=#[25,25] }) (base:Nat) (v:Value) (n:Nat) (xs:List Value) (hs:a.eval s=v) (hown:w.ownsRow base 107 6 v n xs)
  (ao:Option Addr) (c:Nat) (az:List Au) (hx:a.eval x=.slice ao az.length c) (hz:Ar w ao az) (hn:n+az.length≤5000000) (hbase:base≤w.heap.size)
  (h:∀ v' w',w'.ownsRow base 107 6 v' (n+az.length) (xs++Ah az)→w.grownBy w' v.ownBlock→(v≠.slice none 0 0→v'≠.slice none 0 0)→wpList prog ops Q rest (a.put o.dst v') w'):wpList prog ops Q (o::rest) a w:=by
 obtain ⟨v',w',hr,h1,h2,h3⟩:=Nt w base o.type v n xs hown ao c az hz hn hbase;exact Lib.wpList_append_run w hgd s x _ _ ho _ _ hs hx v' w' hr (h v' w' h1 h2 h3)
theorem kV (w:World):(w.alloc (.cells #[] 107)).ownsRow w.heap.size 107 6 (.slice (some ⟨w.heap.size,0,none⟩) 0 0) 0 []:=World.ownsRow_lit w #[] 0 nL (by unfold maxLen;omega) rfl
theorem dI {w:World} {base n:Nat} {v:Value} {xs:List Value} (h:w.ownsRow base 107 6 v n xs):∃ ao cap,v=.slice ao n cap:=by
 rcases h.2 with ⟨rfl,rfl⟩ | ⟨g,c,cur,rfl,_⟩
 ·exact ⟨none,0,rfl⟩
 ·exact ⟨_,c,rfl⟩
theorem Oe {w:World} {base n:Nat} {v:Value} {xs:List Value} (h:w.ownsRow base 107 6 v n xs) (hv:v≠.slice none 0 0):∃ g c,v=.slice (some ⟨g,0,none⟩) n c:=by
 rcases h.2 with ⟨h,_⟩ | ⟨g,c,cur,h,_⟩
 ·exact absurd h hv
 ·exact ⟨g,c,h⟩
def Pi (u:World) (L:List Au) (q:Bool) (e:Ending) (u':World):Prop :=
 ∃ ao cap,e=.returned (.tuple #[.slice ao L.length cap,.bool q])∧u'.ownsRow u.heap.size 107 6 (.slice ao L.length cap) L.length (Ah L)∧BW u u'
def pA (u:World) (L:List Au) (e:Ending) (u':World):Prop :=
 ∃ ao cap,e=.returned (.slice ao L.length cap)∧u'.ownsRow u.heap.size 107 6 (.slice ao L.length cap) L.length (Ah L)∧BW u u'
theorem eP {w:World} {a:Addr} {rs:Be} (h:Bh w (some a) rs):∀ j u,(Am rs)[j]?=some u→w.cell? (a.add j)=some u:=by
 intro j u hj
 have hl:j<rs.length:=by
  rcases Nat.lt_or_ge j rs.length with h' | h'
  ·exact h'
  ·rw [List.getElem?_eq_none (by rw [L7];exact h')] at hj;cases hj
 rcases h with h | ⟨b,off,h1,h2,h3⟩
 ·rw [h] at hl;simp at hl
 ·injection h1 with h1
  subst h1;have e:=h3 j hl
  have hu:u=.string ⟨(Al rs j).toArray⟩:=by
   rw [Hd rs j hl] at hj;exact (Option.some.inj hj).symm
  rw [hu]
  by_cases e0:j=0
  ·subst e0;rw [Addr.add,if_pos rfl];exact e
  ·rw [Addr.add,if_neg e0];exact e
theorem Ie (w:World) (base:Nat) (ty:TypeId) (v:Value) (n:Nat) (cs:List Value) (hown:w.ownsRow base 9 1 v n cs) (ao:Option Addr) (c:Nat) (rs:Be) (hz:Bh w ao rs)
  (hn:n+rs.length≤4000000) (hbase:base≤w.heap.size) :
  ∃ v' w',(Builtin.append_ #[23,23] ty #[v,.slice ao rs.length c]).run prog w=.ok v' w'∧w'.ownsRow base 9 1 v' (n+rs.length) (cs++Am rs)∧w.grownBy w' v.ownBlock:=by
 obtain ⟨i0,hi,hz0,hz1,hz2⟩:=info_parts S1
 cases ao with
 | none =>
  have hf:rs=[]:=by
   rcases hz with h | ⟨b,off,h,_⟩
   ·exact h
   ·cases h
  subst hf
  refine ⟨v,w,?_,by simpa [Am] using hown,⟨rfl,rfl,rfl,nL,fun _ _ _=>rfl⟩⟩
  have hu:=underlying23
  rcases hown.2 with ⟨rfl,rfl⟩ | ⟨g,cap,cur,rfl,hbg,hg,hnc,hcm,hcs,htake⟩
  ·simp [Builtin.append_,run_underlying hu,sizeOf,typeInfo,hi,Builtin.lenOf,Builtin.firstCells]
  ·simp [Builtin.append_,run_underlying hu,sizeOf,typeInfo,hi,Builtin.lenOf,Builtin.firstCells,loadCells,hnc,storeCells]
 | some a =>
  obtain ⟨v',w',h1,h2,h3,_,_⟩:=run_append_own_at (P:=prog) w base 23 ty 9 i0 _ 1 16 underlying23 hi hz0 hz1 hz2 rfl (by decide) v n cs hown a rs.length c (Am rs) (by simp [L7]) (eP hz) (Zv rs) (by unfold maxLen;omega) (by omega) hbase
  exact ⟨v',w',h1,h2,h3⟩
theorem Kh {ops:Array Oper} {rest:List Oper} {o:Oper} {a:Act} {Q:Exit→Act→World→Prop} (w:World) (hgd:o.guard=none) (s x:Operand)
  (ho:o.op=.call { callee:=.builtin .append,args:=#[s,x],argTypes:=#[23,23] }) (base:Nat) (v:Value) (n:Nat) (cs:List Value) (hs:a.eval s=v) (hown:w.ownsRow base 9 1 v n cs)
  (ao:Option Addr) (c:Nat) (rs:Be) (hx:a.eval x=.slice ao rs.length c) (hz:Bh w ao rs) (hn:n+rs.length≤4000000) (hbase:base≤w.heap.size)
  (h:∀ v' w',w'.ownsRow base 9 1 v' (n+rs.length) (cs++Am rs)→w.grownBy w' v.ownBlock→wpList prog ops Q rest (a.put o.dst v') w') :
  wpList prog ops Q (o::rest) a w:=by
 refine wpList_plain hgd fun K hK=>?_
 obtain ⟨v',w',hr,h2,h3⟩:=Ie w base o.type v n cs hown ao c rs hz hn hbase;unfold Oper.wp execOp
 simp only [ho,resolve,invoke,builtin,Sem.run_bind,Sem.run_pure,Result.andThen_ok,List.map_toArray,List.map_cons,List.map_nil,hs,hx,hr]
 exact hK _ _ (h v' w' h2 h3)
theorem dQ {w:World} {a:Addr} {zs:List Int} (h:Aw w (some a) zs):∀ j u,(zs.map (Value.int .i64))[j]?=some u→w.cell? (a.add j)=some u:=by
 intro j u hj
 have hl:j<zs.length:=by
  rcases Nat.lt_or_ge j zs.length with h' | h'
  ·exact h'
  ·rw [List.getElem?_eq_none (by simpa using h')] at hj;cases hj
 rcases h with h | ⟨b,off,h1,h2,h3⟩
 ·rw [h] at hl;simp at hl
 ·injection h1 with h1
  subst h1;have e:=h3 j hl
  have hu:u=.int .i64 (zs.getD j 0):=by
   rw [List.getElem?_map,List.getElem?_eq_getElem hl] at hj
   simp at hj
   rw [← hj]
   simp [List.getD_eq_getElem?_getD,hl]
  rw [hu]
  by_cases e0:j=0
  ·subst e0;rw [Addr.add,if_pos rfl];exact e
  ·rw [Addr.add,if_neg e0];exact e
theorem lH (zs:List Int):∀ u ∈ zs.map (Value.int .i64),u.oneCell'=true:=by
 intro u hu
 simp at hu
 obtain ⟨x,_,rfl⟩:=hu
 rfl
theorem Mc (w:World) (base:Nat) (ty:TypeId) (v:Value) (n:Nat) (cs:List Value) (hown:w.ownsRow base 3 1 v n cs) (ao:Option Addr) (c:Nat) (zs:List Int) (hz:Aw w ao zs)
  (hn:n+zs.length≤4000000) (hbase:base≤w.heap.size) :
  ∃ v' w',(Builtin.append_ #[22,22] ty #[v,.slice ao zs.length c]).run prog w=.ok v' w'∧w'.ownsRow base 3 1 v' (n+zs.length) (cs++zs.map (Value.int .i64))∧w.grownBy w' v.ownBlock:=by
 obtain ⟨i0,hi,hz0,hz1,hz2⟩:=info_parts pQ
 cases ao with
 | none =>
  have hf:zs=[]:=by
   rcases hz with h | ⟨b,off,h,_⟩
   ·exact h
   ·cases h
  subst hf
  refine ⟨v,w,?_,by simpa using hown,⟨rfl,rfl,rfl,nL,fun _ _ _=>rfl⟩⟩
  have hu:=underlying22
  rcases hown.2 with ⟨rfl,rfl⟩ | ⟨g,cap,cur,rfl,hbg,hg,hnc,hcm,hcs,htake⟩
  ·simp [Builtin.append_,run_underlying hu,sizeOf,typeInfo,hi,Builtin.lenOf,Builtin.firstCells]
  ·simp [Builtin.append_,run_underlying hu,sizeOf,typeInfo,hi,Builtin.lenOf,Builtin.firstCells,loadCells,hnc,storeCells]
 | some a =>
  obtain ⟨v',w',h1,h2,h3,_,_⟩:=run_append_own_at (P:=prog) w base 22 ty 3 i0 _ 1 8 underlying22 hi hz0 hz1 hz2 rfl (by decide) v n cs hown a zs.length c (zs.map (Value.int .i64)) (by simp) (dQ hz) (lH zs) (by unfold maxLen;omega) (by omega) hbase
  exact ⟨v',w',h1,h2,h3⟩
theorem Gf {ops:Array Oper} {rest:List Oper} {o:Oper} {a:Act} {Q:Exit→Act→World→Prop} (w:World) (hgd:o.guard=none) (s x:Operand)
  (ho:o.op=.call { callee:=.builtin .append,args:=#[s,x],argTypes:=#[22,22] }) (base:Nat) (v:Value) (n:Nat) (cs:List Value) (hs:a.eval s=v) (hown:w.ownsRow base 3 1 v n cs)
  (ao:Option Addr) (c:Nat) (zs:List Int) (hx:a.eval x=.slice ao zs.length c) (hz:Aw w ao zs) (hn:n+zs.length≤4000000) (hbase:base≤w.heap.size)
  (h:∀ v' w',w'.ownsRow base 3 1 v' (n+zs.length) (cs++zs.map (Value.int .i64))→w.grownBy w' v.ownBlock→wpList prog ops Q rest (a.put o.dst v') w') :
  wpList prog ops Q (o::rest) a w:=by
 refine wpList_plain hgd fun K hK=>?_
 obtain ⟨v',w',hr,h2,h3⟩:=Mc w base o.type v n cs hown ao c zs hz hn hbase;unfold Oper.wp execOp
 simp only [ho,resolve,invoke,builtin,Sem.run_bind,Sem.run_pure,Result.andThen_ok,List.map_toArray,List.map_cons,List.map_nil,hs,hx,hr]
 exact hK _ _ (h v' w' h2 h3)
theorem fC (g:Nat) (ao:Option Addr) (cap:Nat) (zs:List Int) (w:World) (hc:w.cell? ⟨g,0,none⟩=some (.slice ao zs.length cap)) (hz:Aw w ao zs) (hn:zs.length≤1048577) :
  Calls prog 101 #[.slice (some ⟨g,0,none⟩) 1 1] w fun e w'=>∃ a2 k2,e=.returned (.slice a2 zs.length k2) ∧
   w'.ownsRow w.heap.size 3 1 (.slice a2 zs.length k2) zs.length (zs.map (Value.int .i64))∧BW w w':=by
 have HZ:Hid (Aw w ao zs):=hz;clear hz
 go_enter func101,ntmps101
 go_wp2;refine wp_loop_rounds 2 ?_;rw [rounds_succ]
 go_wp2_with (at_builtin;refine Gf _ rfl (.tmp 12) (.tmp 13) rfl w.heap.size _ 0 [] rfl (World.ownsRow_nil _ _ _ _) ao cap zs rfl HZ.o (by omega) nL ?_;intro v2 w2 o2 g2)
 have q2:BW w w2:=bR.grown g2 nL (fun k hk=>by cases hk)
 rw [Nat.zero_add,List.nil_append] at o2;obtain ⟨a2,k2,hv2⟩:=Fz o2;subst hv2;have HO2:Hid (w2.ownsRow w.heap.size 3 1 (.slice a2 zs.length k2) zs.length (zs.map (Value.int .i64))):=o2;clear o2 g2 HZ hc;go_wp2;rw [rounds_succ];go_wp2;go_ret;exact ⟨a2,k2,rfl,HO2.o,q2⟩
theorem Ro (a:Int) (w:World) :
  Calls prog 216 #[.int .i64 a] w fun e w'=>e=.returned (.bool (Cb a))∧w'=w:=by
 go_enter func216,ntmps216
 go_wp2_with fail
 refine (Dl _ _ _ _).mono ?_;rintro e w1 ⟨rfl,hw⟩;rw [hw];go_wp2;go_ret;exact ⟨rfl,rfl⟩
theorem Do {a:Int} {q:Bool} (h:Cb a=q) (w:World):Calls prog 216 #[.int .i64 a] w fun e w'=>e=.returned (.bool q)∧w'=w:=by rw [← h];exact Ro a w
theorem dT (a b c m:Int) (w:World) :
  Calls prog 265 #[.agg #[.int .i64 a,.int .i64 b,.int .i64 c,.int .i64 m]] w fun e w'=>e=.returned (.agg #[.int .i64 b,.int .i64 a,.int .i64 c,.int .i64 m])∧BW w w':=by
 go_enter func265,ntmps265
 go_wp2
 go_returns
 refine ⟨rfl,?_⟩
 go_grown
theorem Jf {c:Int} (w:World) (d:Int) (h:Dc c=d):Calls prog 217 #[.int .i64 c] w fun e w'=>e=.returned (.int .i64 d)∧BW w w':=by rw [← h];exact Ga c w
theorem Nf (a b c m:Int) (w:World) :
  Calls prog 261 #[.agg #[.int .i64 a,.int .i64 b,.int .i64 c,.int .i64 m]] w fun e w'=>e=.returned (.bool (Bt (a,b,c,m)))∧BW w w':=by
 have bel:Below w.heap.size w (w.alloc (.cells #[.int .i64 a,.int .i64 b,.int .i64 c,.int .i64 m] 269)):=by go_grown
 cases h1:Cb a
 ·have HE:Hid (Bt (a,b,c,m)=false):=by simp [Hid,Bt,h1]
  have H1:Hid _:=h1;clear h1
  go_enter func261,ntmps261
  go_wp2_with fail
  refine (Do H1.o _).mono ?_;rintro e w1 ⟨rfl,hw⟩;rw [hw];clear hw;go_wp2;go_ret;exact ⟨Aa HE.o.symm,bel⟩
 have H1:Hid _:=h1
 cases h2:Cb b
 ·have HE:Hid (Bt (a,b,c,m)=false):=by simp [Hid,Bt,h2]
  have H2:Hid _:=h2;clear h1 h2
  go_enter func261,ntmps261
  go_wp2_with fail
  refine (Do H1.o _).mono ?_;rintro e w1 ⟨rfl,hw⟩;rw [hw];clear hw;go_wp2_with fail
  refine (Do H2.o _).mono ?_;rintro e w2 ⟨rfl,hw⟩;rw [hw];clear hw;go_wp2;go_ret;exact ⟨Aa HE.o.symm,bel⟩
 have H2:Hid _:=h2
 by_cases h3:a=b
 ·have HE:Hid (Bt (a,b,c,m)=false):=by simp [Hid,Bt,h3]
  have h3':(a != b)=false:=by simpa using h3
  clear h1 h2 h3
  go_enter func261,ntmps261
  go_wp2_with fail
  refine (Do H1.o _).mono ?_;rintro e w1 ⟨rfl,hw⟩;rw [hw];clear hw;go_wp2_with fail
  refine (Do H2.o _).mono ?_;rintro e w2 ⟨rfl,hw⟩;rw [hw];clear hw;go_wp2;go_ret;exact ⟨Aa HE.o.symm,bel⟩
 have h3':(a != b)=true:=by simpa using h3
 have hx:∀ q:Bool,(decide (0≤Dc c) && decide (1≤m∧m≤1000000000000))=q→Bt (a,b,c,m)=q:=by
  intro q hq
  simp only [Bt,h1,h2,Bool.true_and,decide_eq_true h3]
  exact hq
 obtain ⟨d,hd⟩:∃ d,Dc c=d:=⟨_,rfl⟩;have HD:Hid _:=hd
 by_cases h4:0≤d
 ·have HE:Hid (Bt (a,b,c,m)=Gk m 1 1000000000000):=hx _ (by rw [hd,decide_eq_true h4];rfl)
  clear hx hd h3 h1 h2
  go_enter func261,ntmps261
  go_wp2_with fail
  refine (Do H1.o _).mono ?_;rintro e w1 ⟨rfl,hw⟩;rw [hw];clear hw;go_wp2_with fail
  refine (Do H2.o _).mono ?_;rintro e w2 ⟨rfl,hw⟩;rw [hw];clear hw;go_wp2_with fail
  refine (Jf _ d HD.o).mono ?_;rintro e w3 ⟨rfl,b3⟩
  have x3:=(b3.cell (p:=⟨w.heap.size,3,none⟩) (by simp)).trans (show _=some (.int .i64 m) by simp)
  have q3:=bel.trans (b3.mono bel.size);clear b3 bel;go_wp2_with fail
  refine (Dl _ _ _ _).mono ?_;rintro e w4 ⟨rfl,hw⟩;rw [hw];clear hw;obtain ⟨q,hq⟩:∃ q,Gk m 1 1000000000000=q:=⟨_,rfl⟩;rw [hq];have HQ:Hid _:=hq;clear hq;go_wp2;go_ret
  exact ⟨Aa (by rw [HE.o,HQ.o]),q3⟩
 ·have HE:Hid (Bt (a,b,c,m)=false):=hx _ (by rw [hd,decide_eq_false h4];rfl)
  clear hx hd h3 h1 h2
  go_enter func261,ntmps261
  go_wp2_with fail
  refine (Do H1.o _).mono ?_;rintro e w1 ⟨rfl,hw⟩;rw [hw];clear hw;go_wp2_with fail
  refine (Do H2.o _).mono ?_;rintro e w2 ⟨rfl,hw⟩;rw [hw];clear hw;go_wp2_with fail
  refine (Jf _ d HD.o).mono ?_;rintro e w3 ⟨rfl,b3⟩;have q3:=bel.trans (b3.mono bel.size);clear b3 bel;go_wp2;go_ret;exact ⟨Aa HE.o.symm,q3⟩
def B0 (l:List UInt8):Nat→Be×Nat
 | 0=>([],0)
 | i+1=>if l.getD i 0=32 then ((B0 l i).1++[(l.drop (B0 l i).2).take (i - (B0 l i).2)],i+1) else B0 l i
def Ab (l:List UInt8):Be:=(B0 l l.length).1++[l.drop (B0 l l.length).2]
theorem Mo (l:List UInt8):∀ i,(B0 l i).2≤i∧(B0 l i).1.length≤i
 | 0=>⟨nL,nL⟩
 | i+1=>by
  have:=Mo l i
  unfold B0
  split
  ·refine ⟨nL,?_⟩
   simp;omega
  ·omega
theorem Kw {l:List UInt8} {i:Nat} (h:l.getD i 0=32):B0 l (i+1)=((B0 l i).1++[(l.drop (B0 l i).2).take (i - (B0 l i).2)],i+1):=by rw [B0,if_pos h]
theorem J7 {l:List UInt8} {i:Nat} (h:l.getD i 0≠32):B0 l (i+1)=B0 l i:=by rw [B0,if_neg h]
theorem Fy (l:List UInt8):1≤(Ab l).length∧(Ab l).length≤l.length+1:=by
 have:=Mo l l.length
 rw [Ab,List.length_append];simp;omega
theorem Jw (l:List UInt8):∀ i,∀ r ∈ (B0 l i).1,r.length≤l.length
 | 0=>fun r h=>by cases h
 | i+1=>fun r h=>by
  unfold B0 at h
  split at h
  ·rcases List.mem_append.1 h with h | h
   ·exact Jw l i r h
   ·rw [List.mem_singleton.1 h];simp;omega
  ·exact Jw l i r h
theorem Ee (l:List UInt8):∀ r ∈ Ab l,r.length≤l.length:=by
 intro r h
 rcases List.mem_append.1 h with h | h
 ·exact Jw l _ r h
 ·rw [List.mem_singleton.1 h];simp
theorem I8 (l:List UInt8) (w:World) (hl:l.length≤1048576) :
  Calls prog 139 #[.string ⟨l.toArray⟩] w fun e w'=>∃ a k,e=.returned (.slice a (Ab l).length k)∧w'.ownsRow w.heap.size 9 1 (.slice a (Ab l).length k) (Ab l).length (Am (Ab l))∧BW w w':=by
 obtain ⟨i0,hi,hz0,hz1,hz2⟩:=info_parts S1
 have HO0:Hid ((w.alloc (.cells #[] 9)).ownsRow w.heap.size 9 1 (.slice (some ⟨w.heap.size,0,none⟩) 0 0) 0 (Am [])):=by
  have h:=World.ownsRow_lit (base:=w.heap.size) (e:=9) (size:=1) w #[] 0 nL (by unfold maxLen;omega) rfl
  rw [Hid];simpa [Am] using h
 have HBA:Hid (Below w.heap.size w (w.alloc (.cells #[] 9))):=bR.alloc nL _;have HWE:Hid (Ab l=(B0 l l.length).1++[l.drop (B0 l l.length).2]):=rfl;obtain ⟨WW,hWW⟩:∃ x,Ab l=x:=⟨_,rfl⟩;rw [hWW] at HWE ⊢;clear hWW
 go_enter func139,ntmps139
 go_wp2
 go_loopw [3,4,5] (fun s f i wr=>∃ (v:Value) (k:Nat),v=s∧k≤l.length∧i=.int .i64 (k:Int)∧f=.int .i64 ((B0 l k).2:Int)∧wr.ownsRow w.heap.size 9 1 v (B0 l k).1.length (Am (B0 l k).1)∧BW w wr) (fun _ _ i _=>l.length - (intOf i).toNat)
 case atStart=>exact ⟨_,0,rfl,Nat.zero_le _,rfl,rfl,HO0.o,HBA.o⟩
 case round =>
  obtain ⟨v,k,hvs,hk,rfl,rfl,hown,hbr⟩:=hrel;subst hvs;have HBR:Hid (BW w wr):=hbr;have HSZ:Hid (w.heap.size≤wr.heap.size):=hbr.size
  have HLT:Hid (∀ j,v.ownBlock=some j→w.heap.size≤j):=fun j hj=>(hown.lt j hj).1
  have hsc:=Mo l k
  by_cases hlt:k<l.length
  ·have hki:(k:Int)<(l.length:Int):=by omega
   have HY:Hid _:=@Kw l k;have HN:Hid _:=@J7 l k
   obtain ⟨c,hc⟩:∃ c,(⟨l.toArray⟩:ByteArray)[k]'(by rw [Fo];exact hlt)=c:=⟨_,rfl⟩
   rw [(Je l k hlt).trans hc] at HY HN;obtain ⟨R,hR⟩:∃ x,(B0 l k).1=x:=⟨_,rfl⟩;obtain ⟨f,hf⟩:∃ x,(B0 l k).2=x:=⟨_,rfl⟩;rw [hR,hf] at HY;rw [hR] at hown hsc;rw [hf] at hsc ⊢;have HO:Hid (wr.ownsRow w.heap.size 9 1 v R.length (Am R)):=hown;have HRF:Hid ((B0 l k).1=R∧(B0 l k).2=f):=⟨hR,hf⟩;clear hR hf hown hbr HO0 HBA
   by_cases h32:c=32
   ·subst h32
    have hx:(⟨l.toArray⟩:ByteArray).extract f k=⟨((l.drop f).take (k - f)).toArray⟩:=Qo l f k;have HNX:Hid (B0 l (k+1)=(R++[(l.drop f).take (k - f)],k+1)):=HY.o rfl;obtain ⟨r,hr⟩:∃ x,(l.drop f).take (k - f)=x:=⟨_,rfl⟩;rw [hr] at hx HNX
    have hfk:(f:Int)≤(k:Int):=by omega
    clear HY HN hr
    go_wp2_with (at_builtin;refine wpList_append_own _ rfl (.tmp 17) (.tmp 22) 23 rfl w.heap.size 9 i0 (.string ⟨#[]⟩) 1 16 underlying23 hi hz0 hz1 hz2 rfl (by decide) _ _ _ rfl (HO.o.alloc _) ⟨wr.heap.size,0,none⟩ 1 1 [.string ⟨r.toArray⟩] rfl rfl (World.news_of_block (heap_alloc_new wr _)) (Rf _) (by unfold maxLen;omega) (by omega) (by simp;have:=HSZ.o;omega) ?_;intro v5 w5 o5 g5 _)
    have q5:BW w w5:=(HBR.o.alloc (by have:=HSZ.o;omega) _).grown g5 (by have:=HSZ.o;simp;omega) HLT.o
    have HR5:Hid (w5.ownsRow w.heap.size 9 1 v5 (B0 l (k+1)).1.length (Am (B0 l (k+1)).1)):=by
     rw [Hid,HNX.o];simp only [List.length_append,F6];exact o5
    have HF5:Hid ((B0 l (k+1)).2=k+1):=by rw [Hid,HNX.o]
    clear o5 g5 hx;go_wp2
    go_roundw
    case rel=>exact ⟨_,k+1,rfl,by omega,by go_num,by rw [HF5.o];go_num,HR5.o,q5⟩
    case measure=>simp [intOf];omega
   ·have HNX:Hid (B0 l (k+1)=B0 l k):=HN.o h32
    have hcb:((c.toNat:Int) == 32)=false:=by
     simp only [beq_eq_false_iff_ne,ne_eq]
     intro e;apply h32;apply UInt8.toNat_inj.1
     show c.toNat=32
     omega
    have HR5:Hid (wr.ownsRow w.heap.size 9 1 v (B0 l (k+1)).1.length (Am (B0 l (k+1)).1)):=by
     rw [Hid,HNX.o,HRF.o.1];exact HO.o
    have HF5:Hid ((B0 l (k+1)).2=f):=by rw [Hid,HNX.o,HRF.o.2]
    clear HY HN;go_wp2
    go_roundw
    case rel=>exact ⟨_,k+1,rfl,by omega,by go_num,by rw [HF5.o],HR5.o,HBR.o⟩
    case measure=>simp [intOf];omega
  ·have hke:k=l.length:=by omega
   subst hke
   have hki:¬ (l.length:Int)<(l.length:Int):=by omega
   obtain ⟨R,hR⟩:∃ x,(B0 l l.length).1=x:=⟨_,rfl⟩;obtain ⟨f,hf⟩:∃ x,(B0 l l.length).2=x:=⟨_,rfl⟩;rw [hR,hf] at HWE;rw [hR] at hown hsc;rw [hf] at hsc ⊢;have HO:Hid (wr.ownsRow w.heap.size 9 1 v R.length (Am R)):=hown
   have hx:(⟨l.toArray⟩:ByteArray).extract f l.length=⟨(l.drop f).toArray⟩:=by rw [Qo,List.take_of_length_le (by simp)]
   obtain ⟨r,hr⟩:∃ x,l.drop f=x:=⟨_,rfl⟩;rw [hr] at hx HWE
   have hfk:(f:Int)≤(l.length:Int):=by omega
   clear hR hf hown hbr HO0 HBA hr
   go_wp2_with (at_builtin;refine wpList_append_own _ rfl (.tmp 26) (.tmp 30) 23 rfl w.heap.size 9 i0 (.string ⟨#[]⟩) 1 16 underlying23 hi hz0 hz1 hz2 rfl (by decide) _ _ _ rfl (HO.o.alloc _) ⟨wr.heap.size,0,none⟩ 1 1 [.string ⟨r.toArray⟩] rfl rfl (World.news_of_block (heap_alloc_new wr _)) (Rf _) (by unfold maxLen;omega) (by omega) (by simp;have:=HSZ.o;omega) ?_;intro v5 w5 o5 g5 _)
   have q5:BW w w5:=(HBR.o.alloc (by have:=HSZ.o;omega) _).grown g5 (by have:=HSZ.o;simp;omega) HLT.o
   have HR5:Hid (w5.ownsRow w.heap.size 9 1 v5 WW.length (Am WW)):=by
    rw [Hid,HWE.o,List.length_append,F6];exact o5
   obtain ⟨a,cp,hv,-,-⟩:=Ov HR5.o;subst hv;clear o5 g5 hx;go_wp2;go_ret;exact ⟨a,cp,rfl,HR5.o,q5⟩
end Go.Proofs.YtomiclakhjncbaaGreatDoor
namespace Go.Proofs.YtomiclakhjncbaaGreatDoor.Kb
open Go.RowKit Go.Conc.Locks Go.Proofs.Tryz
set_option maxRecDepth 100000
set_option maxHeartbeats 12800000
abbrev muL:MuLink:={ lock:=113,unlock:=114,ilock:=156,iunlock:=157,lockSlow:=195,unlockSlow:=198,disable:=191,enable:=193,acquire:=194,relMerge:=196,cas32:=192,add32:=197,tMutex:=141,tIMutex:=139,tPMutex:=192,tPIMutex:=236,tPI32:=238,tUP:=203,tNoCopy:=136,tU32:=137 }
theorem muH:MuLib prog muL:=⟨func113,func114,func156,func157,func191,func193,func194,func196,func192,func197,underlying139,runUnderlying139,sizeOf139,isAgg139,zeroValue139,underlying141,runUnderlying141,sizeOf141,isAgg141,zeroValue141,underlying192,runUnderlying192,sizeOf192,isAgg192,zeroValue192,underlying236,runUnderlying236,sizeOf236,isAgg236,zeroValue236,underlying238,runUnderlying238,sizeOf238,isAgg238,zeroValue238,underlying203,runUnderlying203,sizeOf203,isAgg203,zeroValue203,underlying136,runUnderlying136,sizeOf136,isAgg136,zeroValue136,underlying21,runUnderlying21,sizeOf21,isAgg21,zeroValue21,by kernel_rfl⟩
end Go.Proofs.YtomiclakhjncbaaGreatDoor.Kb
namespace Go.Proofs.YtomiclakhjncbaaGreatDoor
open Go.Proofs.Tryz
set_option maxRecDepth 100000
set_option maxHeartbeats 12800000
abbrev Cd:=Int×Int
def Li (x y:Cd):Bool:=decide (x.1<y.1∨(x.1=y.1∧x.2<y.2))
theorem qL (x:Cd):Li x x=false:=by simp only [Li,decide_eq_false_iff_not];omega
theorem nC {x y:Cd} (h:Li x y=true):Li y x=false:=by simp only [Li,decide_eq_true_eq,decide_eq_false_iff_not] at *;omega
theorem V2 {x y z:Cd} (h:Li z y=false) (g:Li y x=false):Li z x=false:=by simp only [Li,decide_eq_false_iff_not] at *;omega
theorem kT {k p j:Cd} (h:Li k p=false) (g:Li j p=true):Li k j=false:=by simp only [Li,decide_eq_true_eq,decide_eq_false_iff_not] at *;omega
def Lp (j:Nat):Nat:=(j - 1) / 2
theorem J0 {j:Nat} (h:0<j):Lp j<j:=by unfold Lp;omega
def lT (f:Nat→Cd) (n:Nat):Prop:=∀ k,0<k→k<n→Li (f k) (f (Lp k))=false
def dH (f:Nat→Cd) (n j:Nat):Prop:=(∀ k,0<k→k<n→k≠j→Li (f k) (f (Lp k))=false)∧(0<j→∀ k,0<k→k<n→Lp k=j→Li (f k) (f (Lp j))=false)
def Me (f:Nat→Cd) (i k:Nat):Nat→Cd:=fun m=>if m=i then f k else if m=k then f i else f m
theorem Px (f:Nat→Cd) (i k:Nat):Me f i k i=f k:=if_pos rfl
theorem La (f:Nat→Cd) (i k:Nat):Me f i k k=f i:=by
 unfold Me
 by_cases h:k=i
 ·rw [if_pos h,h]
 ·rw [if_neg h,if_pos rfl]
theorem Gz (f:Nat→Cd) {i k m:Nat} (h:m≠i) (g:m≠k):Me f i k m=f m:=by unfold Me;rw [if_neg h,if_neg g]
theorem Tt {f:Nat→Cd} {n j:Nat} (h:dH f n j) (hj:j=0∨Li (f j) (f (Lp j))=false):lT f n:=by
 intro k h0 hk
 by_cases e:k=j
 ·subst e
  rcases hj with rfl | hj
  ·omega
  ·exact hj
 ·exact h.1 k h0 hk e
theorem dR {f:Nat→Cd} {n j:Nat} (h:dH f n j) (h0:0<j) (hj:j<n) (hl:Li (f j) (f (Lp j))=true):dH (Me f (Lp j) j) n (Lp j):=by
 have hp:=J0 h0
 refine ⟨fun k k0 kn kp=>?_,fun p0 k k0 kn kp=>?_⟩
 ·by_cases kj:k=j
  ·subst kj
   rw [La,Px];exact nC hl
  ·rw [Gz f kp kj]
   by_cases e1:Lp k=Lp j
   ·rw [e1,Px]
    have:=h.1 k k0 kn kj
    rw [e1] at this;exact kT this hl
   ·by_cases e2:Lp k=j
    ·rw [e2,La]
     exact h.2 h0 k k0 kn e2
    ·rw [Gz f e1 e2]
     exact h.1 k k0 kn kj
 ·have hpp:=J0 p0
  rw [Gz f (show Lp (Lp j)≠Lp j by omega) (show Lp (Lp j)≠j by omega)]
  have hq:=h.1 (Lp j) p0 (by omega) (by omega)
  by_cases kj:k=j
  ·subst kj
   rw [La];exact hq
  ·have hkp:=J0 k0
   rw [Gz f (show k≠Lp j by omega) kj]
   have:=h.1 k k0 kn kj
   rw [kp] at this;exact V2 this hq
theorem iO {f:Nat→Cd} {n:Nat} (h:lT f n):∀ k,k<n→Li (f k) (f 0)=false:=by
 intro k
 induction k using Nat.strongRecOn with
 | _ k ih =>
  intro hk
  by_cases k0:k=0
  ·subst k0;exact qL _
  ·have hp:=J0 (show 0<k by omega)
   exact V2 (h k (by omega) hk) (ih (Lp k) hp (by omega))
def Bc (H:List Cd) (k:Nat):Cd:=H.getD k (0,0)
theorem Md {H:List Cd} {k:Nat} (h:k<H.length):Bc H k=H[k]:=by simp [Bc,List.getD_eq_getElem?_getD,h]
def F1 (H:List Cd):Prop:=lT (Bc H) H.length
def Qr (H:List Cd) (j:Nat):Prop:=dH (Bc H) H.length j
def Cu (H:List Cd) (i k:Nat):List Cd:=(H.set i (Bc H k)).set k (Bc H i)
theorem Hc (H:List Cd) (i k:Nat):(Cu H i k).length=H.length:=by simp [Cu]
theorem Fi {H:List Cd} {i k:Nat} (hi:i<H.length) (hk:k<H.length) (m:Nat):Bc (Cu H i k) m=Me (Bc H) i k m:=by
 unfold Me Cu
 by_cases hm:m<H.length
 ·rw [Md (by simp;exact hm)]
  by_cases e2:m=k
  ·subst e2
   rw [List.getElem_set_self]
   by_cases e1:m=i
   ·rw [if_pos e1,e1]
   ·rw [if_neg e1,if_pos rfl]
  ·rw [List.getElem_set_ne (by omega)]
   by_cases e1:m=i
   ·subst e1
    rw [List.getElem_set_self,if_pos rfl]
   ·rw [List.getElem_set_ne (by omega),if_neg e1,if_neg e2,Md hm]
 ·have e1:m≠i:=by omega
  have e2:m≠k:=by omega
  rw [if_neg e1,if_neg e2]
  simp [Bc,List.getD_eq_getElem?_getD,hm]
theorem gP {H:List Cd} {i k:Nat} (hi:i<H.length) (hk:k<H.length):Bc (Cu H i k)=Me (Bc H) i k:=funext (Fi hi hk)
def Fv (H G:List Cd):Prop:=G.length=H.length∧(∀ i,i<H.length→∃ j,j<H.length∧Bc G i=Bc H j)∧(∀ j,j<H.length→∃ i,i<H.length∧Bc G i=Bc H j)
theorem Fv.refl (H:List Cd):Fv H H:=⟨rfl,fun i hi=>⟨i,hi,rfl⟩,fun j hj=>⟨j,hj,rfl⟩⟩
theorem Fv.trans {H G K:List Cd} (h:Fv H G) (g:Fv G K):Fv H K:=by
 refine ⟨g.1.trans h.1,fun i hi=>?_,fun j hj=>?_⟩
 ·obtain ⟨a,ha,e⟩:=g.2.1 i (by rw [h.1];exact hi)
  obtain ⟨b,hb,e'⟩:=h.2.1 a (by rw [h.1] at ha;exact ha)
  exact ⟨b,hb,e.trans e'⟩
 ·obtain ⟨a,ha,e⟩:=h.2.2 j hj
  obtain ⟨b,hb,e'⟩:=g.2.2 a (by rw [h.1];exact ha)
  exact ⟨b,by rw [h.1] at hb;exact hb,e'.trans e⟩
theorem gQ {H:List Cd} {i k:Nat} (hi:i<H.length) (hk:k<H.length):Fv H (Cu H i k):=by
 refine ⟨Hc H i k,fun m hm=>?_,fun m hm=>?_⟩
 ·rw [Fi hi hk]
  by_cases e1:m=i
  ·exact ⟨k,hk,by rw [e1,Px]⟩
  ·by_cases e2:m=k
   ·exact ⟨i,hi,by rw [e2,La]⟩
   ·exact ⟨m,hm,Gz _ e1 e2⟩
 ·by_cases e1:m=i
  ·exact ⟨k,hk,by rw [Fi hi hk,La,e1]⟩
  ·by_cases e2:m=k
   ·exact ⟨i,hi,by rw [Fi hi hk,Px,e2]⟩
   ·exact ⟨m,hm,by rw [Fi hi hk,Gz _ e1 e2]⟩
theorem Nn {H:List Cd} {x:Cd} {k:Nat} (h:k<H.length):Bc (H++[x]) k=Bc H k:=by
 rw [Md (by simp;omega),Md h,List.getElem_append_left h]
theorem S9 (H:List Cd) (x:Cd):Bc (H++[x]) H.length=x:=by
 rw [Md (by simp)];simp
theorem eK {H:List Cd} (h:F1 H) (x:Cd):Qr (H++[x]) H.length:=by
 refine ⟨fun k k0 kn kj=>?_,fun j0 k k0 kn kp=>?_⟩
 ·have hk:k<H.length:=by simp at kn;omega
  have hp:=J0 k0
  rw [Nn hk,Nn (by omega)]
  exact h k k0 hk
 ·have hp:=J0 k0
  simp at kn
  omega
structure Gu (sc:Nat→Int) (n:Nat) (H:List Cd):Prop where
 heap:F1 H
 only:∀ i,i<H.length→∃ m,m<n∧Bc H i=(sc m,(m:Int))∧0≤sc m
 all:∀ m,m<n→0≤sc m→∃ i,i<H.length∧Bc H i=(sc m,(m:Int))
 le:H.length≤n
theorem Gu.start (sc:Nat→Int):Gu sc 0 []:=⟨fun k _ h=>by simp at h,fun i h=>by simp at h,fun m h=>by omega,nL⟩
theorem Gu.skip {sc:Nat→Int} {n:Nat} {H:List Cd} (h:Gu sc n H) (hs:sc n<0):Gu sc (n+1) H:=by
 refine ⟨h.heap,fun i hi=>?_,fun m hm h0=>?_,Nat.le_succ_of_le h.le⟩
 ·obtain ⟨m,hm,e⟩:=h.only i hi
  exact ⟨m,by omega,e⟩
 ·by_cases e:m=n
  ·subst e;omega
  ·exact h.all m (by omega) h0
theorem Gu.push {sc:Nat→Int} {n:Nat} {H G:List Cd} (h:Gu sc n H) (hs:0≤sc n) (hg:F1 G) (hsame:Fv (H++[(sc n,(n:Int))]) G):Gu sc (n+1) G:=by
 have hl:=hsame.1
 simp at hl
 have hle:=h.le
 refine ⟨hg,fun i hi=>?_,fun m hm h0=>?_,by omega⟩
 ·obtain ⟨j,hj,e⟩:=hsame.2.1 i (by simp;omega)
  rw [e]
  simp at hj
  by_cases ej:j=H.length
  ·subst ej
   rw [S9]
   exact ⟨n,by omega,rfl,hs⟩
  ·rw [Nn (show j<H.length by omega)]
   obtain ⟨m,hm,e2⟩:=h.only j (by omega)
   exact ⟨m,by omega,e2⟩
 ·by_cases e:m=n
  ·subst e
   obtain ⟨i,hi,e2⟩:=hsame.2.2 H.length (by simp)
   rw [S9] at e2
   exact ⟨i,by simp at hi;omega,e2⟩
  ·obtain ⟨j,hj,e2⟩:=h.all m (by omega) h0
   obtain ⟨i,hi,e3⟩:=hsame.2.2 j (by simp;omega)
   rw [Nn hj] at e3
   exact ⟨i,by simp at hi;omega,e3.trans e2⟩
def Io (sc:Nat→Int) (n:Nat) (x:Int):Prop:=(x = -1∧∀ k,k<n→sc k<0)∨∃ i:Nat,i<n∧x=(i:Int)∧0≤sc i∧∀ k,k<n→0≤sc k→(sc i<sc k∨(sc i=sc k∧i≤k))
theorem kD {sc:Nat→Int} {n:Nat} {x y:Int} (h:Io sc n x) (g:Io sc n y):x=y:=by
 rcases h with ⟨rfl,h⟩ | ⟨i,hi,rfl,hs,h⟩
 ·rcases g with ⟨rfl,_⟩ | ⟨k,hk,rfl,gs,_⟩
  ·rfl
  ·have:=h k hk;omega
 ·rcases g with ⟨rfl,g⟩ | ⟨k,hk,rfl,gs,g⟩
  ·have:=g i hi;omega
  ·have h1:=h k hk gs
   have h2:=g i hi hs
   omega
theorem fB {sc:Nat→Int} {n:Nat} {H:List Cd} (h:Gu sc n H) (h0:H.length=0):Io sc n (-1):=by
 refine .inl ⟨rfl,fun k hk=>?_⟩
 by_cases e:sc k<0
 ·exact e
 ·obtain ⟨i,hi,_⟩:=h.all k hk (by omega)
  omega
theorem eB {sc:Nat→Int} {n:Nat} {H:List Cd} (h:Gu sc n H) (h0:0<H.length):Io sc n (Bc H 0).2:=by
 obtain ⟨m,hm,e,hs⟩:=h.only 0 h0
 refine .inr ⟨m,hm,by rw [e],hs,fun k hk ks=>?_⟩
 obtain ⟨i,hi,e2⟩:=h.all k hk ks
 have:=iO h.heap i hi
 rw [e,e2] at this
 simp only [Li,decide_eq_false_iff_not] at this
 omega
theorem gK {sc:Nat→Int} {n:Nat} {x:Int} (h:Io sc n x) (hs:sc n<0):Io sc (n+1) x:=by
 rcases h with ⟨rfl,h⟩ | ⟨i,hi,rfl,h1,h⟩
 ·exact .inl ⟨rfl,fun k hk=>by by_cases e:k=n;subst e;exact hs;exact h k (by omega)⟩
 ·exact .inr ⟨i,by omega,rfl,h1,fun k hk ks=>by by_cases e:k=n;subst e;omega;exact h k (by omega) ks⟩
theorem Yv {sc:Nat→Int} {n:Nat} (h:Io sc n (-1)) (hs:0≤sc n):Io sc (n+1) (n:Int):=by
 refine .inr ⟨n,by omega,rfl,hs,fun k hk ks=>?_⟩
 rcases h with ⟨_,h⟩ | ⟨i,_,e,_⟩
 ·by_cases e:k=n
  ·subst e;omega
  ·have:=h k (by omega);omega
 ·omega
theorem mK {sc:Nat→Int} {n i:Nat} (h:Io sc n (i:Int)) (hs:0≤sc n) (hl:sc n<sc i):Io sc (n+1) (n:Int):=by
 refine .inr ⟨n,by omega,rfl,hs,fun k hk ks=>?_⟩
 rcases h with ⟨e,_⟩ | ⟨j,hj,e,_,h⟩
 ·omega
 ·have ej:j=i:=by omega
  subst ej
  by_cases e:k=n
  ·subst e;omega
  ·have:=h k (by omega) ks;omega
theorem jH {sc:Nat→Int} {n i:Nat} (h:Io sc n (i:Int)) (hl:¬ sc n<sc i):Io sc (n+1) (i:Int):=by
 rcases h with ⟨e,_⟩ | ⟨j,hj,e,h1,h⟩
 ·omega
 ·have ej:j=i:=by omega
  subst ej
  exact .inr ⟨j,by omega,rfl,h1,fun k hk ks=>by by_cases e:k=n;subst e;omega;exact h k (by omega) ks⟩
end Go.Proofs.YtomiclakhjncbaaGreatDoor
namespace Go.Proofs.YtomiclakhjncbaaGreatDoor
open Go.RowKit Go.Proofs.Tryz
set_option maxRecDepth 100000
set_option maxHeartbeats 12800000
theorem dW (a:Int) (w:World) :
  Calls prog 147 #[.int .i64 a] w fun e w'=>e=.returned (.bool (Cb a))∧w'=w:=by
 by_cases h1:1≤a
 ·by_cases h2:a≤9999
  ·have HE:Hid (Cb a=true):=by simp [Hid,Cb,h1,h2]
   go_enter func147,ntmps147
   go_wp2;go_ret;exact ⟨Aa HE.o.symm,rfl⟩
  ·have HE:Hid (Cb a=false):=by simp [Hid,Cb,h1,h2]
   go_enter func147,ntmps147
   go_wp2;go_ret;exact ⟨Aa HE.o.symm,rfl⟩
 ·have HE:Hid (Cb a=false):=by simp [Hid,Cb];omega
  go_enter func147,ntmps147
  go_wp2;go_ret;exact ⟨Aa HE.o.symm,rfl⟩
theorem C9 {a:Int} {q:Bool} (h:Cb a=q) (w:World):Calls prog 147 #[.int .i64 a] w fun e w'=>e=.returned (.bool q)∧w'=w:=by rw [← h];exact dW a w
theorem Rd {c:Int} (w:World) (d:Int) (h:Dc c=d) (hc:(Lit.int .i64 c).wf=true):Calls prog 148 #[.int .i64 c] w fun e w'=>e=.returned (.int .i64 d)∧BW w w':=by rw [← h];exact Eb c w hc
theorem kH (a b c:Int) (w:World) :
  Calls prog 107 #[.agg #[.int .i64 a,.int .i64 b,.int .i64 c]] w fun e w'=>e=.returned (.agg #[.int .i64 a,.int .i64 b])∧BW w w':=by
 go_enter func107,ntmps107
 go_wp2
 go_returns
 refine ⟨rfl,?_⟩
 go_grown
theorem Nm (a b c m:Int) (w:World) (hc:(Lit.int .i64 c).wf=true) :
  Calls prog 313 #[.agg #[.int .i64 a,.int .i64 b,.int .i64 c,.int .i64 m]] w fun e w'=>e=.returned (.bool (Bt (a,b,c,m)))∧BW w w':=by
 have bel:Below w.heap.size w (w.alloc (.cells #[.int .i64 a,.int .i64 b,.int .i64 c,.int .i64 m] 269)):=by go_grown
 have HC:Hid _:=hc;clear hc
 cases h1:Cb a
 ·have HE:Hid (Bt (a,b,c,m)=false):=by simp [Hid,Bt,h1]
  have H1:Hid _:=h1;clear h1
  go_enter func313,ntmps313
  go_wp2_with fail
  refine (C9 H1.o _).mono ?_;rintro e w1 ⟨rfl,hw⟩;rw [hw];clear hw;go_wp2;go_ret;exact ⟨Aa HE.o.symm,bel⟩
 have H1:Hid _:=h1
 cases h2:Cb b
 ·have HE:Hid (Bt (a,b,c,m)=false):=by simp [Hid,Bt,h2]
  have H2:Hid _:=h2;clear h1 h2
  go_enter func313,ntmps313
  go_wp2_with fail
  refine (C9 H1.o _).mono ?_;rintro e w1 ⟨rfl,hw⟩;rw [hw];clear hw;go_wp2_with fail
  refine (C9 H2.o _).mono ?_;rintro e w2 ⟨rfl,hw⟩;rw [hw];clear hw;go_wp2;go_ret;exact ⟨Aa HE.o.symm,bel⟩
 have H2:Hid _:=h2
 by_cases h3:a=b
 ·have HE:Hid (Bt (a,b,c,m)=false):=by simp [Hid,Bt,h3]
  have h3':(a != b)=false:=by simpa using h3
  clear h1 h2 h3
  go_enter func313,ntmps313
  go_wp2_with fail
  refine (C9 H1.o _).mono ?_;rintro e w1 ⟨rfl,hw⟩;rw [hw];clear hw;go_wp2_with fail
  refine (C9 H2.o _).mono ?_;rintro e w2 ⟨rfl,hw⟩;rw [hw];clear hw;go_wp2;go_ret;exact ⟨Aa HE.o.symm,bel⟩
 have h3':(a != b)=true:=by simpa using h3
 have hx:∀ q:Bool,(decide (0≤Dc c) && decide (1≤m∧m≤1000000000000))=q→Bt (a,b,c,m)=q:=by
  intro q hq
  simp only [Bt,h1,h2,Bool.true_and,decide_eq_true h3]
  exact hq
 obtain ⟨d,hd⟩:∃ d,Dc c=d:=⟨_,rfl⟩;have HD:Hid _:=hd
 have HE:Hid (Bt (a,b,c,m)=(decide (0≤d) && decide (1≤m∧m≤1000000000000))):=hx _ (by rw [hd])
 clear hx hd h3 h1 h2
 go_enter func313,ntmps313
 go_wp2_with fail
 refine (C9 H1.o _).mono ?_;rintro e w1 ⟨rfl,hw⟩;rw [hw];clear hw;go_wp2_with fail
 refine (C9 H2.o _).mono ?_;rintro e w2 ⟨rfl,hw⟩;rw [hw];clear hw;go_wp2_with fail
 refine (Rd _ d HD.o HC.o).mono ?_;rintro e w3 ⟨rfl,b3⟩
 have x3:=(b3.cell (p:=⟨w.heap.size,3,none⟩) (by simp)).trans (show _=some (.int .i64 m) by simp)
 have q3:=bel.trans (b3.mono bel.size);clear b3 bel
 by_cases h4:0≤d
 ·by_cases h5:1≤m
  ·by_cases h6:m≤1000000000000
   ·have HX:Hid (Bt (a,b,c,m)=true):=by rw [Hid,HE.o];simp [h4,h5,h6]
    clear HE;go_wp2;go_ret;exact ⟨Aa HX.o.symm,q3⟩
   ·have HX:Hid (Bt (a,b,c,m)=false):=by rw [Hid,HE.o];simp [h6]
    have H6:Hid (decide (m≤1000000000000)=false):=decide_eq_false h6;clear HE;go_wp2;go_ret
    exact ⟨Aa (by rw [HX.o,H6.o]),q3⟩
  ·have HX:Hid (Bt (a,b,c,m)=false):=by rw [Hid,HE.o];simp [h5]
   clear HE;go_wp2;go_ret;exact ⟨Aa HX.o.symm,q3⟩
 ·have HX:Hid (Bt (a,b,c,m)=false):=by rw [Hid,HE.o];simp [h4]
  clear HE;go_wp2;go_ret;exact ⟨Aa HX.o.symm,q3⟩
theorem iQ (l:List UInt8):decide (0≤Lib.indexByte l 32)=l.any (fun c=>c == 32):=by
 induction l with
 | nil=>rfl
 | cons b l ih =>
  have hg:=Lib.indexByte_ge l 32
  by_cases hb:b=32
  ·have h1:(b == 32)=true:=by simp [hb]
   have h0:Lib.indexByte (b::l) 32=0:=by rw [Lib.indexByte,if_pos h1]
   rw [h0,List.any_cons,h1];rfl
  ·have h1:(b == 32)=false:=by simp [hb]
   rw [List.any_cons,h1,Bool.false_or,← ih]
   by_cases h:Lib.indexByte l 32 = -1
   ·have h0:Lib.indexByte (b::l) 32 = -1:=by rw [Lib.indexByte,if_neg (by rw [h1];decide),if_pos (by simp [h])]
    rw [h0,h]
   ·have h0:Lib.indexByte (b::l) 32=Lib.indexByte l 32+1:=by rw [Lib.indexByte,if_neg (by rw [h1];decide),if_neg (by simp [h])]
    rw [h0,decide_eq_true (show 0≤Lib.indexByte l 32+1 by omega),decide_eq_true (show 0≤Lib.indexByte l 32 by omega)]
theorem Y3 (l:List UInt8):A6 33 126 l=(A6 32 126 l && !decide (0≤Lib.indexByte l 32)):=by
 rw [iQ]
 induction l with
 | nil=>rfl
 | cons b l ih =>
  simp only [A6,List.all_cons,List.any_cons] at ih ⊢
  rw [ih]
  by_cases hb:b.toNat=32
  ·have h1:(b == 32)=true:=by
     have:b=32:=UInt8.toNat_inj.1 hb
     simp [this]
   have h2:decide (33≤b.toNat)=false:=by simp [hb]
   rw [h1,h2]
   simp
  ·have h1:(b == 32)=false:=by
     cases h:(b == 32)
     ·rfl
     ·have:b=32:=by simpa using h
      subst this;exact absurd rfl hb
   have h2:decide (33≤b.toNat)=decide (32≤b.toNat):=by
    by_cases h:33≤b.toNat
    ·rw [decide_eq_true h,decide_eq_true (show 32≤b.toNat by omega)]
    ·rw [decide_eq_false h,decide_eq_false (show ¬ 32≤b.toNat by omega)]
   rw [h1,h2,Bool.false_or]
   cases decide (32≤b.toNat) <;> cases decide (b.toNat≤126) <;> simp
theorem lU (l:List UInt8) (w:World) (hl:l.length≤1099511627776) :
  Calls prog 276 #[.string ⟨l.toArray⟩] w fun e w'=>e=.returned (.bool (Kk l))∧w'=w:=by
 by_cases h12:l.length=12
 ·have hq:((l.length:Int) == 12)=true:=by simp [h12]
  have HR:Hid (Kk l=(A6 32 126 l && !decide (0≤Lib.indexByte l 32))):=by rw [Hid,Kk,Y3,decide_eq_true h12,Bool.true_and]
  clear h12
  cases hp:A6 32 126 l
  ·go_enter func276,ntmps276
   go_wp2_with fail
   refine (Lx l _ hl).mono ?_;rintro e w1 ⟨rfl,hw⟩;subst hw;rw [hp];go_wp2;go_ret
   exact ⟨Aa (by rw [HR.o,hp];rfl),rfl⟩
  ·go_enter func276,ntmps276
   go_wp2_with fail
   refine (Lx l _ hl).mono ?_;rintro e w1 ⟨rfl,hw⟩;subst hw;rw [hp];go_wp2_with fail
   refine (strings_Contains_one ⟨l.toArray⟩ 32 _).mono ?_;rintro e w1 ⟨rfl,hw⟩;subst hw;obtain ⟨q,hqq⟩:∃ q,decide (0≤Lib.indexByte (⟨l.toArray⟩:ByteArray).data.toList 32)=q:=⟨_,rfl⟩;rw [hqq];have HQ:Hid (decide (0≤Lib.indexByte l 32)=q):=hqq;clear hqq;go_wp2;go_ret
   exact ⟨Aa (by rw [HR.o,hp,HQ.o];rfl),rfl⟩
 ·have hq:((l.length:Int) == 12)=false:=by simp;omega
  have HR:Hid (Kk l=false):=by rw [Hid,Kk,decide_eq_false h12];rfl
  clear h12
  go_enter func276,ntmps276
  go_wp2;go_ret;exact ⟨Aa HR.o.symm,rfl⟩
theorem Nd {l:List UInt8} {q:Bool} (h:Kk l=q) (w:World) (hl:l.length≤1099511627776):Calls prog 276 #[.string ⟨l.toArray⟩] w fun e w'=>e=.returned (.bool q)∧w'=w:=by rw [← h];exact lU l w hl
theorem Oi (a:Au) (w:World) (hl:a.ref.length≤1099511627776) (hc:Bf a.cur) :
  Calls prog 248 #[Fe a] w fun e w'=>e=.returned (.bool (Gy a))∧BW w w':=by
 obtain ⟨r,i,c,m,d,u⟩:=a
 simp only [Fe] at hl hc ⊢
 have HV:Hid (Gy ⟨r,i,c,m,d,u⟩=(Kk r && (Cb i && (decide (0≤Dc c) && (decide (1≤m∧m≤100000000000) && Dn d))))):=rfl
 have b0:∀ o,Below w.heap.size w (w.alloc o):=fun o=>bR.alloc nL _
 cases hr:Kk r
 ·go_enter func248,ntmps248
  go_wp2_with fail
  refine (Nd hr _ hl).mono ?_;rintro e w1 ⟨rfl,hw⟩;subst hw;go_wp2;go_ret
  exact ⟨Aa (by rw [HV.o,hr];rfl),b0 _⟩
 cases hi:Cb i
 ·go_enter func248,ntmps248
  go_wp2_with fail
  refine (Nd hr _ hl).mono ?_;rintro e w1 ⟨rfl,hw⟩;subst hw;go_wp2_with fail
  refine (C9 hi _).mono ?_;rintro e w1 ⟨rfl,hw⟩;subst hw;go_wp2;go_ret
  exact ⟨Aa (by rw [HV.o,hr,hi];rfl),b0 _⟩
 obtain ⟨W,hW⟩:∃ W,w.alloc (.cells #[.string ⟨r.toArray⟩,.int .i64 i,.int .i64 c,.int .i64 m,.int .i64 d,.bool u] 107)=W:=⟨_,rfl⟩;have bW:BW w W:=hW ▸ b0 _
 have c3:W.cell? ⟨w.heap.size,3,none⟩=some (.int .i64 m):=by rw [← hW];simp
 have c4:W.cell? ⟨w.heap.size,4,none⟩=some (.int .i64 d):=by rw [← hW];simp
 have c2:W.cell? ⟨w.heap.size,2,none⟩=some (.int .i64 c):=by rw [← hW];simp
 have lW:w.heap.size<W.heap.size:=by rw [← hW];simp
 have HW:Hid _:=hW;clear hW
 by_cases hd:0≤Dc c
 ·by_cases hm:1≤m∧m≤100000000000
  ·obtain ⟨hm1,hm2⟩:=hm
   obtain ⟨q,hq⟩:∃ q,Dn d=q:=⟨_,rfl⟩;have HQ:Hid (Dn d=q):=hq;clear hq
   have HVV:Hid (Gy ⟨r,i,c,m,d,u⟩=q):=by rw [Hid,HV.o,hr,hi,decide_eq_true hd,decide_eq_true (show 1≤m∧m≤100000000000 from ⟨hm1,hm2⟩),HQ.o];rfl
   clear HV
   go_enter func248,ntmps248
   go_wp2_with fail
   refine (Nd hr _ hl).mono ?_;rintro e w1 ⟨rfl,hw⟩;subst hw;go_wp2_with fail
   refine (C9 hi _).mono ?_;rintro e w1 ⟨rfl,hw⟩;subst hw;rw [HW.o];go_wp2_with fail
   refine (Eb c _ hc).mono ?_;rintro e w2 ⟨rfl,b2⟩;have e3:w2.cell? ⟨w.heap.size,3,none⟩=some (.int .i64 m):=(b2.cell (p:=⟨w.heap.size,3,none⟩) lW).trans c3;have e4:w2.cell? ⟨w.heap.size,4,none⟩=some (.int .i64 d):=(b2.cell (p:=⟨w.heap.size,4,none⟩) lW).trans c4;have HB:Hid (BW w w2):=bW.trans (b2.mono bW.size)
   generalize Dc c=g at hd
   clear c2 c3 c4 bW b2 HW;go_wp2_with fail
   refine (Bm d _).mono ?_;rintro e w3 ⟨rfl,hw⟩;subst hw;rw [HQ.o];go_wp2;go_ret;exact ⟨Aa HVV.o.symm,HB.o⟩
  ·have HVV:Hid (Gy ⟨r,i,c,m,d,u⟩=false):=by rw [Hid,HV.o,hr,hi,decide_eq_true hd,decide_eq_false hm];rfl
   clear HV
   go_enter func248,ntmps248
   go_wp2_with fail
   refine (Nd hr _ hl).mono ?_;rintro e w1 ⟨rfl,hw⟩;subst hw;go_wp2_with fail
   refine (C9 hi _).mono ?_;rintro e w1 ⟨rfl,hw⟩;subst hw;rw [HW.o];go_wp2_with fail
   refine (Eb c _ hc).mono ?_;rintro e w2 ⟨rfl,b2⟩;have e3:w2.cell? ⟨w.heap.size,3,none⟩=some (.int .i64 m):=(b2.cell (p:=⟨w.heap.size,3,none⟩) lW).trans c3;have HB:Hid (BW w w2):=bW.trans (b2.mono bW.size)
   generalize Dc c=g at hd
   clear c2 c3 c4 bW b2 HW
   by_cases hm1:1≤m
   ·have hm2:100000000000<m:=by omega
    clear hm;go_wp2;go_ret;exact ⟨Aa HVV.o.symm,HB.o⟩
   ·clear hm
    go_wp2;go_ret;exact ⟨Aa HVV.o.symm,HB.o⟩
 ·have HVV:Hid (Gy ⟨r,i,c,m,d,u⟩=false):=by rw [Hid,HV.o,hr,hi,decide_eq_false hd];rfl
  clear HV
  go_enter func248,ntmps248
  go_wp2_with fail
  refine (Nd hr _ hl).mono ?_;rintro e w1 ⟨rfl,hw⟩;subst hw;go_wp2_with fail
  refine (C9 hi _).mono ?_;rintro e w1 ⟨rfl,hw⟩;subst hw;rw [HW.o];go_wp2_with fail
  refine (Eb c _ hc).mono ?_;rintro e w2 ⟨rfl,b2⟩;have HB:Hid (BW w w2):=bW.trans (b2.mono bW.size)
  generalize Dc c=g at hd
  clear c2 c3 c4 bW b2 HW;go_wp2;go_ret;exact ⟨Aa HVV.o.symm,HB.o⟩
structure Jo (b:Nat) (a:Au) (u:World):Prop where
 c0:u.cell? ⟨b,0,none⟩=some (.string ⟨a.ref.toArray⟩)
 c1:u.cell? ⟨b,1,none⟩=some (.int .i64 a.iss)
 c2:u.cell? ⟨b,2,none⟩=some (.int .i64 a.cur)
 c3:u.cell? ⟨b,3,none⟩=some (.int .i64 a.am)
 c4:u.cell? ⟨b,4,none⟩=some (.int .i64 a.day)
 c5:u.cell? ⟨b,5,none⟩=some (.bool a.used)
theorem Jo.lt {b:Nat} {a:Au} {u:World} (x:Jo b a u):b<u.heap.size:=World.block_lt_of_cell? u _ x.c0
theorem Jo.below {b:Nat} {a:Au} {u u':World} (x:Jo b a u) (h:BW u u'):Jo b a u':=by
 have l:=x.lt;exact ⟨(h.cell (p:=⟨b,0,none⟩) l).trans x.c0,(h.cell (p:=⟨b,1,none⟩) l).trans x.c1,(h.cell (p:=⟨b,2,none⟩) l).trans x.c2,(h.cell (p:=⟨b,3,none⟩) l).trans x.c3,(h.cell (p:=⟨b,4,none⟩) l).trans x.c4,(h.cell (p:=⟨b,5,none⟩) l).trans x.c5⟩
theorem Jo.new (w:World) (a:Au) (t:TypeId):Jo w.heap.size a (w.alloc (.cells #[.string ⟨a.ref.toArray⟩,.int .i64 a.iss,.int .i64 a.cur,.int .i64 a.am,.int .i64 a.day,.bool a.used] t)) :=
 ⟨by simp,by simp,by simp,by simp,by simp,by simp⟩
theorem cL {x:Int} (h:(Lit.int .i64 x).wf=true):-9223372036854775808≤x∧x≤9223372036854775807:=by
 simpa [Lit.wf,IntKind.min,IntKind.max,IntKind.signed,IntKind.bits] using h
theorem Vt {a:Au} {iss cur am day:Int} (h:Xr a iss cur am day=false):Co a iss cur am day = -1:=by rw [Co,if_neg (by rw [h];decide)]
theorem Tj {a:Au} {iss cur am day:Int} (h:Xr a iss cur am day=true):Co a iss cur am day=8*Ue (am - a.am)+day - a.day:=by rw [Co,if_pos h]
theorem lP (a:Au) (iss cur am day:Int):Xr a iss cur am day=(Gy a && (!a.used && (decide (a.iss=iss) && (decide (a.cur=cur) && (E9 a day && Ia a am))))):=rfl
theorem pK (x:Int):max x (-x)=Ue x:=by unfold Ue;split <;> omega
theorem eC (a:Au) (day:Int) (w:World) (hd:0≤a.day∧a.day≤80000) (hb:day≤9223372036854775807) :
  Calls prog 279 #[Fe a,.int .i64 day] w fun e w'=>e=.returned (.bool (E9 a day))∧BW w w':=by
 obtain ⟨r,i,c,m,d,u⟩:=a
 simp only [Fe] at hd ⊢
 have b0:∀ o,Below w.heap.size w (w.alloc o):=fun o=>bR.alloc nL _
 by_cases h1:d≤day
 ·by_cases h2:day - d≤7
  ·have HV:Hid (E9 ⟨r,i,c,m,d,u⟩ day=true):=by rw [Hid,E9];exact decide_eq_true (show d≤day∧day≤d+7 by omega)
   go_enter func279,ntmps279
   go_wp2;go_ret;exact ⟨Aa HV.o.symm,b0 _⟩
  ·have HV:Hid (E9 ⟨r,i,c,m,d,u⟩ day=false):=by rw [Hid,E9];exact decide_eq_false (show ¬ (d≤day∧day≤d+7) by omega)
   go_enter func279,ntmps279
   go_wp2;go_ret;exact ⟨Aa HV.o.symm,b0 _⟩
 ·have HV:Hid (E9 ⟨r,i,c,m,d,u⟩ day=false):=by rw [Hid,E9];exact decide_eq_false (show ¬ (d≤day∧day≤d+7) by omega)
  go_enter func279,ntmps279
  go_wp2;go_ret;exact ⟨Aa HV.o.symm,b0 _⟩
theorem jN (a:Au) (am:Int) (w:World) (hd:1≤a.am∧a.am≤100000000000) :
  Calls prog 280 #[Fe a,.int .i64 am] w fun e w'=>e=.returned (.bool (Ia a am))∧BW w w':=by
 obtain ⟨r,i,c,m,d,u⟩:=a
 simp only [Fe] at hd ⊢
 have b0:∀ o,Below w.heap.size w (w.alloc o):=fun o=>bR.alloc nL _
 have hq:m.tdiv 10=m / 10:=Int.tdiv_eq_ediv_of_nonneg (by omega)
 obtain ⟨t,ht⟩:∃ t,m / 10=t:=⟨_,rfl⟩
 have ht1:0≤t∧t≤10000000000:=by omega
 have HV:Hid (Ia ⟨r,i,c,m,d,u⟩ am=decide (1≤am∧am≤m+t)):=by rw [Hid,Ia,ht]
 rw [ht] at hq
 by_cases h1:1≤am
 ·by_cases h2:am≤m+t
  ·have HW:Hid (Ia ⟨r,i,c,m,d,u⟩ am=true):=by rw [Hid,HV.o];exact decide_eq_true ⟨h1,h2⟩
   clear HV
   go_enter func280,ntmps280
   go_wp2;go_ret;exact ⟨Aa HW.o.symm,b0 _⟩
  ·have HW:Hid (Ia ⟨r,i,c,m,d,u⟩ am=false):=by rw [Hid,HV.o];exact decide_eq_false (fun h=>h2 h.2)
   clear HV
   go_enter func280,ntmps280
   go_wp2;go_ret;exact ⟨Aa HW.o.symm,b0 _⟩
 ·have HW:Hid (Ia ⟨r,i,c,m,d,u⟩ am=false):=by rw [Hid,HV.o];exact decide_eq_false (fun h=>h1 h.1)
  clear HV
  go_enter func280,ntmps280
  go_wp2;go_ret;exact ⟨Aa HW.o.symm,b0 _⟩
theorem aV (a:Au) (iss cur am day:Int) (w:World) (hl:a.ref.length≤1099511627776) (hc:Bf a.cur) (_w3:(Lit.int .i64 am).wf=true) (w4:(Lit.int .i64 day).wf=true) :
  Calls prog 251 #[Fe a,.int .i64 iss,.int .i64 cur,.int .i64 am,.int .i64 day] w fun e w'=>e=.returned (.int .i64 (Co a iss cur am day))∧BW w w':=by
 have hday:=cL w4;have HV:=lP a iss cur am day;obtain ⟨q,hq⟩:∃ q,Gy a=q:=⟨_,rfl⟩
 have HO:Hid (∀ u,Calls prog 248 #[Fe a] u fun e w'=>e=.returned (.bool q)∧BW u w'):=fun u=>by rw [← hq];exact Oi a u hl hc
 have HN:Hid (Xr a iss cur am day=false→Co a iss cur am day = -1):=Vt;have HY:Hid (Xr a iss cur am day=true→Co a iss cur am day=8*Ue (am - a.am)+day - a.day):=Tj;obtain ⟨W,hW⟩:∃ W,W=w.alloc (.cells #[.string ⟨a.ref.toArray⟩,.int .i64 a.iss,.int .i64 a.cur,.int .i64 a.am,.int .i64 a.day,.bool a.used] 107):=⟨_,rfl⟩
 have B:Jo w.heap.size a W:=by rw [hW];exact Jo.new w a _
 have HBB:Hid (Jo w.heap.size a W):=B
 have bW:BW w W:=by rw [hW];exact bR.alloc nL _
 have HBW:Hid (BW w W):=bW;clear bW _w3 w4
 cases q
 ·have HE:Hid (Co a iss cur am day = -1):=HN.o (by rw [HV,hq];rfl)
  clear HV HN HY hq HBB;obtain ⟨r,i,c,m,d,u⟩:=a;unfold Fe at HO ⊢
  simp only at hW HO ⊢
  have HW:Hid _:=hW;obtain ⟨f0,f1,f2,f3,f4,f5⟩:=B;clear hW
  go_enter func251,ntmps251
  go_upto_region 1 with fail
  rw [← HW.o];go_wp2_with fail
  refine (HO.o _).mono ?_;rintro e u1 ⟨rfl,b1⟩;have HB1:Hid (BW w u1):=next HBW.o b1;clear b1 f0 f1 f2 f3 f4 f5;go_wp2;go_ret;exact ⟨Af HE.o.symm,HB1.o⟩
 obtain ⟨-,-,-,hmm,hdd⟩:=L0 hq;have hdb:=Ei hdd
 have HT:Hid (∀ u,Calls prog 279 #[Fe a,.int .i64 day] u fun e w'=>e=.returned (.bool (E9 a day))∧BW u w'):=fun u=>eC a day u hdb hday.2
 have HS:Hid (∀ u,Calls prog 280 #[Fe a,.int .i64 am] u fun e w'=>e=.returned (.bool (Ia a am))∧BW u w'):=fun u=>jN a am u hmm
 have HTB:Hid (E9 a day=true→a.day≤day∧day≤a.day+7):=fun h=>of_decide_eq_true h
 have HSB:Hid (Ia a am=true→1≤am∧am≤a.am+a.am / 10):=fun h=>of_decide_eq_true h
 rw [hq,Bool.true_and] at HV;clear hq hdd
 cases hu:a.used
 ·rw [hu,Bool.not_false,Bool.true_and] at HV
  cases hi:(a.iss != iss)
  ·have hi':decide (a.iss=iss)=true:=decide_eq_true (by simpa using hi)
   rw [hi',Bool.true_and] at HV
   cases hcu:(a.cur != cur)
   ·have hc':decide (a.cur=cur)=true:=decide_eq_true (by simpa using hcu)
    rw [hc',Bool.true_and] at HV
    cases ht:E9 a day
    ·have HE:Hid (Co a iss cur am day = -1):=HN.o (by rw [HV,ht];rfl)
     rw [ht] at HT;clear HV HN HY ht HS HTB HSB hi' hc';obtain ⟨r,i,c,m,d,u⟩:=a;unfold Fe at HO HT ⊢
     simp only at hW HO HT hu hi hcu hmm hdb ⊢
     subst hu;have HW:Hid _:=hW;obtain ⟨f0,f1,f2,f3,f4,f5⟩:=B;clear hW
     go_enter func251,ntmps251
     go_upto_region 1 with fail
     rw [← HW.o];go_wp2_with fail
     refine (HO.o _).mono ?_;rintro e u1 ⟨rfl,b1⟩;have B1:=HBB.o.below b1;have HB1:Hid (BW w u1):=next HBW.o b1;clear b1 f0 f1 f2 f3 f4 f5;obtain ⟨f0,f1,f2,f3,f4,f5⟩:=B1
     simp only at f0 f1 f2 f3 f4 f5
     go_wp2_with fail
     refine (HT.o _).mono ?_;rintro e u2 ⟨rfl,b2⟩;have HB2:Hid (BW w u2):=next HB1.o b2;clear b2 f0 f1 f2 f3 f4 f5;go_wp2;go_ret;exact ⟨Af HE.o.symm,HB2.o⟩
    ·rw [ht,Bool.true_and] at HV
     rw [ht] at HT;have htb:=HTB.o ht
     cases hs:Ia a am
     ·have HE:Hid (Co a iss cur am day = -1):=HN.o (by rw [HV,hs])
      rw [hs] at HS;clear HV HN HY ht HTB HSB hi' hc' hs htb;obtain ⟨r,i,c,m,d,u⟩:=a;unfold Fe at HO HT HS ⊢
      simp only at hW HO HT HS hu hi hcu hmm hdb ⊢
      subst hu;have HW:Hid _:=hW;obtain ⟨f0,f1,f2,f3,f4,f5⟩:=B;clear hW
      go_enter func251,ntmps251
      go_upto_region 1 with fail
      rw [← HW.o];go_wp2_with fail
      refine (HO.o _).mono ?_;rintro e u1 ⟨rfl,b1⟩;have B1:=HBB.o.below b1;have HBB1:Hid (Jo w.heap.size ⟨r,i,c,m,d,false⟩ u1):=B1;have HB1:Hid (BW w u1):=next HBW.o b1;clear b1 f0 f1 f2 f3 f4 f5;obtain ⟨f0,f1,f2,f3,f4,f5⟩:=B1
      simp only at f0 f1 f2 f3 f4 f5
      go_wp2_with fail
      refine (HT.o _).mono ?_;rintro e u2 ⟨rfl,b2⟩;have B2:=HBB1.o.below b2;have HB2:Hid (BW w u2):=next HB1.o b2;clear b2 f0 f1 f2 f3 f4 f5;obtain ⟨f0,f1,f2,f3,f4,f5⟩:=B2
      simp only at f0 f1 f2 f3 f4 f5
      go_wp2_with fail
      refine (HS.o _).mono ?_;rintro e u3 ⟨rfl,b3⟩;have HB3:Hid (BW w u3):=next HB2.o b3;clear b3 f0 f1 f2 f3 f4 f5;go_wp2;go_ret;exact ⟨Af HE.o.symm,HB3.o⟩
     ·have hsb:=HSB.o hs
      have HE:Hid (Co a iss cur am day=8*max (am - a.am) (-(am - a.am))+day - a.day):=by rw [Hid,HY.o (by rw [HV,hs]),pK]
      rw [hs] at HS
      have hmx:0≤max (am - a.am) (-(am - a.am))∧max (am - a.am) (-(am - a.am))≤100000000000:=by omega
      clear HV HN HY ht HTB HSB hi' hc' hs;obtain ⟨r,i,c,m,d,u⟩:=a;unfold Fe at HO HT HS ⊢
      simp only at hW HO HT HS hu hi hcu hmm hdb htb hsb HE hmx ⊢
      subst hu;have HW:Hid _:=hW;obtain ⟨f0,f1,f2,f3,f4,f5⟩:=B;clear hW
      go_enter func251,ntmps251
      go_upto_region 1 with fail
      rw [← HW.o];go_wp2_with fail
      refine (HO.o _).mono ?_;rintro e u1 ⟨rfl,b1⟩;have B1:=HBB.o.below b1;have HBB1:Hid (Jo w.heap.size ⟨r,i,c,m,d,false⟩ u1):=B1;have HB1:Hid (BW w u1):=next HBW.o b1;clear b1 f0 f1 f2 f3 f4 f5;obtain ⟨f0,f1,f2,f3,f4,f5⟩:=B1
      simp only at f0 f1 f2 f3 f4 f5
      go_wp2_with fail
      refine (HT.o _).mono ?_;rintro e u2 ⟨rfl,b2⟩;have B2:=HBB1.o.below b2;have HBB2:Hid (Jo w.heap.size ⟨r,i,c,m,d,false⟩ u2):=B2;have HB2:Hid (BW w u2):=next HB1.o b2;clear b2 f0 f1 f2 f3 f4 f5;obtain ⟨f0,f1,f2,f3,f4,f5⟩:=B2
      simp only at f0 f1 f2 f3 f4 f5
      go_wp2_with fail
      refine (HS.o _).mono ?_;rintro e u3 ⟨rfl,b3⟩;have B3:=HBB2.o.below b3;have HB3:Hid (BW w u3):=next HB2.o b3;clear b3 f0 f1 f2 f3 f4 f5;obtain ⟨f0,f1,f2,f3,f4,f5⟩:=B3
      simp only at f0 f1 f2 f3 f4 f5
      go_wp2;go_ret;exact ⟨Af HE.o.symm,HB3.o⟩
   ·have hc':decide (a.cur=cur)=false:=decide_eq_false (by simpa using hcu)
    have HE:Hid (Co a iss cur am day = -1):=HN.o (by rw [HV,hc'];rfl)
    clear HV HN HY HT HS HTB HSB hi' hc';obtain ⟨r,i,c,m,d,u⟩:=a;unfold Fe at HO ⊢
    simp only at hW HO hu hi hcu hmm hdb ⊢
    subst hu;have HW:Hid _:=hW;obtain ⟨f0,f1,f2,f3,f4,f5⟩:=B;clear hW
    go_enter func251,ntmps251
    go_upto_region 1 with fail
    rw [← HW.o];go_wp2_with fail
    refine (HO.o _).mono ?_;rintro e u1 ⟨rfl,b1⟩;have B1:=HBB.o.below b1;have HB1:Hid (BW w u1):=next HBW.o b1;clear b1 f0 f1 f2 f3 f4 f5;obtain ⟨f0,f1,f2,f3,f4,f5⟩:=B1
    simp only at f0 f1 f2 f3 f4 f5
    go_wp2;go_ret;exact ⟨Af HE.o.symm,HB1.o⟩
  ·have hi':decide (a.iss=iss)=false:=decide_eq_false (by simpa using hi)
   have HE:Hid (Co a iss cur am day = -1):=HN.o (by rw [HV,hi'];rfl)
   clear HV HN HY HT HS HTB HSB hi';obtain ⟨r,i,c,m,d,u⟩:=a;unfold Fe at HO ⊢
   simp only at hW HO hu hi hmm hdb ⊢
   subst hu;have HW:Hid _:=hW;obtain ⟨f0,f1,f2,f3,f4,f5⟩:=B;clear hW
   go_enter func251,ntmps251
   go_upto_region 1 with fail
   rw [← HW.o];go_wp2_with fail
   refine (HO.o _).mono ?_;rintro e u1 ⟨rfl,b1⟩;have B1:=HBB.o.below b1;have HB1:Hid (BW w u1):=next HBW.o b1;clear b1 f0 f1 f2 f3 f4 f5;obtain ⟨f0,f1,f2,f3,f4,f5⟩:=B1
   simp only at f0 f1 f2 f3 f4 f5
   go_wp2;go_ret;exact ⟨Af HE.o.symm,HB1.o⟩
 ·have HE:Hid (Co a iss cur am day = -1):=HN.o (by rw [HV,hu];rfl)
  clear HV HN HY HT HS HTB HSB;obtain ⟨r,i,c,m,d,u⟩:=a;unfold Fe at HO ⊢
  simp only at hW HO hu hmm hdb ⊢
  subst hu;have HW:Hid _:=hW;obtain ⟨f0,f1,f2,f3,f4,f5⟩:=B;clear hW
  go_enter func251,ntmps251
  go_upto_region 1 with fail
  rw [← HW.o];go_wp2_with fail
  refine (HO.o _).mono ?_;rintro e u1 ⟨rfl,b1⟩;have B1:=HBB.o.below b1;have HB1:Hid (BW w u1):=next HBW.o b1;clear b1 f0 f1 f2 f3 f4 f5;obtain ⟨f0,f1,f2,f3,f4,f5⟩:=B1
  simp only at f0 f1 f2 f3 f4 f5
  go_wp2;go_ret;exact ⟨Af HE.o.symm,HB1.o⟩
theorem T7 {x a b:Int} {q:Bool} (h:Gk x a b=q) (w:World):Calls prog 134 #[.int .i64 x,.int .i64 a,.int .i64 b] w fun e w'=>e=.returned (.bool q)∧w'=w:=by rw [← h];exact Dl x a b w
theorem Pe (a:Au) (w:World) (hl:a.ref.length≤1099511627776) :
  Calls prog 179 #[Fe a] w fun e w'=>e=.returned (.bool (Gy a))∧BW w w':=by
 obtain ⟨r,i,c,m,d,u⟩:=a
 simp only [Fe] at hl ⊢
 have HV:Hid (Gy ⟨r,i,c,m,d,u⟩=((decide (r.length=12) && A6 33 126 r) && (Cb i && (decide (0≤Dc c) && (decide (1≤m∧m≤100000000000) && Dn d))))):=rfl;obtain ⟨W,hW⟩:∃ W,w.alloc (.cells #[.string ⟨r.toArray⟩,.int .i64 i,.int .i64 c,.int .i64 m,.int .i64 d,.bool u] 107)=W:=⟨_,rfl⟩;have bW:BW w W:=hW ▸ bR.alloc nL _;have HBW:Hid (BW w W):=bW
 have c0:W.cell? ⟨w.heap.size,0,none⟩=some (.string ⟨r.toArray⟩):=by rw [← hW];simp
 have c1:W.cell? ⟨w.heap.size,1,none⟩=some (.int .i64 i):=by rw [← hW];simp
 have c2:W.cell? ⟨w.heap.size,2,none⟩=some (.int .i64 c):=by rw [← hW];simp
 have c3:W.cell? ⟨w.heap.size,3,none⟩=some (.int .i64 m):=by rw [← hW];simp
 have c4:W.cell? ⟨w.heap.size,4,none⟩=some (.int .i64 d):=by rw [← hW];simp
 have lW:w.heap.size<W.heap.size:=by rw [← hW];simp
 have HW:Hid _:=hW;clear hW bW
 go_enter func179,ntmps179
 go_wp2;rw [HW.o];clear HW
 go_loopw [3] (fun i wr=>∃ k:Nat,k≤r.length∧i=.int .i64 k∧A6 33 126 r=A6 33 126 (r.drop k)∧wr=W) (fun i _=>r.length - (intOf i).toNat)
 case atStart=>exact ⟨0,Nat.zero_le _,rfl,rfl,rfl⟩
 case round =>
  obtain ⟨k,hk,rfl,ht,hwr⟩:=hrel;subst hwr
  by_cases hlt:k<r.length
  ·have hki:(k:Int)<(r.length:Int):=by omega
   have hs:=Ic 33 126 r k hlt
   obtain ⟨b,hb⟩:∃ b,(⟨r.toArray⟩:ByteArray)[k]'(by rw [Fo];exact hlt)=b:=⟨_,rfl⟩
   rw [(Je r k hlt).trans hb,← Uu b 33 126] at hs;have HS:Hid _:=ht.trans hs;have hwc:=Su b;clear hs ht
   cases hin:Gk (b.toNat:Int) 33 126
   ·have HN:Hid (A6 33 126 r=false):=by rw [Hid,HS.o];simp [hin]
    clear HS;go_wp2_with fail
    refine (T7 hin _).mono ?_;rintro e w1 ⟨rfl,hw1⟩;subst hw1;go_wp2;go_ret
    exact ⟨Aa (by rw [HV.o,HN.o];simp),HBW.o⟩
   ·have HY:Hid (A6 33 126 r=A6 33 126 (r.drop (k+1))):=by rw [Hid,HS.o];simp [hin]
    clear HS;go_wp2_with fail
    refine (T7 hin _).mono ?_;rintro e w1 ⟨rfl,hw1⟩;subst hw1;go_wp2
    go_roundw
    case rel=>exact ⟨k+1,by omega,by go_num,HY.o,trivial⟩
    case measure=>simp [intOf];omega
  ·have hke:k=r.length:=by omega
   subst hke
   have HE:Hid (A6 33 126 r=true):=by rw [Hid,ht,I9]
   clear ht
   by_cases h12:r.length=12
   ·have hq:((r.length:Int) == 12)=true:=by simp [h12]
    have HV1:Hid (Gy ⟨r,i,c,m,d,u⟩=(Cb i && (decide (0≤Dc c) && (decide (1≤m∧m≤100000000000) && Dn d)))):=by rw [Hid,HV.o,HE.o,decide_eq_true h12];rfl
    clear h12 HV HE
    cases hi:Cb i
    ·go_wp2_with fail
     refine (Do hi _).mono ?_;rintro e w1 ⟨rfl,hw1⟩;subst hw1;go_wp2;go_ret
     exact ⟨Aa (by rw [HV1.o,hi];rfl),HBW.o⟩
    ·go_wp2_with fail
     refine (Do hi _).mono ?_;rintro e w1 ⟨rfl,hw1⟩;subst hw1;go_wp2_with fail
     refine (Ga c _).mono ?_;rintro e w2 ⟨rfl,b2⟩;have e3:w2.cell? ⟨w.heap.size,3,none⟩=some (.int .i64 m):=(b2.cell (p:=⟨w.heap.size,3,none⟩) lW).trans c3;have e4:w2.cell? ⟨w.heap.size,4,none⟩=some (.int .i64 d):=(b2.cell (p:=⟨w.heap.size,4,none⟩) lW).trans c4;have HB:Hid (BW w w2):=HBW.o.trans (b2.mono HBW.o.size);rw [hi] at HV1;clear c0 c1 c2 c3 c4 b2 HBW
     by_cases hd:0≤Dc c
     ·cases hin:Gk m 1 100000000000
      ·have HVV:Hid (Gy ⟨r,i,c,m,d,u⟩=false):=by
         have:decide (1≤m∧m≤100000000000)=false:=hin
         rw [Hid,HV1.o,decide_eq_true hd,this];rfl
       clear HV1
       generalize Dc c=g at hd
       go_wp2_with fail
       refine (T7 hin _).mono ?_;rintro e w3 ⟨rfl,hw3⟩;subst hw3;go_wp2;go_ret;exact ⟨Aa HVV.o.symm,HB.o⟩
      ·have HVV:Hid (Gy ⟨r,i,c,m,d,u⟩=Dn d):=by
         have:decide (1≤m∧m≤100000000000)=true:=hin
         rw [Hid,HV1.o,decide_eq_true hd,this];rfl
       clear HV1
       generalize Dc c=g at hd
       go_wp2_with fail
       refine (T7 hin _).mono ?_;rintro e w3 ⟨rfl,hw3⟩;subst hw3;go_wp2_with fail
       refine (A9 d _).mono ?_;rintro e w3 ⟨rfl,hw3⟩;subst hw3
       generalize Dn d=q at HVV
       go_wp2;go_ret;exact ⟨Aa HVV.o.symm,HB.o⟩
     ·have HVV:Hid (Gy ⟨r,i,c,m,d,u⟩=false):=by rw [Hid,HV1.o,decide_eq_false hd];rfl
      clear HV1
      generalize Dc c=g at hd
      go_wp2;go_ret;exact ⟨Aa HVV.o.symm,HB.o⟩
   ·have hq:((r.length:Int) == 12)=false:=by simp;omega
    have HV1:Hid (Gy ⟨r,i,c,m,d,u⟩=false):=by rw [Hid,HV.o,decide_eq_false h12];rfl
    clear h12 HV HE;go_wp2;go_ret;exact ⟨Aa HV1.o.symm,HBW.o⟩
theorem X6 (a:Au) (iss cur am day:Int) (w:World) (hl:a.ref.length≤1099511627776) (_w3:(Lit.int .i64 am).wf=true) (w4:(Lit.int .i64 day).wf=true) :
  Calls prog 218 #[Fe a,.int .i64 iss,.int .i64 cur,.int .i64 am,.int .i64 day] w fun e w'=>e=.returned (.int .i64 (Co a iss cur am day))∧BW w w':=by
 have hday:=cL w4;have HV:=lP a iss cur am day;obtain ⟨q,hq⟩:∃ q,Gy a=q:=⟨_,rfl⟩
 have HO:Hid (∀ u,Calls prog 179 #[Fe a] u fun e w'=>e=.returned (.bool q)∧BW u w'):=fun u=>by rw [← hq];exact Pe a u hl
 have HN:Hid (Xr a iss cur am day=false→Co a iss cur am day = -1):=Vt;have HY:Hid (Xr a iss cur am day=true→Co a iss cur am day=8*Ue (am - a.am)+day - a.day):=Tj;obtain ⟨W,hW⟩:∃ W,W=w.alloc (.cells #[.string ⟨a.ref.toArray⟩,.int .i64 a.iss,.int .i64 a.cur,.int .i64 a.am,.int .i64 a.day,.bool a.used] 107):=⟨_,rfl⟩
 have B:Jo w.heap.size a W:=by rw [hW];exact Jo.new w a _
 have HBB:Hid (Jo w.heap.size a W):=B
 have bW:BW w W:=by rw [hW];exact bR.alloc nL _
 have HBW:Hid (BW w W):=bW;clear bW _w3 w4
 cases q
 ·have HE:Hid (Co a iss cur am day = -1):=HN.o (by rw [HV,hq];rfl)
  clear HV HN HY hq;obtain ⟨r,i,c,m,d,u⟩:=a;unfold Fe at HO ⊢
  simp only at hW HO  ⊢
  have HW:Hid _:=hW;obtain ⟨f0,f1,f2,f3,f4,f5⟩:=B;clear hW
  go_enter func218,ntmps218
  go_upto_region 1 with fail
  rw [← HW.o];go_wp2_with fail
  refine (HO.o _).mono ?_;rintro e u1 ⟨rfl,b1⟩;have B1:=HBB.o.below b1;have HB1:Hid (BW w u1):=next HBW.o b1;clear b1 f0 f1 f2 f3 f4 f5;obtain ⟨f0,f1,f2,f3,f4,f5⟩:=B1
  simp only at f0 f1 f2 f3 f4 f5
  go_wp2;go_ret;exact ⟨Af HE.o.symm,HB1.o⟩
 obtain ⟨-,-,-,hmm,hdd⟩:=L0 hq;have hdb:=Ei hdd
 have HTB:Hid (E9 a day=true→a.day≤day∧day≤a.day+7):=fun h=>of_decide_eq_true h
 have HSB:Hid (Ia a am=true→1≤am∧am≤a.am+a.am / 10):=fun h=>of_decide_eq_true h
 have HT:Hid (∀ u,Calls prog 134 #[.int .i64 day,.int .i64 a.day,.int .i64 (a.day+7)] u fun e w'=>e=.returned (.bool (E9 a day))∧w'=u):=fun u=>Dl day a.day (a.day+7) u
 have HS:Hid (∀ u,Calls prog 134 #[.int .i64 am,.int .i64 1,.int .i64 (a.am+a.am / 10)] u fun e w'=>e=.returned (.bool (Ia a am))∧w'=u):=fun u=>Dl am 1 (a.am+a.am / 10) u
 have hq10:a.am.tdiv 10=a.am / 10:=Int.tdiv_eq_ediv_of_nonneg (by omega)
 rw [hq,Bool.true_and] at HV;clear hq hdd
 cases hu:a.used
 ·rw [hu,Bool.not_false,Bool.true_and] at HV
  cases hi:(a.iss != iss)
  ·have hi':decide (a.iss=iss)=true:=decide_eq_true (by simpa using hi)
   rw [hi',Bool.true_and] at HV
   cases hcu:(a.cur != cur)
   ·have hc':decide (a.cur=cur)=true:=decide_eq_true (by simpa using hcu)
    rw [hc',Bool.true_and] at HV
    cases ht:E9 a day
    ·have HE:Hid (Co a iss cur am day = -1):=HN.o (by rw [HV,ht];rfl)
     rw [ht] at HT;clear HV HN HY ht HS HTB HSB hi' hc' hq10;obtain ⟨r,i,c,m,d,u⟩:=a;unfold Fe at HO ⊢
     simp only at hW HO HT hu hi hcu hmm hdb ⊢
     subst hu;have HW:Hid _:=hW;obtain ⟨f0,f1,f2,f3,f4,f5⟩:=B;clear hW
     go_enter func218,ntmps218
     go_upto_region 1 with fail
     rw [← HW.o];go_wp2_with fail
     refine (HO.o _).mono ?_;rintro e u1 ⟨rfl,b1⟩;have B1:=HBB.o.below b1;have HB1:Hid (BW w u1):=next HBW.o b1;clear b1 f0 f1 f2 f3 f4 f5;obtain ⟨f0,f1,f2,f3,f4,f5⟩:=B1
     simp only at f0 f1 f2 f3 f4 f5
     go_wp2_with fail
     refine (HT.o _).mono ?_;rintro e u2 ⟨rfl,hu2⟩;subst hu2;go_wp2;go_ret;exact ⟨Af HE.o.symm,HB1.o⟩
    ·rw [ht,Bool.true_and] at HV
     rw [ht] at HT;have htb:=HTB.o ht
     cases hs:Ia a am
     ·have HE:Hid (Co a iss cur am day = -1):=HN.o (by rw [HV,hs])
      rw [hs] at HS;clear HV HN HY ht HTB HSB hi' hc' hs htb;obtain ⟨tt,htt⟩:∃ t,a.am / 10=t:=⟨_,rfl⟩
      have ht1:0≤tt∧tt≤10000000000:=by omega
      rw [htt] at HS hq10;clear htt;obtain ⟨r,i,c,m,d,u⟩:=a;unfold Fe at HO ⊢
      simp only at hW HO HT HS hu hi hcu hmm hdb hq10 ⊢
      subst hu;have HW:Hid _:=hW;obtain ⟨f0,f1,f2,f3,f4,f5⟩:=B;clear hW
      go_enter func218,ntmps218
      go_upto_region 1 with fail
      rw [← HW.o];go_wp2_with fail
      refine (HO.o _).mono ?_;rintro e u1 ⟨rfl,b1⟩;have B1:=HBB.o.below b1;have HB1:Hid (BW w u1):=next HBW.o b1;clear b1 f0 f1 f2 f3 f4 f5;obtain ⟨f0,f1,f2,f3,f4,f5⟩:=B1
      simp only at f0 f1 f2 f3 f4 f5
      go_wp2_with fail
      refine (HT.o _).mono ?_;rintro e u2 ⟨rfl,hu2⟩;subst hu2;go_wp2_with fail
      refine (HS.o _).mono ?_;rintro e u2 ⟨rfl,hu2⟩;subst hu2;go_wp2;go_ret;exact ⟨Af HE.o.symm,HB1.o⟩
     ·have hsb:=HSB.o hs
      rw [hs] at HS
      have HEE:Hid (Co a iss cur am day=8*Ue (am - a.am)+day - a.day):=by rw [Hid,HY.o (by rw [HV,hs])]
      clear HV HN HY ht HTB HSB hi' hc' hs;obtain ⟨tt,htt⟩:∃ t,a.am / 10=t:=⟨_,rfl⟩
      have ht1:0≤tt∧tt≤10000000000:=by omega
      rw [htt] at HS hq10 hsb;clear htt
      by_cases hng:am - a.am<0
      ·have HE:Hid (Co a iss cur am day=8 * (-(am - a.am))+day - a.day):=by rw [Hid,HEE.o,Ue,if_pos hng]
       clear HEE;obtain ⟨r,i,c,m,d,u⟩:=a;unfold Fe at HO ⊢
       simp only at hW HO HT HS HE hu hi hcu hmm hdb htb hsb hq10 hng ⊢
       subst hu;have HW:Hid _:=hW;obtain ⟨f0,f1,f2,f3,f4,f5⟩:=B;clear hW
       go_enter func218,ntmps218
       go_upto_region 1 with fail
       rw [← HW.o];go_wp2_with fail
       refine (HO.o _).mono ?_;rintro e u1 ⟨rfl,b1⟩;have B1:=HBB.o.below b1;have HB1:Hid (BW w u1):=next HBW.o b1;clear b1 f0 f1 f2 f3 f4 f5;obtain ⟨f0,f1,f2,f3,f4,f5⟩:=B1
       simp only at f0 f1 f2 f3 f4 f5
       go_wp2_with fail
       refine (HT.o _).mono ?_;rintro e u2 ⟨rfl,hu2⟩;subst hu2;go_wp2_with fail
       refine (HS.o _).mono ?_;rintro e u2 ⟨rfl,hu2⟩;subst hu2;go_wp2;go_ret;exact ⟨Af HE.o.symm,HB1.o⟩
      ·have HE:Hid (Co a iss cur am day=8 * (am - a.am)+day - a.day):=by rw [Hid,HEE.o,Ue,if_neg hng]
       clear HEE;obtain ⟨r,i,c,m,d,u⟩:=a;unfold Fe at HO ⊢
       simp only at hW HO HT HS HE hu hi hcu hmm hdb htb hsb hq10 hng ⊢
       subst hu;have HW:Hid _:=hW;obtain ⟨f0,f1,f2,f3,f4,f5⟩:=B;clear hW
       go_enter func218,ntmps218
       go_upto_region 1 with fail
       rw [← HW.o];go_wp2_with fail
       refine (HO.o _).mono ?_;rintro e u1 ⟨rfl,b1⟩;have B1:=HBB.o.below b1;have HB1:Hid (BW w u1):=next HBW.o b1;clear b1 f0 f1 f2 f3 f4 f5;obtain ⟨f0,f1,f2,f3,f4,f5⟩:=B1
       simp only at f0 f1 f2 f3 f4 f5
       go_wp2_with fail
       refine (HT.o _).mono ?_;rintro e u2 ⟨rfl,hu2⟩;subst hu2;go_wp2_with fail
       refine (HS.o _).mono ?_;rintro e u2 ⟨rfl,hu2⟩;subst hu2;go_wp2;go_ret;exact ⟨Af HE.o.symm,HB1.o⟩
   ·have hc':decide (a.cur=cur)=false:=decide_eq_false (by simpa using hcu)
    have HE:Hid (Co a iss cur am day = -1):=HN.o (by rw [HV,hc'];rfl)
    clear HV HN HY HT HS HTB HSB hi' hc' hq10;obtain ⟨r,i,c,m,d,u⟩:=a;unfold Fe at HO ⊢
    simp only at hW HO hu hi hcu hmm hdb ⊢
    subst hu;have HW:Hid _:=hW;obtain ⟨f0,f1,f2,f3,f4,f5⟩:=B;clear hW
    go_enter func218,ntmps218
    go_upto_region 1 with fail
    rw [← HW.o];go_wp2_with fail
    refine (HO.o _).mono ?_;rintro e u1 ⟨rfl,b1⟩;have B1:=HBB.o.below b1;have HB1:Hid (BW w u1):=next HBW.o b1;clear b1 f0 f1 f2 f3 f4 f5;obtain ⟨f0,f1,f2,f3,f4,f5⟩:=B1
    simp only at f0 f1 f2 f3 f4 f5
    go_wp2;go_ret;exact ⟨Af HE.o.symm,HB1.o⟩
  ·have hi':decide (a.iss=iss)=false:=decide_eq_false (by simpa using hi)
   have HE:Hid (Co a iss cur am day = -1):=HN.o (by rw [HV,hi'];rfl)
   clear HV HN HY HT HS HTB HSB hi' hq10;obtain ⟨r,i,c,m,d,u⟩:=a;unfold Fe at HO ⊢
   simp only at hW HO hu hi hmm hdb ⊢
   subst hu;have HW:Hid _:=hW;obtain ⟨f0,f1,f2,f3,f4,f5⟩:=B;clear hW
   go_enter func218,ntmps218
   go_upto_region 1 with fail
   rw [← HW.o];go_wp2_with fail
   refine (HO.o _).mono ?_;rintro e u1 ⟨rfl,b1⟩;have B1:=HBB.o.below b1;have HB1:Hid (BW w u1):=next HBW.o b1;clear b1 f0 f1 f2 f3 f4 f5;obtain ⟨f0,f1,f2,f3,f4,f5⟩:=B1
   simp only at f0 f1 f2 f3 f4 f5
   go_wp2;go_ret;exact ⟨Af HE.o.symm,HB1.o⟩
 ·have HE:Hid (Co a iss cur am day = -1):=HN.o (by rw [HV,hu];rfl)
  clear HV HN HY HT HS HTB HSB hq10;obtain ⟨r,i,c,m,d,u⟩:=a;unfold Fe at HO ⊢
  simp only at hW HO hu hmm hdb ⊢
  subst hu;have HW:Hid _:=hW;obtain ⟨f0,f1,f2,f3,f4,f5⟩:=B;clear hW
  go_enter func218,ntmps218
  go_upto_region 1 with fail
  rw [← HW.o];go_wp2_with fail
  refine (HO.o _).mono ?_;rintro e u1 ⟨rfl,b1⟩;have B1:=HBB.o.below b1;have HB1:Hid (BW w u1):=next HBW.o b1;clear b1 f0 f1 f2 f3 f4 f5;obtain ⟨f0,f1,f2,f3,f4,f5⟩:=B1
  simp only at f0 f1 f2 f3 f4 f5
  go_wp2;go_ret;exact ⟨Af HE.o.symm,HB1.o⟩
def scA (az:List Au) (iss cur am day:Int) (k:Nat):Int:=Co (Ak az k) iss cur am day
def Gm (az:List Au) (iss cur am day x:Int):Prop:=(az.length≤100∧Io (scA az iss cur am day) az.length x)∨(100<az.length∧x = -1)
theorem Zr {az:List Au} {iss cur am day x y:Int} (h:Gm az iss cur am day x) (g:Gm az iss cur am day y):x=y:=by
 rcases h with ⟨h1,h⟩ | ⟨h1,rfl⟩
 ·rcases g with ⟨_,g⟩ | ⟨g1,_⟩
  ·exact kD h g
  ·omega
 ·rcases g with ⟨g1,_⟩ | ⟨_,rfl⟩
  ·omega
  ·rfl
theorem eR (ao:Option Addr) (cap:Nat) (az:List Au) (iss cur am day:Int) (w:World) (hz:Ar w ao az) (hn:az.length≤1048576) (hd:∀ a ∈ az,a.ref.length≤1099511627776) (w3:(Lit.int .i64 am).wf=true) (w4:(Lit.int .i64 day).wf=true) :
  Calls prog 180 #[.slice ao az.length cap,.int .i64 iss,.int .i64 cur,.int .i64 am,.int .i64 day] w fun e w'=>∃ x,e=.returned (.int .i64 x)∧Gm az iss cur am day x∧BW w w':=by
 by_cases hb:100<az.length
 ·have hb':(100:Int)<(az.length:Int):=by omega
  have h0:(0:Int)<(az.length:Int):=by omega
  go_enter func180,ntmps180
  go_wp2;refine wp_loop_rounds 1 ?_;rw [rounds_succ];go_wp2;go_ret;exact ⟨_,rfl,.inr ⟨hb,rfl⟩,bR⟩
 have hb':(az.length:Int)≤100:=by omega
 have HSC:Hid (∀ k,k<az.length→∀ u,Calls prog 218 #[Fe (Ak az k),.int .i64 iss,.int .i64 cur,.int .i64 am,.int .i64 day] u fun e w'=>e=.returned (.int .i64 (scA az iss cur am day k))∧BW u w'):=fun k hk u=>X6 _ iss cur am day u (hd _ (J8 hk)) w3 w4
 obtain ⟨sc,hsc⟩:∃ f,scA az iss cur am day=f:=⟨_,rfl⟩
 have HBA:Hid (∀ x,Io sc az.length x→Gm az iss cur am day x):=fun x hx=>.inl ⟨by omega,by rw [hsc];exact hx⟩
 rw [hsc] at HSC;clear hsc hd w3 w4
 go_enter func180,ntmps180
 go_wp2
 go_loopw [11,12,13,14] (fun b t i _ wr=>∃ (k:Nat) (x y:Int),k≤az.length∧i=.int .i64 k∧t=.int .i64 x∧b=.int .i64 y∧Io sc k x∧(x = -1∨∃ j:Nat,x=(j:Int)∧y=sc j)∧BW w wr) (fun _ _ i _ _=>az.length - (intOf i).toNat)
 case atStart=>exact ⟨0,-1,-1,Nat.zero_le _,rfl,rfl,rfl,.inl ⟨rfl,fun k hk=>by omega⟩,.inl rfl,bR⟩
 case round =>
  obtain ⟨k,x,y,hk,rfl,rfl,rfl,hbest,hxy,hbr⟩:=hrel;have HBE:Hid (Io sc k x):=hbest;have HB:Hid (BW w wr):=hbr;have HXY:Hid (x = -1∨∃ j:Nat,x=(j:Int)∧y=sc j):=hxy;clear hbest hxy
  by_cases hlt:k<az.length
  ·rcases hz with h0 | ⟨b,off,rfl,hbz,hcell⟩
   ·rw [h0] at hlt;simp at hlt
   have HCL:Hid (∀ i,i<az.length→w.cell? ⟨b,off+i*6,none⟩=some (.string ⟨(Ak az i).ref.toArray⟩)∧w.cell? ⟨b,off+i*6+1,none⟩=some (.int .i64 (Ak az i).iss)∧w.cell? ⟨b,off+i*6+2,none⟩=some (.int .i64 (Ak az i).cur)∧w.cell? ⟨b,off+i*6+3,none⟩=some (.int .i64 (Ak az i).am)∧w.cell? ⟨b,off+i*6+4,none⟩=some (.int .i64 (Ak az i).day)∧w.cell? ⟨b,off+i*6+5,none⟩=some (.bool (Ak az i).used)):=hcell;have x0:wr.cell? ⟨b,off+k*6,none⟩=some (.string ⟨(Ak az k).ref.toArray⟩):=(hbr.cell (p:=⟨b,off+k*6,none⟩) hbz).trans (HCL.o k hlt).1;have x1:wr.cell? ⟨b,off+k*6+1,none⟩=some (.int .i64 (Ak az k).iss):=(hbr.cell (p:=⟨b,off+k*6+1,none⟩) hbz).trans (HCL.o k hlt).2.1;have x2:wr.cell? ⟨b,off+k*6+2,none⟩=some (.int .i64 (Ak az k).cur):=(hbr.cell (p:=⟨b,off+k*6+2,none⟩) hbz).trans (HCL.o k hlt).2.2.1;have x3:wr.cell? ⟨b,off+k*6+3,none⟩=some (.int .i64 (Ak az k).am):=(hbr.cell (p:=⟨b,off+k*6+3,none⟩) hbz).trans (HCL.o k hlt).2.2.2.1;have x4:wr.cell? ⟨b,off+k*6+4,none⟩=some (.int .i64 (Ak az k).day):=(hbr.cell (p:=⟨b,off+k*6+4,none⟩) hbz).trans (HCL.o k hlt).2.2.2.2.1;have x5:wr.cell? ⟨b,off+k*6+5,none⟩=some (.bool (Ak az k).used):=(hbr.cell (p:=⟨b,off+k*6+5,none⟩) hbz).trans (HCL.o k hlt).2.2.2.2.2
   have hki:(k:Int)<(az.length:Int):=by omega
   have HSK:Hid (∀ u,Calls prog 218 #[Fe (Ak az k),.int .i64 iss,.int .i64 cur,.int .i64 am,.int .i64 day] u fun e w'=>e=.returned (.int .i64 (sc k))∧BW u w'):=HSC.o k hlt
   obtain ⟨⟨r,i,c,m,d,u⟩,hf⟩:∃ a,Ak az k=a:=⟨_,rfl⟩;rw [hf] at x0 x1 x2 x3 x4 x5 HSK;unfold Fe at HSK
   simp only at x0 x1 x2 x3 x4 x5 HSK
   clear hf hcell hbr;go_wp2_with fail
   refine (HSK.o _).mono ?_;rintro e u2 ⟨rfl,b2⟩;have HB2:Hid (BW w u2):=HB.o.trans (b2.mono HB.o.size);clear b2 x0 x1 x2 x3 x4 x5 HSK
   by_cases hs:0≤sc k
   ·rcases HXY.o with hx | ⟨j,hx,hy⟩
    ·subst hx
     have HN:Hid (Io sc (k+1) (k:Int)):=Yv HBE.o hs;have HSE:Hid (∃ j:Nat,(k:Int)=(j:Int)∧sc k=sc j):=⟨k,rfl,rfl⟩
     generalize sc k=s at hs HSE
     go_wp2
     go_roundw
     case rel=>exact ⟨k+1,k,s,by omega,by go_num,rfl,rfl,HN.o,.inr HSE.o,HB2.o⟩
     case measure=>simp [intOf];omega
    ·subst hx
     have hj0:¬ (j:Int)<0:=by omega
     by_cases hl:sc k<y
     ·have HN:Hid (Io sc (k+1) (k:Int)):=mK HBE.o hs (by rw [← hy];exact hl)
      have HSE:Hid (∃ j:Nat,(k:Int)=(j:Int)∧sc k=sc j):=⟨k,rfl,rfl⟩;clear hy
      generalize sc k=s at hs HSE hl
      go_wp2
      go_roundw
      case rel=>exact ⟨k+1,k,s,by omega,by go_num,rfl,rfl,HN.o,.inr HSE.o,HB2.o⟩
      case measure=>simp [intOf];omega
     ·have HN:Hid (Io sc (k+1) (j:Int)):=jH HBE.o (by rw [← hy];exact hl)
      have HSE:Hid (∃ i:Nat,(j:Int)=(i:Int)∧y=sc i):=⟨j,rfl,hy⟩;clear hy
      generalize sc k=s at hs hl
      go_wp2
      go_roundw
      case rel=>exact ⟨k+1,j,y,by omega,by go_num,rfl,rfl,HN.o,.inr HSE.o,HB2.o⟩
      case measure=>simp [intOf];omega
   ·have HN:Hid (Io sc (k+1) x):=gK HBE.o (by omega)
    generalize sc k=s at hs
    go_wp2
    go_roundw
    case rel=>exact ⟨k+1,x,y,by omega,by go_num,rfl,rfl,HN.o,HXY.o,HB2.o⟩
    case measure=>simp [intOf];omega
  ·have hke:k=az.length:=by omega
   subst hke;have HR:Hid (Gm az iss cur am day x):=HBA.o _ HBE.o;go_wp2;go_ret;exact ⟨_,rfl,HR.o,HB.o⟩
def txF:ByteArray:=⟨#[102,114,97,117,100]⟩
def txN:ByteArray:=⟨#[110,111,110,101]⟩
def txT:ByteArray:=⟨#[116,119,105,99,101]⟩
def txA:ByteArray:=⟨#[97,109,111,117,110,116]⟩
def txQ:ByteArray:=⟨#[113,117,97,108,105,116,121]⟩
def txC:ByteArray:=⟨#[99,97,110,99,101,108,108,101,100]⟩
def oB (x:Int):ByteArray:=if x=4837 then txF else if x=4855 then txN else if x=4834 then txT else if x=4831 then txA else if x=4853 then txQ else if x=4841 then txC else ⟨#[]⟩
def rD0 (x:Int):Int:=if x=4837 then 85 else if x=4855 then 65 else if x=4834 then 45 else if x=4831 then 45 else if x=4853 then 65 else if x=4841 then 45 else 0
theorem qQ {x:Int} (h:x≠4837∧x≠4855∧x≠4834∧x≠4831∧x≠4853∧x≠4841):rD0 x=0:=by simp [rD0,h]
theorem oK {x:Int} (h:x≠4837∧x≠4855∧x≠4834∧x≠4831∧x≠4853∧x≠4841):oB x=⟨#[]⟩:=by simp [oB,h]
theorem oT {x:Int} (h:Oy x=true):rD0 x=Fs x:=by
 rcases K7 x with rfl | rfl | rfl | rfl | rfl | rfl | h'
 iterate 6 rfl
 rw [Up h'] at h;cases h
theorem S4 {x:Int} (h:Oy x=false):Fs x = -1:=by
 rcases K7 x with rfl | rfl | rfl | rfl | rfl | rfl | h'
 iterate 6 cases h
 exact jX h'
theorem Ay {a b:Int} (h:a≠b):(a == b)=false:=by simpa using h
theorem Fn (x:Int) (w:World) :
  Calls prog 328 #[.int .i64 x] w fun e w'=>e=.returned (.tuple #[.agg #[.string (oB x),.int .i64 (rD0 x),.bool (Gb x),.bool (E8 x)],.bool (Oy x)])∧BW w w':=by
 rcases K7 x with rfl | rfl | rfl | rfl | rfl | rfl | h
 iterate 6
  ·go_enter func328,ntmps328
   go_wp2
   go_returns
   exact ⟨rfl,by go_grown⟩
 ·have HV:Hid (Ending.returned (.tuple #[.agg #[.string (oB x),.int .i64 (rD0 x),.bool (Gb x),.bool (E8 x)],.bool (Oy x)])=.returned (.tuple #[.agg #[.string ⟨#[]⟩,.int .i64 0,.bool false,.bool false],.bool false])):=by
    rw [Hid,oK h,qQ h,mD h,gS h,Up h]
  obtain ⟨h1,h2,h3,h4,h5,h6⟩:=h;have g1:=Ay h1;have g2:=Ay h2;have g3:=Ay h3;have g4:=Ay h4;have g5:=Ay h5;have g6:=Ay h6;clear h1 h2 h3 h4 h5 h6
  go_enter func328,ntmps328
  go_wp2
  go_returns
  exact ⟨HV.o.symm,by go_grown⟩
theorem Rg (x:Int) (w:World) :
  Calls prog 312 #[.int .i64 x] w fun e w'=>e=.returned (.bool (Oy x))∧BW w w':=by
 go_enter func312,ntmps312
 go_wp2_with fail
 refine (Fn x _).mono ?_;rintro e w1 ⟨rfl,b1⟩;go_wp2;go_ret;exact ⟨rfl,b1.alloc b1.size _⟩
theorem X7 (x:Int) (w:World) :
  Calls prog 335 #[.int .i64 x] w fun e w'=>e=.returned (.int .i64 (Fs x))∧BW w w':=by
 cases h:Oy x
 ·have HV:Hid _:=S4 h
  go_enter func335,ntmps335
  go_wp2_with fail
  refine (Fn x _).mono ?_;rintro e w1 ⟨rfl,b1⟩;go_wp2;go_ret;exact ⟨Af HV.o.symm,b1.alloc b1.size _⟩
 ·have HV:Hid _:=oT h
  go_enter func335,ntmps335
  go_wp2_with fail
  refine (Fn x _).mono ?_;rintro e w1 ⟨rfl,b1⟩;go_wp2;go_ret;exact ⟨Af HV.o,b1.alloc b1.size _⟩
theorem X0 (x:Int) (w:World) :
  Calls prog 334 #[.int .i64 x] w fun e w'=>e=.returned (.bool (Gb x))∧BW w w':=by
 go_enter func334,ntmps334
 go_wp2_with fail
 refine (Fn x _).mono ?_;rintro e w1 ⟨rfl,b1⟩;go_wp2;go_ret;exact ⟨rfl,b1.alloc b1.size _⟩
theorem Xc (x:Int) (w:World) :
  Calls prog 332 #[.int .i64 x] w fun e w'=>e=.returned (.bool (E8 x))∧BW w w':=by
 go_enter func332,ntmps332
 go_wp2_with fail
 refine (Fn x _).mono ?_;rintro e w1 ⟨rfl,b1⟩;go_wp2;go_ret;exact ⟨rfl,b1.alloc b1.size _⟩
def rL:List Int:=[4837,4855,4834,4831,4853,4841]
def pX (x:Int):Int:=if x=4837 then 0 else if x=4855 then 1 else if x=4834 then 2 else if x=4831 then 3 else if x=4853 then 4 else if x=4841 then 5 else -1
theorem X5 {x:Int} (h:x≠4837∧x≠4855∧x≠4834∧x≠4831∧x≠4853∧x≠4841):pX x = -1:=by simp [pX,h]
theorem rR (x:Int):decide (0≤pX x)=Oy x:=by
 rcases K7 x with rfl | rfl | rfl | rfl | rfl | rfl | h'
 iterate 6 rfl
 rw [X5 h',Up h'];rfl
theorem sU {x:Int} {k:Nat} (hk:k<6) (h:rL.getD k 0=x):pX x=k:=by
 rcases (show k=0∨k=1∨k=2∨k=3∨k=4∨k=5 by omega) with rfl | rfl | rfl | rfl | rfl | rfl <;> (subst h;rfl)
theorem oX {x:Int} (h:∀ j,j<6→rL.getD j 0≠x):pX x = -1:=by
 have h0:=h 0 (by omega)
 have h1:=h 1 (by omega)
 have h2:=h 2 (by omega)
 have h3:=h 3 (by omega)
 have h4:=h 4 (by omega)
 have h5:=h 5 (by omega)
 simp [rL] at h0 h1 h2 h3 h4 h5
 exact X5 ⟨by omega,by omega,by omega,by omega,by omega,by omega⟩
theorem Ud (x:Int) (w:World) :
  Calls prog 298 #[.int .i64 x] w fun e w'=>e=.returned (.int .i64 (pX x))∧BW w w':=by
 have hcA:∀ k,k<6→(w.alloc (.cells #[.int .i64 4837,.int .i64 4855,.int .i64 4834,.int .i64 4831,.int .i64 4853,.int .i64 4841] 3)).cell? ⟨w.heap.size,k,none⟩=some (.int .i64 (rL.getD k 0)):=by
  intro k hk
  rcases (show k=0∨k=1∨k=2∨k=3∨k=4∨k=5 by omega) with rfl | rfl | rfl | rfl | rfl | rfl <;> simp [rL]
 have hbel:Below w.heap.size w (w.alloc (.cells #[.int .i64 4837,.int .i64 4855,.int .i64 4834,.int .i64 4831,.int .i64 4853,.int .i64 4841] 3)):=bR.alloc nL _
 go_enter func298,ntmps298
 go_wp2
 go_loop [4] (fun i=>∃ k:Nat,k≤6∧i=.int .i64 k∧∀ j,j<k→rL.getD j 0≠x) (fun i=>6 - (intOf i).toNat)
 case atStart=>exact ⟨0,by omega,rfl,fun j hj=>by omega⟩
 case round =>
  obtain ⟨k,hk,rfl,hno⟩:=hrel;have HN:Hid (∀ j,j<k→rL.getD j 0≠x):=hno;clear hno
  by_cases hlt:k<6
  ·have a1:=hcA k hlt
   clear hcA;obtain ⟨c,hc⟩:∃ c,rL.getD k 0=c:=⟨_,rfl⟩;rw [hc] at a1;have HC:Hid (rL.getD k 0=c):=hc;clear hc
   cases he:(c == x)
   ·have HE:Hid (rL.getD k 0≠x):=by rw [HC.o];simpa [Hid] using he
    go_wp2
    go_round
    case rel=>exact ⟨k+1,by omega,by go_num,fun j hj=>by rcases (show j<k∨j=k from by omega) with h | rfl;exact HN.o j h;exact HE.o⟩
    case measure=>simp [intOf];omega
   ·have HE:Hid (rL.getD k 0=x):=by rw [HC.o];simpa [Hid] using he
    go_wp2;go_ret;exact ⟨Af (sU hlt HE.o).symm,hbel⟩
  ·have:k=6:=by omega
   subst this;clear hcA;go_wp2;go_ret;exact ⟨Af (oX HN.o).symm,hbel⟩
theorem V7 (x:Int) (w:World) :
  Calls prog 259 #[.int .i64 x] w fun e w'=>e=.returned (.bool (Oy x))∧BW w w':=by
 have HV:Hid _:=rR x
 go_enter func259,ntmps259
 go_wp2_with fail
 refine (Ud x _).mono ?_;rintro e w1 ⟨rfl,b1⟩;go_wp2;go_ret;exact ⟨Aa HV.o,b1⟩
theorem aT (x:Int) (w:World) :
  Calls prog 301 #[.int .i64 x] w fun e w'=>e=.returned (.bool (Gb x))∧w'=w:=by
 obtain ⟨p,hp⟩:∃ p,(x == 4831)=p:=⟨_,rfl⟩
 have HV:Hid (Gb x=(p || x == 4853)):=by rw [Hid,Gb,hp]
 cases p
 ·go_enter func301,ntmps301
  go_wp2;go_ret
  exact ⟨Aa (by rw [HV.o];rfl),rfl⟩
 ·go_enter func301,ntmps301
  go_wp2;go_ret
  exact ⟨Aa (by rw [HV.o];rfl),rfl⟩
theorem Wt (x:Int) (w:World) :
  Calls prog 300 #[.int .i64 x] w fun e w'=>e=.returned (.bool (E8 x))∧w'=w:=by
 obtain ⟨p,hp⟩:∃ p,(x == 4837)=p:=⟨_,rfl⟩
 have HV:Hid (E8 x=(p || x == 4834)):=by rw [Hid,E8,hp]
 cases p
 ·go_enter func300,ntmps300
  go_wp2;go_ret
  exact ⟨Aa (by rw [HV.o];rfl),rfl⟩
 ·go_enter func300,ntmps300
  go_wp2;go_ret
  exact ⟨Aa (by rw [HV.o];rfl),rfl⟩
theorem lA {x:Int} (h:Oy x=true):∃ k:Nat,k<6∧pX x=k∧Fs x=([85,65,45,45,65,45]:List Int).getD k 0:=by
 rcases K7 x with rfl | rfl | rfl | rfl | rfl | rfl | h'
 ·exact ⟨0,by decide,rfl,rfl⟩
 ·exact ⟨1,by decide,rfl,rfl⟩
 ·exact ⟨2,by decide,rfl,rfl⟩
 ·exact ⟨3,by decide,rfl,rfl⟩
 ·exact ⟨4,by decide,rfl,rfl⟩
 ·exact ⟨5,by decide,rfl,rfl⟩
 ·rw [Up h'] at h;cases h
theorem Xy (x:Int) (w:World) :
  Calls prog 302 #[.int .i64 x] w fun e w'=>e=.returned (.int .i64 (Fs x))∧BW w w':=by
 cases h:Oy x
 ·have HV:Hid _:=S4 h
  have hA:pX x = -1:=by
   rcases K7 x with rfl | rfl | rfl | rfl | rfl | rfl | h'
   iterate 6 cases h
   exact X5 h'
  have HA:Hid _:=hA;clear hA
  go_enter func302,ntmps302
  go_wp2_with fail
  refine (Ud x _).mono ?_;rintro e w1 ⟨rfl,b1⟩;rw [HA.o];go_wp2;go_ret;exact ⟨Af HV.o.symm,b1⟩
 ·obtain ⟨k,hk,hA,hD⟩:=lA h
  have HA:Hid _:=hA;have HD:Hid _:=hD;clear hA hD
  go_enter func302,ntmps302
  go_wp2_with fail
  refine (Ud x _).mono ?_;rintro e w1 ⟨rfl,b1⟩;rw [HA.o];have bel:Below w.heap.size w (w1.alloc (.cells #[.int .i64 85,.int .i64 65,.int .i64 45,.int .i64 45,.int .i64 65,.int .i64 45] 3)):=b1.alloc b1.size _
  have hc:(w1.alloc (.cells #[.int .i64 85,.int .i64 65,.int .i64 45,.int .i64 45,.int .i64 65,.int .i64 45] 3)).cell? ⟨w1.heap.size,k,none⟩=some (.int .i64 (([85,65,45,45,65,45]:List Int).getD k 0)):=by
   rcases (show k=0∨k=1∨k=2∨k=3∨k=4∨k=5 by omega) with rfl | rfl | rfl | rfl | rfl | rfl <;> simp
  obtain ⟨v,hv⟩:∃ v,([85,65,45,45,65,45]:List Int).getD k 0=v:=⟨_,rfl⟩;rw [hv] at hc;have HV:Hid _:=hv;have HB:Hid _:=bel;clear hv bel b1 h;go_wp2;go_ret
  exact ⟨Af (by rw [HD.o,HV.o]),HB.o⟩
def Mt:List Int:=[30,30,15,60,20]
def Ki (x:Int):Int:=if 0≤x∧x≤4 then Mt.getD x.toNat 0 else -1
theorem Vp {x:Int} (h:x<0∨4<x):Ki x = -1:=if_neg (by omega)
theorem St {k:Nat} (h:k<5):Ki (k:Int)=Mt.getD k 0:=by rw [Ki,if_pos (by omega)];rfl
theorem Rm (x:Int):(x<0∨4<x)∨∃ k:Nat,k<5∧x=(k:Int):=by
 by_cases h:x<0∨4<x
 ·exact .inl h
 ·exact .inr ⟨x.toNat,by omega,by omega⟩
def Di (w : World) : Prop := Lib.TabIs prog w "loop.example/g00126/impl.stepDays" .i64 Mt
theorem Di.below {w w':World} (h:Di w) (hb:BW w w'):Di w':=Lib.tabBelow_of_tabIs h w' hb
theorem Di.cell {w:World} (h:Di w) (i:Nat) (hi:i<5):w.cell? ⟨16,i,none⟩=some (.int .i64 (Mt.getD i 0)) :=
 Lib.TabIs.cell h (by kernel_rfl) i hi
theorem dS (x:Int) (w:World) (ht:Di w) :
  Calls prog 331 #[.int .i64 x] w fun e w'=>e=.returned (.int .i64 (Ki x))∧w'=w:=by
 rcases Rm x with h | ⟨k,hk,rfl⟩
 ·have HV:Hid _:=Vp h
  clear ht
  rcases h with h | h
  ·go_enter func331,ntmps331
   go_wp2;go_ret;exact ⟨Af HV.o.symm,rfl⟩
  ·go_enter func331,ntmps331
   go_wp2;go_ret;exact ⟨Af HV.o.symm,rfl⟩
 ·have hc:=ht.cell k hk
  have HL:Hid _:=St hk;obtain ⟨v,hv⟩:∃ v,Mt.getD k 0=v:=⟨_,rfl⟩;rw [hv] at hc;have HV:Hid _:=hv;clear ht hv
  go_enter func331,ntmps331
  go_wp2;go_ret
  exact ⟨Af (by rw [HL.o,HV.o]),rfl⟩
theorem I1 (x:Int) (w:World) :
  Calls prog 223 #[.int .i64 x] w fun e w'=>e=.returned (.int .i64 (Ki x))∧BW w w':=by
 rcases Rm x with h | ⟨k,hk,rfl⟩
 ·have HV:Hid _:=Vp h
  have hi:Gk x 0 4=false:=bN h
  go_enter func223,ntmps223
  go_wp2_with (go_at_call 134;refine (Dl _ _ _ _).mono ?_;rintro e w' ⟨rfl,rfl⟩)
  go_ret;exact ⟨Af HV.o.symm,bR⟩
 ·have hi:Gk (k:Int) 0 4=true:=Uh (by omega) (by omega)
  have HB:Hid (Below w.heap.size w (w.alloc (.cells #[.int .i64 30,.int .i64 30,.int .i64 15,.int .i64 60,.int .i64 20] 3))):=bR.alloc nL _
  have hc:(w.alloc (.cells #[.int .i64 30,.int .i64 30,.int .i64 15,.int .i64 60,.int .i64 20] 3)).cell? ⟨w.heap.size,k,none⟩=some (.int .i64 (Mt.getD k 0)):=by
   rcases (show k=0∨k=1∨k=2∨k=3∨k=4 by omega) with rfl | rfl | rfl | rfl | rfl <;> simp [Mt]
  have HL:Hid _:=St hk;obtain ⟨v,hv⟩:∃ v,Mt.getD k 0=v:=⟨_,rfl⟩;rw [hv] at hc;have HV:Hid _:=hv;clear hv
  go_enter func223,ntmps223
  go_wp2_with (go_at_call 134;refine (Dl _ _ _ _).mono ?_;rintro e w' ⟨rfl,rfl⟩)
  go_ret
  exact ⟨Af (by rw [HL.o,HV.o]),HB.o⟩
end Go.Proofs.YtomiclakhjncbaaGreatDoor
namespace Go.Proofs.YtomiclakhjncbaaGreatDoor
open Go.Proofs.Tryz
set_option maxRecDepth 100000
set_option maxHeartbeats 12800000
def Cf:List Ln→Int→Int→Option Int
 | [],_,_=>none
 | x::r,a,c=>if x.1=a∧x.2.1=c then some x.2.2 else Cf r a c
def iD (f:Int→Int→Option Int) (a c m:Int):Int→Int→Option Int:=fun a' c' =>
 if a'=a∧c'=c then (if (f a c).getD 0+m=0 then none else some ((f a c).getD 0+m)) else f a' c'
def Va (ls:List Ln):Prop:=ls.Pairwise (fun x y=>E3 x y=true)
def NZ (ls:List Ln):Prop:=∀ x ∈ ls,x.2.2≠0
theorem Ev {x y:Ln} : E3 x y=true ↔ x.1<y.1∨x.1=y.1∧x.2.1<y.2.1:=by simp [E3]
theorem Jj {x y z:Ln} (h1:E3 x y=true) (h2:E3 y z=true):E3 x z=true:=by
 rw [Ev] at *;omega
theorem N3 {ls:List Ln} {a c:Int} (h:∀ x ∈ ls,¬ (x.1=a∧x.2.1=c)):Cf ls a c=none:=by
 induction ls with
 | nil=>rfl
 | cons y r ih =>
  simp only [Cf]
  rw [if_neg (h y (List.mem_cons_self ..))]
  exact ih fun x hx=>h x (List.mem_cons_of_mem _ hx)
theorem Mr {ls:List Ln} {a c v:Int} (h:Cf ls a c=some v):(a,c,v) ∈ ls:=by
 induction ls with
 | nil=>simp [Cf] at h
 | cons y r ih =>
  simp only [Cf] at h
  split at h
  ·rename_i hk
   obtain ⟨y1,y2,y3⟩:=y
   simp at hk h
   obtain ⟨rfl,rfl⟩:=hk;subst h;exact List.mem_cons_self ..
  ·exact List.mem_cons_of_mem _ (ih h)
def cV (ls:List Ln):Prop:=ls.Pairwise (fun x y=>¬ (x.1=y.1∧x.2.1=y.2.1))
theorem Va.apart {ls:List Ln} (h:Va ls):cV ls:=h.imp fun {x y} hxy=>by rw [Ev] at hxy;omega
theorem Q3 {ls:List Ln} (h:cV ls) {a c v:Int} : (a,c,v) ∈ ls ↔ Cf ls a c=some v:=by
 refine ⟨fun hm=>?_,Mr⟩
 induction ls with
 | nil=>cases hm
 | cons y r ih =>
  obtain ⟨h1,h2⟩:=List.pairwise_cons.1 h
  rcases List.mem_cons.1 hm with rfl | hr
  ·simp [Cf]
  ·have hk:=h1 _ hr
   simp only at hk
   simp only [Cf]
   rw [if_neg hk];exact ih h2 hr
theorem gE (ls:List Ln) (x:Ln) (a c:Int):Cf (ls++[x]) a c=match Cf ls a c with | some v=>some v | none=>if x.1=a∧x.2.1=c then some x.2.2 else none:=by
 induction ls with
 | nil=>simp [Cf]
 | cons y r ih =>
  simp only [List.cons_append,Cf]
  split
  ·rfl
  ·exact ih
theorem fN {ls:List Ln} (hs:Va ls) (hz:NZ ls) {k:Nat} (hk:k<ls.length):Cf (ls.take (k+1))=iD (Cf (ls.take k)) (Cg ls k).1 (Cg ls k).2.1 (Cg ls k).2.2:=by
 have hn:Cf (ls.take k) (Cg ls k).1 (Cg ls k).2.1=none:=by
  refine N3 fun x hx=>?_
  obtain ⟨i,hi,rfl⟩:=List.mem_iff_getElem.1 hx
  simp only [List.length_take] at hi
  have hp:=List.pairwise_iff_getElem.1 hs i k (by omega) hk (by omega)
  rw [Ev] at hp;rw [List.getElem_take,Pu hk]
  omega
 have h0:(Cg ls k).2.2≠0:=hz _ (Ex hk)
 funext a c
 rw [Kl ls k hk,gE];unfold iD;rw [hn]
 by_cases he:a=(Cg ls k).1∧c=(Cg ls k).2.1
 ·obtain ⟨rfl,rfl⟩:=he
  rw [hn]
  simp [h0]
 ·rw [if_neg he,if_neg (fun h=>he ⟨h.1.symm,h.2.symm⟩)]
  cases Cf (ls.take k) a c <;> rfl
theorem Wf {ls:List Ln} {a c m:Int} {x:Ln} (h:x ∈ Cr ls a c m):x ∈ ls∨x.1=a∧x.2.1=c:=by
 induction ls with
 | nil=>simp [Cr] at h;subst h;exact .inr ⟨rfl,rfl⟩
 | cons y r ih =>
  simp only [Cr] at h
  split at h
  ·split at h
   ·split at h
    ·rcases List.mem_cons.1 h with rfl | h
     ·exact .inr ⟨rfl,rfl⟩
     ·exact .inl (List.mem_cons_of_mem _ h)
    ·exact .inl (List.mem_cons_of_mem _ h)
   ·rcases List.mem_cons.1 h with rfl | h
    ·exact .inr ⟨rfl,rfl⟩
    ·exact .inl h
  ·rcases List.mem_cons.1 h with rfl | h
   ·exact .inl (List.mem_cons_self ..)
   ·exact (ih h).imp (List.mem_cons_of_mem _) id
theorem Kv {x:Ln} {a c:Int} : My x a c=true ↔ a<x.1∨x.1=a∧c≤x.2.1:=by simp [My]
theorem Rn {ls:List Ln} (hs:Va ls) (a c m:Int):Va (Cr ls a c m):=by
 induction ls with
 | nil=>simp [Cr,Va]
 | cons y r ih =>
  obtain ⟨h1,h2⟩:=List.pairwise_cons.1 hs
  simp only [Cr]
  split
  ·rename_i hr
   rw [Kv] at hr
   split
   ·rename_i he
    split
    ·refine List.pairwise_cons.2 ⟨fun z hz=>?_,h2⟩
     have:=h1 z hz
     rw [Ev] at this ⊢
     simp only
     omega
    ·exact h2
   ·rename_i he
    refine List.pairwise_cons.2 ⟨fun z hz=>?_,hs⟩
    have hy:E3 (a,c,m) y=true:=by rw [Ev];simp only;omega
    rcases List.mem_cons.1 hz with rfl | hz
    ·exact hy
    ·exact Jj hy (h1 z hz)
  ·rename_i hr
   rw [Kv] at hr
   refine List.pairwise_cons.2 ⟨fun z hz=>?_,ih h2⟩
   rcases Wf hz with hz | ⟨e1,e2⟩
   ·exact h1 z hz
   ·rw [Ev];omega
theorem Tb {ls:List Ln} (hs:Va ls) (a c:Int) {m:Int} (hm:m≠0):Cf (Cr ls a c m)=iD (Cf ls) a c m:=by
 induction ls with
 | nil =>
  funext a' c'
  simp only [Cr,Cf,iD,Option.getD_none,Int.zero_add,if_neg hm]
  by_cases h:a'=a∧c'=c
  ·rw [if_pos h,if_pos ⟨h.1.symm,h.2.symm⟩]
  ·rw [if_neg h,if_neg (fun q=>h ⟨q.1.symm,q.2.symm⟩)]
 | cons y r ih =>
  obtain ⟨h1,h2⟩:=List.pairwise_cons.1 hs;have ih':=ih h2
  funext a' c'
  simp only [Cr]
  split
  ·rename_i hr
   rw [Kv] at hr
   split
   ·rename_i he
    have hnr:Cf r a c=none:=N3 fun x hx hk=>by
     have:=h1 x hx
     rw [Ev] at this;omega
    have hl:Cf (y::r) a c=some y.2.2:=by simp [Cf,he]
    unfold iD;rw [hl]
    simp only [Option.getD_some]
    split
    ·rename_i h0
     by_cases h:a'=a∧c'=c
     ·rw [if_pos h];simp [Cf,h.1,h.2]
     ·rw [if_neg h]
      have e1:¬ (a=a'∧c=c'):=fun q=>h ⟨q.1.symm,q.2.symm⟩
      simp only [Cf]
      rw [if_neg e1,if_neg (by rw [he.1,he.2];exact e1)]
    ·rename_i h0
     have h0':y.2.2+m=0:=by omega
     by_cases h:a'=a∧c'=c
     ·rw [if_pos h,if_pos h0',h.1,h.2];exact hnr
     ·rw [if_neg h]
      have e1:¬ (a=a'∧c=c'):=fun q=>h ⟨q.1.symm,q.2.symm⟩
      simp only [Cf]
      rw [if_neg (by rw [he.1,he.2];exact e1)]
   ·rename_i he
    have hn:Cf (y::r) a c=none:=N3 fun x hx hk=>by
     rcases List.mem_cons.1 hx with rfl | hx
     ·exact he hk
     ·have:=h1 x hx
      rw [Ev] at this;omega
    unfold iD;rw [hn]
    simp only [Option.getD_none,Int.zero_add,if_neg hm]
    by_cases h:a'=a∧c'=c
    ·rw [if_pos h];simp [Cf,h.1,h.2]
    ·have e1:¬ (a=a'∧c=c'):=fun q=>h ⟨q.1.symm,q.2.symm⟩
     rw [if_neg h];conv=>lhs;rw [Cf]
     rw [if_neg e1]
  ·rename_i hr
   rw [Kv] at hr
   have hya:¬ (y.1=a∧y.2.1=c):=by omega
   have hl:Cf (y::r) a c=Cf r a c:=by simp only [Cf];rw [if_neg hya]
   have hx:=congrFun (congrFun ih' a') c'
   conv=>lhs;rw [Cf]
   unfold iD at hx ⊢;rw [hl,hx]
   by_cases h:a'=a∧c'=c
   ·rw [if_neg (by rw [h.1,h.2];exact hya),if_pos h,if_pos h]
   ·rw [if_neg h,if_neg h];simp only [Cf]
theorem aQ {l1 l2:List Ln} (h1:Va l1) (h2:Va l2) (h:∀ a c,Cf l1 a c=Cf l2 a c):l1=l2:=by
 have hm:∀ x:Ln,x ∈ l1 ↔ x ∈ l2:=fun ⟨a,c,v⟩=>by rw [Q3 h1.apart,Q3 h2.apart,h]
 clear h
 induction l1 generalizing l2 with
 | nil =>
  cases l2 with
  | nil=>rfl
  | cons y r=>exact absurd ((hm y).2 (List.mem_cons_self ..)) (by simp)
 | cons x r ih =>
  cases l2 with
  | nil=>exact absurd ((hm x).1 (List.mem_cons_self ..)) (by simp)
  | cons y s =>
   obtain ⟨p1,p2⟩:=List.pairwise_cons.1 h1;obtain ⟨q1,q2⟩:=List.pairwise_cons.1 h2
   have irr:∀ z:Ln,E3 z z=true→False:=fun z hz=>by rw [Ev] at hz;omega
   have hxy:x=y:=by
    rcases List.mem_cons.1 ((hm x).1 (List.mem_cons_self ..)) with h | h
    ·exact h
    ·rcases List.mem_cons.1 ((hm y).2 (List.mem_cons_self ..)) with h' | h'
     ·exact h'.symm
     ·exact (irr x (Jj (p1 y h') (q1 x h))).elim
   subst hxy
   refine congrArg (x::·) (ih p2 q2 fun z=>⟨fun hz=>?_,fun hz=>?_⟩)
   ·rcases List.mem_cons.1 ((hm z).1 (List.mem_cons_of_mem _ hz)) with rfl | h
    ·exact (irr z (p1 z hz)).elim
    ·exact h
   ·rcases List.mem_cons.1 ((hm z).2 (List.mem_cons_of_mem _ hz)) with rfl | h
    ·exact (irr z (q1 z hz)).elim
    ·exact h
theorem Qn {ls:List Ln} (h:Az none ls=true):Va ls:=by
 have key:∀ (r:List Ln) (p:Ln),Az (some p) r=true→(∀ x ∈ r,E3 p x=true)∧Va r:=by
  intro r
  induction r with
  | nil=>intro p _;exact ⟨(fun x hx=>by cases hx),List.Pairwise.nil⟩
  | cons y s ih =>
   intro p hp
   simp only [Az,Bool.and_eq_true] at hp
   obtain ⟨a1,a2⟩:=ih y hp.2
   refine ⟨fun x hx=>?_,List.pairwise_cons.2 ⟨a1,a2⟩⟩
   rcases List.mem_cons.1 hx with rfl | hx
   ·exact hp.1.2
   ·exact Jj hp.1.2 (a1 x hx)
 cases ls with
 | nil=>exact List.Pairwise.nil
 | cons y s =>
  simp only [Az,Bool.and_eq_true] at h
  obtain ⟨a1,a2⟩:=key s y h.2;exact List.pairwise_cons.2 ⟨a1,a2⟩
theorem Rz {ls:List Ln} (h:Az none ls=true):NZ ls:=fun x hx=>(Ig (Dv h x hx)).2.2.2
theorem U2 {c:Int} (h:0≤Dc c):c ∈ Gi:=by
 unfold Dc at h
 simp only [Gi,List.mem_cons,List.not_mem_nil,or_false]
 repeat' split at h
 all_goals omega
theorem fR {c:Int} {ls:List Ln} (h:∀ x ∈ ls,x.2.1≠c):Ec c ls=0:=by
 induction ls with
 | nil=>rfl
 | cons y r ih =>
  have h1:=h y (List.mem_cons_self ..)
  have h2:=ih fun x hx=>h x (List.mem_cons_of_mem _ hx)
  simp only [Ec,List.map_cons,List.sum_cons] at h2 ⊢
  rw [if_neg h1,h2];rfl
theorem hH {ls:List Ln} (h:∀ x ∈ ls,0≤Dc x.2.1):Wo ls=true ↔ ∀ x ∈ ls,Ec x.2.1 ls=0:=by
 unfold Wo;rw [List.all_eq_true]
 constructor
 ·intro ha x hx
  simpa using ha _ (U2 (h x hx))
 ·intro ha c _
  by_cases hc:∃ x ∈ ls,x.2.1=c
  ·obtain ⟨x,hx,rfl⟩:=hc
   simpa using ha x hx
  ·have:=fR (c:=c) (ls:=ls) fun x hx e=>hc ⟨x,hx,e⟩
   simp [this]
def Qm (a b:Int):Int:=if a<b then -1 else if b<a then 1 else 0
def oL (x y:Int):Int:=if x≠0 then x else y
def Qh (x y:Ln):Int:=oL (Qm x.1 y.1) (Qm x.2.1 y.2.1)
theorem cY (x y:Ln):Qh x y<0 ↔ E3 x y=true:=by
 simp only [Qh,oL,Qm,E3,decide_eq_true_eq]
 repeat' split
 all_goals omega
end Go.Proofs.YtomiclakhjncbaaGreatDoor
namespace Go.Proofs.YtomiclakhjncbaaGreatDoor.Kb
open Go.RowKit Go.Proofs.Tryz
set_option maxRecDepth 100000
set_option maxHeartbeats 12800000
theorem mZ {l:List UInt8} (h:∀ c ∈ l,c≠32):∀ i,i≤l.length→B0 l i=([],0):=by
 intro i
 induction i with
 | zero=>intro _;rfl
 | succ i ih =>
  intro hi
  have hg:l.getD i 0=l[i]:=by
   rw [List.getD_eq_getElem?_getD,List.getElem?_eq_getElem (by omega)];rfl
  rw [J7 (by rw [hg];exact h _ (List.getElem_mem _))]
  exact ih (by omega)
theorem Qw {l:List UInt8} (h:∀ c ∈ l,c≠32):Ab l=[l]:=by
 rw [Ab,mZ h _ nL];rfl
theorem Zx {x r:List UInt8} (hx:∀ c ∈ x,c≠32):∀ i,i≤x.length→B0 (x++32::r) i=([],0):=by
 intro i
 induction i with
 | zero=>intro _;rfl
 | succ i ih =>
  intro hi
  have hg:(x++32::r).getD i 0=x[i]:=by
   rw [List.getD_eq_getElem?_getD,List.getElem?_append_left (by omega),List.getElem?_eq_getElem (by omega)]
   rfl
  rw [J7 (by rw [hg];exact hx _ (List.getElem_mem _))]
  exact ih (by omega)
theorem cX (x r:List UInt8) (s:Nat):(x++32::r).drop (x.length+1+s)=r.drop s:=by
 rw [List.drop_append,List.drop_of_length_le (by omega),List.nil_append,show x.length+1+s - x.length=s+1 from by omega]
 rfl
theorem Yo {x r:List UInt8} (hx:∀ c ∈ x,c≠32):∀ j,j≤r.length→B0 (x++32::r) (x.length+1+j)=(x::(B0 r j).1,x.length+1+(B0 r j).2):=by
 intro j
 induction j with
 | zero =>
  intro _
  have hg:(x++32::r).getD x.length 0=32:=by simp [List.getD_eq_getElem?_getD]
  show B0 (x++32::r) (x.length+1)=_
  rw [Kw hg,Zx hx _ nL]
  simp [B0]
 | succ j ih =>
  intro hj
  have h:=ih (by omega)
  have hg:(x++32::r).getD (x.length+1+j) 0=r.getD j 0:=by
   rw [List.getD_eq_getElem?_getD,List.getElem?_append_right (by omega),show x.length+1+j - x.length=j+1 from by omega]
   simp [List.getD_eq_getElem?_getD]
  have hle:=(Mo r j).1
  by_cases h32:r.getD j 0=32
  ·rw [show x.length+1+(j+1)=(x.length+1+j)+1 from by omega,Kw (by rw [hg];exact h32),h,Kw h32]
   simp only [List.cons_append]
   rw [cX,show x.length+1+j - (x.length+1+(B0 r j).2)=j - (B0 r j).2 from by omega]
   rfl
  ·rw [show x.length+1+(j+1)=(x.length+1+j)+1 from by omega,J7 (by rw [hg];exact h32),h,J7 h32]
theorem Xo {x r:List UInt8} (hx:∀ c ∈ x,c≠32):Ab (x++32::r)=x::Ab r:=by
 have h:=Yo hx (r:=r) r.length nL
 have hl:(x++32::r).length=x.length+1+r.length:=by simp;omega
 rw [Ab,hl,h,Ab]
 simp only [List.cons_append]
 rw [cX]
theorem Yf {c:UInt8} : ∀ {l:List UInt8},(∀ x ∈ l,x≠c)→Lib.indexByte l c = -1
 | [],_=>rfl
 | b::l,h=>by
  have hb:(b == c)=false:=by simpa using h b (by simp)
  rw [Lib.indexByte,hb,Yf (fun x hx=>h x (by simp [hx]))]
  simp
theorem Og {c:UInt8} {r:List UInt8} : ∀ {x:List UInt8},(∀ y ∈ x,y≠c)→Lib.indexByte (x++c::r) c=x.length
 | [],_=>by simp [Lib.indexByte]
 | b::l,h=>by
  have hb:(b == c)=false:=by simpa using h b (by simp)
  have ih:=Og (r:=r) (x:=l) (fun y hy=>h y (by simp [hy]))
  rw [List.cons_append,Lib.indexByte,hb,ih]
  have:¬ ((l.length:Int) = -1):=by omega
  simp [this]
theorem Ok:∀ (n:Nat) (l:List UInt8),l.length≤n→Lib.splitK [32] 0 (l.count 32) l=Ab l
 | 0,l,h=>by
  have:l=[]:=List.eq_nil_of_length_eq_zero (by omega)
  subst this
  rw [Qw (fun c hc=>by cases hc)]
  rfl
 | n+1,l,h=>by
  by_cases hm:(32:UInt8) ∈ l
  ·obtain ⟨x,r,rfl,hx⟩:=List.eq_append_cons_of_mem hm
   have hx':∀ c ∈ x,c≠32:=fun c hc e=>hx (e ▸ hc)
   have h0:x.count 32=0:=List.count_eq_zero.2 hx
   have hc:(x++32::r).count 32=r.count 32+1:=by
    rw [List.count_append,h0,List.count_cons_self];omega
   have hi:Lib.index (x++32::r) [32]=(x.length:Int):=by rw [Lib.index_one,Og hx']
   rw [hc,Lib.splitK,hi,if_neg (by simp),Xo hx']
   have e1:(x++32::r).take ((x.length:Int).toNat+0)=x:=by simp
   have e2:(x++32::r).drop ((x.length:Int).toNat+[(32:UInt8)].length)=r:=by simp
   rw [e1,e2,Ok n r (by simp at h;omega)]
  ·have hx:∀ c ∈ l,c≠32:=fun c hc e=>hm (e ▸ hc)
   rw [List.count_eq_zero.2 hm,Qw hx]
   rfl
theorem jP (l:List UInt8):((Lib.splitB ⟨#[32]⟩ 0 (Lib.countB ⟨l.toArray⟩ ⟨#[32]⟩) ⟨l.toArray⟩).map Value.string)=Am (Ab l)∧Lib.countB ⟨l.toArray⟩ ⟨#[32]⟩+1=(Ab l).length:=by
 have hc:Lib.countB ⟨l.toArray⟩ ⟨#[32]⟩=l.count 32:=by
  show Lib.count l.toArray.toList [32]=l.count 32
  rw [Lib.count_one]
 have hd:=Lib.splitB_data ⟨#[32]⟩ 0 (l.count 32) ⟨l.toArray⟩
 have hd2:(Lib.splitB ⟨#[32]⟩ 0 (l.count 32) ⟨l.toArray⟩).map (·.data.toList)=Ab l:=by
  rw [hd];exact Ok l.length l nL
 have hl:=Lib.splitB_all ⟨#[32]⟩ (by decide) 0 (l.count 32) ⟨l.toArray⟩ hc
 rw [hc]
 constructor
 ·rw [← hd2,Am,List.map_map]
  apply List.map_congr_left;intro s _
  simp [Py]
 ·rw [← hd2,List.length_map,hl]
theorem qS (l:List UInt8) (m:Int) (w:World) (hl:l.length≤1048576) (hm:w.cell? ⟨10,0,none⟩=some (.int .i64 m)) :
  Calls prog 66 #[.string ⟨l.toArray⟩,.string ⟨#[32]⟩] w fun e w'=>∃ a,e=.returned (.slice a (Ab l).length (Ab l).length)∧Bh w' a (Ab l)∧BW w w':=by
 obtain ⟨h1,h2⟩:=jP l
 have hs:(⟨l.toArray⟩:ByteArray).size<4294967281:=by
  show l.toArray.size<_
  rw [List.size_toArray];omega
 refine (strings_Split ⟨l.toArray⟩ ⟨#[32]⟩ m w hs hm (by decide)).mono ?_
 rintro e w' ⟨rfl,rfl⟩;rw [h1,h2]
 refine ⟨some ⟨w.heap.size,0,none⟩,rfl,.inr ⟨w.heap.size,0,rfl,by simp,fun i hi=>?_⟩,bR.alloc nL _⟩
 have:=Hd (Ab l) i hi
 simpa [go_sem] using this
end Go.Proofs.YtomiclakhjncbaaGreatDoor.Kb
namespace Go.Proofs.YtomiclakhjncbaaGreatDoor
open Go.RowKit Go.Proofs.Tryz
set_option maxRecDepth 100000
set_option maxHeartbeats 12800000
def Nj (x:Cd):List Value:=[.int .i64 x.1,.int .i64 x.2]
def Fj (H:List Cd):List Value:=H.flatMap Nj
theorem O0 (x:Cd) (r:List Cd):Fj (x::r)=.int .i64 x.1::.int .i64 x.2::Fj r:=rfl
theorem Sa (a b:List Cd):Fj (a++b)=Fj a++Fj b:=by simp [Fj]
theorem gH (H:List Cd):∀ k,k<H.length→(Fj H)[k*2]?=some (.int .i64 (Bc H k).1)∧(Fj H)[k*2+1]?=some (.int .i64 (Bc H k).2):=by
 induction H with
 | nil=>intro k h;simp at h
 | cons x r ih =>
  intro k h;rw [O0]
  cases k with
  | zero=>exact ⟨rfl,rfl⟩
  | succ k =>
   have:=ih k (by simpa using h)
   rw [show (k+1) * 2=k*2+1+1 by omega,List.getElem?_cons_succ,List.getElem?_cons_succ,List.getElem?_cons_succ,List.getElem?_cons_succ]
   exact this
theorem Yh (H:List Cd) (x:Cd):∀ k,k<H.length→((Fj H).set (k*2) (.int .i64 x.1)).set (k*2+1) (.int .i64 x.2)=Fj (H.set k x):=by
 induction H with
 | nil=>intro k h;simp at h
 | cons g r ih =>
  intro k h;rw [O0]
  cases k with
  | zero=>rfl
  | succ k =>
   have:=ih k (by simpa using h)
   rw [show (k+1) * 2=k*2+1+1 by omega,List.set_cons_succ,List.set_cons_succ,List.set_cons_succ,List.set_cons_succ,this]
   rfl
theorem Yu (H:List Cd):∀ u ∈ Fj H,u.oneCell'=true:=by
 intro u hu;obtain ⟨a,_,h⟩:=List.mem_flatMap.1 hu
 simp only [Nj,List.mem_cons,List.not_mem_nil,or_false] at h
 rcases h with rfl | rfl <;> rfl
theorem iP:(prog.info? 294).map (fun i=>(i.zero,i.size,i.bytes))=some (some (.agg #[.int .i64 0,.int .i64 0]),2,16):=by kernel_rfl
structure HP (q:Option (Nat×Obj)) (w:World) (H:List Cd) (ao:Option Addr) (cap:Nat) (u:World):Prop where
 bel:BW w u
 box:u.cell? ⟨w.heap.size,0,none⟩=some (.slice ao H.length cap)
 fz:u.frozen? ⟨w.heap.size,0,none⟩=false
 own:u.ownsRow (w.heap.size+1) 294 2 (.slice ao H.length cap) H.length (Fj H)
 kp:∀ b o,q=some (b,o)→u.heap[b]?=some o∧w.heap.size<b∧∀ x,(Value.slice ao H.length cap).ownBlock=some x→x≠b
theorem HP.lt {q:Option (Nat×Obj)} {w u:World} {H:List Cd} {ao:Option Addr} {cap:Nat} (h:HP q w H ao cap u):w.heap.size<u.heap.size:=World.block_lt_of_cell? u _ h.box
theorem pT {w w':World} {base n size:Nat} {t:TypeId} {v:Value} {xs:List Value} (h:w.ownsRow base t size v n xs) (hb:BW w w'):w'.ownsRow base t size v n xs:=by
 obtain ⟨h1,h2⟩:=h;refine ⟨h1,?_⟩
 rcases h2 with h | ⟨g,cap,cur,hv,hg,hh,a1,a2,a3,a4⟩
 ·exact .inl h
 ·have hlt:g<w.heap.size:=(Array.getElem?_eq_some_iff.1 hh).1
  exact .inr ⟨g,cap,cur,hv,hg,(hb.block g hlt).trans hh,a1,a2,a3,a4⟩
theorem HP.below {q:Option (Nat×Obj)} {w u u':World} {H:List Cd} {ao:Option Addr} {cap:Nat} (h:HP q w H ao cap u) (b:BW u u'):HP q w H ao cap u' :=
 ⟨h.bel.trans (b.mono h.bel.size),(b.cell (p:=⟨w.heap.size,0,none⟩) h.lt).trans h.box,(b.frozen (p:=⟨w.heap.size,0,none⟩) h.lt).trans h.fz,pT h.own b,fun x o e=>by
  obtain ⟨h1,h2,h3⟩:=h.kp x o e;exact ⟨(b.block x (Array.getElem?_eq_some_iff.1 h1).1).trans h1,h2,h3⟩⟩
theorem HP.row {q:Option (Nat×Obj)} {w u:World} {H:List Cd} {ao:Option Addr} {cap:Nat} (h:HP q w H ao cap u) (h0:0<H.length):∃ g,ao=some ⟨g,0,none⟩∧w.heap.size<g∧g<u.heap.size:=by
 rcases h.own.2 with ⟨hv,hn⟩ | ⟨g,c,cur,hv,hg,_⟩
 ·omega
 ·obtain ⟨rfl,rfl⟩:ao=some ⟨g,0,none⟩∧cap=c:=by simpa using hv
  exact ⟨g,rfl,by omega,(h.own.lt g rfl).2⟩
theorem HP.at {q:Option (Nat×Obj)} {w u:World} {H:List Cd} {g:Nat} {cap:Nat} (h:HP q w H (some ⟨g,0,none⟩) cap u) {k:Nat} (hk:k<H.length):u.cell? ⟨g,k*2,none⟩=some (.int .i64 (Bc H k).1)∧u.cell? ⟨g,k*2+1,none⟩=some (.int .i64 (Bc H k).2):=by
 have hl:=h.own.1
 rw [h.own.cellAt (k*2) (by omega),h.own.cellAt (k*2+1) (by omega)]
 exact gH H k hk
theorem HP.apart {q:Option (Nat×Obj)} {w u:World} {H:List Cd} {ao:Option Addr} {cap:Nat} (h:HP q w H ao cap u):some w.heap.size≠(Value.slice ao H.length cap).ownBlock:=fun e=>by have:=(h.own.lt _ e.symm).1;omega
theorem Qt {w:World} {g k g' k':Nat} {v u:Value} (h:g≠g') (hc:w.cell? ⟨g',k',none⟩=some u):(w.setCell ⟨g,k,none⟩ v).cell? ⟨g',k',none⟩=some u:=by
 rw [World.cell?_setCell_other w ⟨g,k,none⟩ v (b:=⟨g',k',none⟩) (fun e=>by injection e with e1 e2;exact h e1)];exact hc
theorem HP.setAt {q:Option (Nat×Obj)} {w u:World} {H:List Cd} {g:Nat} {cap:Nat} (h:HP q w H (some ⟨g,0,none⟩) cap u) {k:Nat} (hk:k<H.length) (x:Cd):HP q w (H.set k x) (some ⟨g,0,none⟩) cap ((u.setCell ⟨g,k*2,none⟩ (.int .i64 x.1)).setCell ⟨g,k*2+1,none⟩ (.int .i64 x.2)):=by
 obtain ⟨g',e,hg,_⟩:=h.row (by omega)
 obtain rfl:g=g':=by simpa using e
 have R0:=h.own.stored (k*2) (.int .i64 x.1);have R1:=R0.1.stored (k*2+1) (.int .i64 x.2);have R:=R1.1;rw [Yh H x k hk] at R
 refine ⟨(h.bel.setCell (Nat.le_of_lt hg) _).setCell (Nat.le_of_lt hg) _,?_,?_,by rw [List.length_set];exact R,fun b o e=>?_⟩
 ·rw [List.length_set]
  exact Qt (by omega) (Qt (by omega) h.box)
 ·simp [h.fz]
 ·obtain ⟨h1,h2,h3⟩:=h.kp b o e
  have hgb:g≠b:=h3 g rfl
  refine ⟨?_,h2,by rw [List.length_set];exact h3⟩
  rw [Below.heap_setCell _ _ _ _ (fun e=>hgb e.symm),Below.heap_setCell _ _ _ _ (fun e=>hgb e.symm)]
  exact h1
theorem mQ (a : Value) (w : World) : (method 501 322 a "Push").run prog w = .ok (403, a) w := by kernel_rfl
theorem nV (a : Value) (w : World) : (method 501 322 a "Pop").run prog w = .ok (402, a) w := by kernel_rfl
theorem rN (a : Addr) (nm : String) (w : World) : (Builtin.ssaWrapNilChk_ #[322] 322 #[.pointer (some a), strVal "", strVal nm]).run prog w = .ok (.pointer (some a)) w := rfl
theorem Uq (nm:String) {a:Addr} {v:Value} {w:World} (h:w.cell? a=some v):(receiverAt 322 (.val (.pointer (some a))) false (some nm)).run prog w=.ok v w:=by
 simp [receiverAt,run_underlying underlying322,Place.get,rN,asAddr,loadVar,isAgg291,h]
theorem Lw {t:TypeId} {nm:String} {f:FuncId} (im:(prog.info? t).map (fun i=>(i.methods.find? (·.name == nm)).map fun m=>(m.path,m.func))=some (some (#[],some (f,false)))) (n:Nat) (x:Value) (w:World) {v:Value}
  (hr:∀ s,(receiverAt t (.val x) false (some s)).run prog w=.ok v w):(method (n+1) t x nm).run prog w=.ok (f,v) w:=by
 cases hq:prog.info? t with
 | none=>rw [hq] at im;cases im
 | some i =>
  rw [hq] at im
  cases hm:i.methods.find? (·.name == nm) with
  | none=>simp [hm] at im
  | some m =>
   simp [hm] at im
   obtain ⟨h1,h2⟩:=im;rw [method]
   simp [typeInfo,hq,hm,follow,h1,h2]
   rw [hr]
   rfl
theorem bC {a : Addr} {v : Value} {w : World} (h : w.cell? a = some v) : (method 501 322 (.pointer (some a)) "Len").run prog w = .ok (282, v) w :=
 Lw (by kernel_rfl) _ _ w (fun _=>Uq _ h)
theorem Fk {a : Addr} {v : Value} {w : World} (h : w.cell? a = some v) : (method 501 322 (.pointer (some a)) "Less").run prog w = .ok (400, v) w :=
 Lw (by kernel_rfl) _ _ w (fun _=>Uq _ h)
theorem Iv {a : Addr} {v : Value} {w : World} (h : w.cell? a = some v) : (method 501 322 (.pointer (some a)) "Swap").run prog w = .ok (401, v) w :=
 Lw (by kernel_rfl) _ _ w (fun _=>Uq _ h)
def N4 (a b:Int):Int:=if a<b then -1 else if b<a then 1 else 0
def mX (x y:Int):Int:=if x≠0 then x else y
theorem rD (x y:Cd):decide (mX (N4 x.1 y.1) (N4 x.2 y.2)<0)=Li x y:=by
 unfold Li;apply decide_eq_decide.2;unfold mX N4
 by_cases h1:x.1<y.1
 ·simp [h1]
 ·by_cases h2:y.1<x.1
  ·have h3:¬ (x.1=y.1):=by omega
   simp [h1,h2,h3]
  ·have h3:x.1=y.1:=by omega
   simp [h3]
   by_cases h4:x.2<y.2
   ·simp [h4]
   ·by_cases h5:y.2<x.2
    ·simp [h4,h5]
    ·simp [h4,h5]
theorem L6 (a:Int) (w:World):Calls prog 187 #[.int .i64 a] w fun e w'=>e=.returned (.bool false)∧w'=w:=by
 go_enter func187,ntmps187
 go_wp2;go_ret
 exact ⟨Aa (by simp),rfl⟩
theorem Mf (a b:Int) (w:World):Calls prog 151 #[.int .i64 a,.int .i64 b] w fun e w'=>e=.returned (.int .i64 (N4 a b))∧w'=w:=by
 by_cases h1:a<b
 ·have HE:Hid (N4 a b = -1):=if_pos h1
  go_enter func151,ntmps151
  go_wp2_with (go_at_call 187;refine (L6 _ _).mono ?_;rintro e w' ⟨rfl,rfl⟩)
  go_ret;exact ⟨Af HE.o.symm,rfl⟩
 ·by_cases h2:b<a
  ·have HE:Hid (N4 a b=1):=by rw [Hid,N4,if_neg h1,if_pos h2]
   go_enter func151,ntmps151
   go_wp2_with (go_at_call 187;refine (L6 _ _).mono ?_;rintro e w' ⟨rfl,rfl⟩)
   go_ret;exact ⟨Af HE.o.symm,rfl⟩
  ·have HE:Hid (N4 a b=0):=by rw [Hid,N4,if_neg h1,if_neg h2]
   go_enter func151,ntmps151
   go_wp2_with (go_at_call 187;refine (L6 _ _).mono ?_;rintro e w' ⟨rfl,rfl⟩)
   go_ret;exact ⟨Af HE.o.symm,rfl⟩
theorem oE (g:Nat) (x y:Int) (w:World) (c0:w.cell? ⟨g,0,none⟩=some (.int .i64 x)) (c1:w.cell? ⟨g,1,none⟩=some (.int .i64 y)) :
  Calls prog 150 #[.slice (some ⟨g,0,none⟩) 2 2] w fun e w'=>e=.returned (.int .i64 (mX x y))∧w'=w:=by
 by_cases h1:x=0
 ·have h1':(x != 0)=false:=by simpa using h1
  by_cases h2:y=0
  ·have h2':(y != 0)=false:=by simpa using h2
   have HE:Hid ((mX x y)=0):=by rw [Hid,mX,if_neg (fun h=>h h1),h2]
   clear h1 h2
   go_enter func150,ntmps150
   go_wp2;refine wp_loop_rounds 3 ?_;rw [rounds_succ];go_wp2;rw [rounds_succ];go_wp2;rw [rounds_succ];go_wp2;go_ret;exact ⟨Af HE.o.symm,rfl⟩
  ·have h2':(y != 0)=true:=by simpa using h2
   have HE:Hid ((mX x y)=y):=by rw [Hid,mX,if_neg (fun h=>h h1)]
   clear h1 h2
   go_enter func150,ntmps150
   go_wp2;refine wp_loop_rounds 2 ?_;rw [rounds_succ];go_wp2;rw [rounds_succ];go_wp2;go_ret;exact ⟨Af HE.o.symm,rfl⟩
 ·have h1':(x != 0)=true:=by simpa using h1
  have HE:Hid ((mX x y)=x):=by rw [Hid,mX,if_pos h1]
  clear h1
  go_enter func150,ntmps150
  go_wp2;refine wp_loop_rounds 1 ?_;rw [rounds_succ];go_wp2;go_ret;exact ⟨Af HE.o.symm,rfl⟩
theorem Dk {q:Option (Nat×Obj)} {w u:World} {H:List Cd} {g cap:Nat} (h:HP q w H (some ⟨g,0,none⟩) cap u) (i k:Nat) (hi:i<H.length) (hk:k<H.length) :
  Calls prog 400 #[.slice (some ⟨g,0,none⟩) H.length cap,.int .i64 i,.int .i64 k] u fun e u'=>e=.returned (.bool (Li (Bc H i) (Bc H k)))∧BW u u':=by
 obtain ⟨k0,k1⟩:=h.at hi;obtain ⟨k2,k3⟩:=h.at hk;have HE:Hid (decide (mX (N4 (Bc H i).1 (Bc H k).1) (N4 (Bc H i).2 (Bc H k).2)<0)=Li (Bc H i) (Bc H k)):=rD _ _;clear h;obtain ⟨⟨a,b⟩,hab⟩:∃ x,Bc H i=x:=⟨_,rfl⟩;obtain ⟨⟨x,y⟩,hxy⟩:∃ x,Bc H k=x:=⟨_,rfl⟩;rw [hab,hxy] at HE ⊢;rw [hab] at k0 k1;rw [hxy] at k2 k3
 simp only at k0 k1 k2 k3 HE
 obtain ⟨p,hp⟩:∃ p,N4 a x=p:=⟨_,rfl⟩;obtain ⟨r,hr⟩:∃ r,N4 b y=r:=⟨_,rfl⟩;rw [hp,hr] at HE
 have HPX:Hid (∀ w,Calls prog 151 #[.int .i64 a,.int .i64 x] w fun e w'=>e=.returned (.int .i64 p)∧w'=w):=fun w=>by rw [← hp];exact Mf _ _ _
 have HRX:Hid (∀ w,Calls prog 151 #[.int .i64 b,.int .i64 y] w fun e w'=>e=.returned (.int .i64 r)∧w'=w):=fun w=>by rw [← hr];exact Mf _ _ _
 have hi':(i:Int)<(H.length:Int):=by omega
 have hk':(k:Int)<(H.length:Int):=by omega
 clear hp hr hab hxy
 go_enter func400,ntmps400
 go_wp2
 go_region_held3 (fun w'=>w'.cell? ⟨g,i*2,none⟩=some (.int .i64 a)∧w'.cell? ⟨g,i*2+1,none⟩=some (.int .i64 b)∧w'.cell? ⟨g,k*2,none⟩=some (.int .i64 x)∧w'.cell? ⟨g,k*2+1,none⟩=some (.int .i64 y)) (first | exact ⟨k0,k1,k2,k3⟩ | (simp [go_sem,World.cell?_alloc_some,k0,k1,k2,k3];done)) ((first
  | (go_at_call_of 151 (Value.int .i64 x);refine (HPX.o _).mono ?_;rintro e w' ⟨rfl,rfl⟩)
  | (go_at_call_of 151 (Value.int .i64 y);refine (HRX.o _).mono ?_;rintro e w' ⟨rfl,rfl⟩)
  | (go_at_call 150;refine (oE _ p r _ ?_ ?_).mono ?_;simp [go_sem];simp [go_sem];rintro e w' ⟨rfl,rfl⟩)))
 all_goals
  go_wp2;go_ret
  exact ⟨Aa HE.o,by go_grown⟩
theorem Ke {q:Option (Nat×Obj)} {w u:World} {H:List Cd} {g cap:Nat} (h:HP q w H (some ⟨g,0,none⟩) cap u) (i k:Nat) (hik:i<k) (hk:k<H.length) :
  Calls prog 401 #[.slice (some ⟨g,0,none⟩) H.length cap,.int .i64 i,.int .i64 k] u fun e u'=>e=.returned (.tuple #[])∧HP q w (Cu H i k) (some ⟨g,0,none⟩) cap u':=by
 have hi:i<H.length:=by omega
 obtain ⟨k0,k1⟩:=h.at hi;obtain ⟨k2,k3⟩:=h.at hk;have f0:u.frozen? ⟨g,i*2,none⟩=false:=h.own.frozenAt _;have f1:u.frozen? ⟨g,i*2+1,none⟩=false:=h.own.frozenAt _;have f2:u.frozen? ⟨g,k*2,none⟩=false:=h.own.frozenAt _;have f3:u.frozen? ⟨g,k*2+1,none⟩=false:=h.own.frozenAt _
 have HR:Hid (HP q w (Cu H i k) (some ⟨g,0,none⟩) cap ((((u.setCell ⟨g,i*2,none⟩ (.int .i64 (Bc H k).1)).setCell ⟨g,i*2+1,none⟩ (.int .i64 (Bc H k).2)).setCell ⟨g,k*2,none⟩ (.int .i64 (Bc H i).1)).setCell ⟨g,k*2+1,none⟩ (.int .i64 (Bc H i).2))) :=
  (h.setAt hi (Bc H k)).setAt (by rw [List.length_set];exact hk) (Bc H i)
 obtain ⟨⟨a,b⟩,hab⟩:∃ x,Bc H i=x:=⟨_,rfl⟩;obtain ⟨⟨x,y⟩,hxy⟩:∃ x,Bc H k=x:=⟨_,rfl⟩;rw [hab,hxy] at HR;rw [hab] at k0 k1;rw [hxy] at k2 k3
 simp only at k0 k1 k2 k3 HR
 have hi':(i:Int)<(H.length:Int):=by omega
 have hk':(k:Int)<(H.length:Int):=by omega
 have n1:¬ i*2=k*2:=by omega
 have n2:¬ i*2+1=k*2:=by omega
 have n3:¬ i*2=k*2+1:=by omega
 have n4:¬ i*2+1=k*2+1:=by omega
 have n5:¬ k*2=i*2:=by omega
 have n6:¬ k*2=i*2+1:=by omega
 have n7:¬ k*2+1=i*2:=by omega
 have n8:¬ k*2+1=i*2+1:=by omega
 clear h hab hxy
 go_enter func401,ntmps401
 go_region_with (fail)
 all_goals
  go_wp2;go_end0;exact ⟨rfl,HR.o.below (bR.drew)⟩
theorem Ua (w:World) (base:Nat) (ty:TypeId) (v:Value) (n:Nat) (xs:List Value) (hown:w.ownsRow base 294 2 v n xs) (gs c:Nat) (x:Cd) (h0:w.cell? ⟨gs,0,none⟩=some (.int .i64 x.1)) (h1:w.cell? ⟨gs,1,none⟩=some (.int .i64 x.2))
  (hn:n+1≤5000000) (hbase:base≤w.heap.size) :
  ∃ v' w',(Builtin.append_ #[291,291] ty #[v,.slice (some ⟨gs,0,none⟩) 1 c]).run prog w=.ok v' w'∧w'.ownsRow base 294 2 v' (n+1) (xs++Nj x)∧w.grownBy w' v.ownBlock:=by
 obtain ⟨i0,hi,hz0,hz1,hz2⟩:=info_parts iP
 have hnews:∀ j u,(Nj x)[j]?=some u→w.cell? ((⟨gs,0,none⟩:Addr).add j)=some u:=by
  intro j u hj
  have hlt:j<2:=by have:=(List.getElem?_eq_some_iff.1 hj).1;simpa [Nj] using this
  rcases (show j=0∨j=1 by omega) with rfl | rfl
  ·simp [Nj] at hj;subst hj;simpa [Addr.add] using h0
  ·simp [Nj] at hj;subst hj;simpa [Addr.add] using h1
 obtain ⟨v',w',h1,h2,h3,_⟩:=run_append_own_at (P:=prog) w base 291 ty 294 i0 _ 2 16 underlying291 hi hz0 hz1 hz2 rfl (by decide) v n xs hown ⟨gs,0,none⟩ 1 c (Nj x) rfl hnews (Yu [x]) (by unfold maxLen;omega) (by omega) hbase
 exact ⟨v',w',h1,h2,h3⟩
theorem Rs {ops:Array Oper} {o:Oper} {a:Act} {w:World} {K:Act→World→Prop} {Q:Exit→Act→World→Prop} {E:Prop} (hgd:o.guard=none) (s x:Operand)
  (ho:o.op=.call { callee:=.builtin .append,args:=#[s,x],argTypes:=#[291,291] }) (base:Nat) (v:Value) (n:Nat) (xs:List Value) (hs:a.eval s=v) (hown:w.ownsRow base 294 2 v n xs)
  (gs c:Nat) (y:Cd) (hx:a.eval x=.slice (some ⟨gs,0,none⟩) 1 c) (h0:w.cell? ⟨gs,0,none⟩=some (.int .i64 y.1)) (h1:w.cell? ⟨gs,1,none⟩=some (.int .i64 y.2)) (hn:n+1≤5000000) (hbase:base≤w.heap.size)
  (h:∀ v' w',w'.ownsRow base 294 2 v' (n+1) (xs++Nj y)→w.grownBy w' v.ownBlock→K (a.put o.dst v') w') :
  if Region.wanted o (yielded ops a.tmps)=true then Oper.wp prog o a w K Q else E:=by
 have hw:Region.wanted o (yielded ops a.tmps)=true:=by simp [Region.wanted,hgd]
 rw [if_pos hw];obtain ⟨v',w',hr,h1,h2⟩:=Ua w base o.type v n xs hown gs c y h0 h1 hn hbase;unfold Oper.wp execOp
 simp only [ho,resolve,invoke,builtin,Sem.run_bind,Sem.run_pure,Result.andThen_ok,List.map_toArray,List.map_cons,List.map_nil,hs,hx,hr]
 exact h v' w' h1 h2
theorem qJ {w:World} {base n:Nat} {v:Value} {xs:List Value} (h:w.ownsRow base 294 2 v (n+1) xs):∃ g cap,v=.slice (some ⟨g,0,none⟩) (n+1) cap:=by
 rcases h.2 with ⟨_,h0⟩ | ⟨g,c,cur,rfl,_⟩
 ·omega
 ·exact ⟨g,c,rfl⟩
theorem iH {w:World} {base n size:Nat} {t:TypeId} {v:Value} {xs:List Value} (h:w.ownsRow base t size v n xs) (p:Addr) (u:Value) (hp:∀ g,v.ownBlock=some g→g≠p.block):(w.setCell p u).ownsRow base t size v n xs:=by
 obtain ⟨h1,h2⟩:=h;refine ⟨h1,?_⟩
 rcases h2 with h | ⟨g,cap,cur,hv,hg,hh,a1,a2,a3,a4⟩
 ·exact .inl h
 ·exact .inr ⟨g,cap,cur,hv,hg,(Below.heap_setCell w p u g (hp g (by rw [hv];rfl))).trans hh,a1,a2,a3,a4⟩
theorem taC (s p:Int) (W:World):(Instr.typeAssert (.iface 294 (.agg #[.int .i64 s,.int .i64 p])) 20 294 false).run prog W=.ok (.agg #[.int .i64 s,.int .i64 p]) W:=by kernel_rfl
theorem tH (s p:Int) (W:World):(Instr.typeAssert (.iface 294 (.agg #[.int .i64 s,.int .i64 p])) 20 294 true).run prog W=.ok (.tuple #[.agg #[.int .i64 s,.int .i64 p],.bool true]) W:=by kernel_rfl
theorem eV {w u:World} {H:List Cd} {ao:Option Addr} {cap:Nat} (h:HP none w H ao cap u) (s p:Int) (hn:H.length≤1000) :
  Calls prog 403 #[.pointer (some ⟨w.heap.size,0,none⟩),.iface 294 (.agg #[.int .i64 s,.int .i64 p])] u fun e u'=>e=.returned (.tuple #[])∧∃ g c,HP none w (H++[(s,p)]) (some ⟨g,0,none⟩) c u':=by
 have HH:Hid (HP none w H ao cap u):=h;have k0:=h.box;have f0:=h.fz;have hlt:=h.lt;have ta:=taC s p;clear h
 go_enter func403,ntmps403
 have k1:∀ o,(u.alloc o).cell? ⟨w.heap.size,0,none⟩=some (.slice ao H.length cap):=fun o=>by rw [World.cell?_alloc_lt _ _ _ hlt];exact k0
 go_region_law ((refine Rs rfl (.tmp 7) (.tmp 10) rfl (w.heap.size+1) (.slice ao H.length cap) H.length (Fj H) (by rfl) (pT HH.o.own (by go_grown)) u.heap.size 1 (s,p) (by rfl) (by simp [go_sem]) (by simp [go_sem]) (by omega) (by simp;omega) ?_;intro v5 w5 o5 g5;obtain ⟨h5,k5,rfl⟩:=qJ o5;have c5:w5.cell? ⟨w.heap.size,0,none⟩=some (.slice ao H.length cap):=(g5.cell_far ⟨w.heap.size,0,none⟩ (by simp;omega) HH.o.apart).trans (by simp [go_sem,World.cell?_alloc_some,k0]);have z5:w5.frozen? ⟨w.heap.size,0,none⟩=false:=(g5.frozen_far ⟨w.heap.size,0,none⟩ (by simp;omega) HH.o.apart).trans (by have:=((Below.refl u.heap.size u).alloc nL (.cells #[.int .i64 s,.int .i64 p] 294)).frozen (p:=⟨w.heap.size,0,none⟩) hlt;simpa [f0] using this)))
 all_goals
  have HO:Hid (w5.ownsRow (w.heap.size+1) 294 2 (.slice (some ⟨h5,0,none⟩) (H++[(s,p)]).length k5) (H++[(s,p)]).length (Fj (H++[(s,p)]))):=by rw [Hid,List.length_append,Sa];exact o5
  have HB:Hid (BW w w5):=Below.grown (HP.below HH.o (by go_grown)).bel g5 (by simp;omega) (fun j hj=>by have:=(HH.o.own.lt j hj).1;omega)
  have hh5:=(o5.lt h5 rfl).1;clear o5 g5;go_wp2;go_end0
  refine ⟨rfl,h5,k5,HB.o.setCell nL _,?_,by simp [z5],?_,fun _ _ e=>by cases e⟩
  ·rw [List.length_append];exact World.cell?_setCell_same w5 ⟨w.heap.size,0,none⟩ _ c5
  ·exact iH HO.o ⟨w.heap.size,0,none⟩ _ (fun x hx=>by have e:h5=x:=Option.some.inj hx;show x≠w.heap.size;omega)
theorem qX:prog.underlying 291=some (.slice (prog.elem 291)):=by
 have e:prog.elem 291=294:=by simp [Program.elem,underlying291]
 rw [e];exact underlying291
theorem sJ:prog.elem 291=294:=by simp [Program.elem,underlying291]
theorem rX (w:World):(sizeOf 294).run prog w=.ok 2 w:=by
 obtain ⟨i0,hi,hz0,hz1,hz2⟩:=info_parts iP
 simp [sizeOf,typeInfo,hi,hz1]
theorem qE {g n c s:Nat} (hs:s≤c) (W:World):(Instr.slice 291 (.slice (some ⟨g,0,none⟩) n c) none (some (.int .i64 s)) none).run prog W=.ok (.slice (some ⟨g,0,none⟩) s c) W:=by
 rw [run_slice_h W _ _ _ _ qX .i64 _ (by omega) (by omega),sJ,rX]
 simp [Result.andThen,sliced,Addr.add]
theorem HP.cap {q:Option (Nat×Obj)} {w u:World} {H:List Cd} {g cap:Nat} (h:HP q w H (some ⟨g,0,none⟩) cap u):H.length≤cap:=by
 rcases h.own.2 with ⟨hv,_⟩ | ⟨g',c,cur,hv,_,_,hc,_⟩
 ·cases hv
 ·obtain ⟨rfl,rfl⟩:g=g'∧cap=c:=by simpa using hv
  exact hc
theorem kA {q:Option (Nat×Obj)} {w u:World} {H:List Cd} {g cap:Nat} (h:HP q w H (some ⟨g,0,none⟩) cap u) (m:Nat) (hm:H.length=m+1) (hn:H.length≤1000) :
  Calls prog 402 #[.pointer (some ⟨w.heap.size,0,none⟩)] u fun e u'=>e=.returned (.iface 294 (.agg #[.int .i64 (Bc H m).1,.int .i64 (Bc H m).2]))∧BW w u'∧∀ x o,q=some (x,o)→u'.heap[x]?=some o:=by
 have HK:Hid (∀ x o,q=some (x,o)→u.heap[x]?=some o∧w.heap.size<x):=fun x o e=>⟨(h.kp x o e).1,(h.kp x o e).2.1⟩
 have HB:Hid (BW w u):=h.bel;have k0:=h.box;have f0:=h.fz;have hlt:=h.lt
 obtain ⟨k1,k2⟩:=h.at (k:=m) (by omega)
 have hcap:=h.cap
 have hgu:=h.row (by omega)
 obtain ⟨g',e,hg1,hg2⟩:=hgu
 obtain rfl:g=g':=by simpa using e
 obtain ⟨⟨a,b⟩,hab⟩:∃ x,Bc H m=x:=⟨_,rfl⟩;rw [hab] at k1 k2 ⊢
 simp only at k1 k2 ⊢
 rw [hm] at k0 hcap hn
 have hsl:=qE (g:=g) (n:=m+1) (c:=cap) (s:=m) (by omega)
 clear hab h e
 go_enter func402,ntmps402
 go_upto_region 3 with fail
 obtain ⟨W,hW⟩:∃ W,u.alloc (.cells #[.int .i64 a,.int .i64 b] 294)=W:=⟨_,rfl⟩
 have j0:W.cell? ⟨u.heap.size,0,none⟩=some (.int .i64 a):=by rw [← hW];simp
 have j1:W.cell? ⟨u.heap.size,1,none⟩=some (.int .i64 b):=by rw [← hW];simp
 have j2:W.cell? ⟨w.heap.size,0,none⟩=some (.slice (some ⟨g,0,none⟩) (m+1) cap):=by rw [← hW,World.cell?_alloc_lt _ _ _ hlt];exact k0
 have j3:W.frozen? ⟨w.heap.size,0,none⟩=false:=by rw [← hW];have:=((Below.refl u.heap.size u).alloc nL (.cells #[.int .i64 a,.int .i64 b] 294)).frozen (p:=⟨w.heap.size,0,none⟩) hlt;rw [this];exact f0
 have HKW:Hid (∀ x o,q=some (x,o)→W.heap[x]?=some o∧w.heap.size<x):=fun x o e=>by
  obtain ⟨h1,h2⟩:=HK.o x o e;refine ⟨?_,h2⟩;rw [← hW];exact (((Below.refl u.heap.size u).alloc nL _).block x (Array.getElem?_eq_some_iff.1 h1).1).trans h1
 have HBW:Hid (BW w W):=by rw [Hid,← hW];exact HB.o.alloc HB.o.size _
 rw [hW]
 have hne:¬ w.heap.size=u.heap.size:=by omega
 have hne2:¬ u.heap.size=w.heap.size:=by omega
 clear hW k0 f0 k1 k2;go_wp2;go_ret
 refine ⟨rfl,HBW.o.setCell nL _,fun x o e=>?_⟩
 obtain ⟨h1,h2⟩:=HKW.o x o e
 rw [Below.heap_setCell _ _ _ _ (fun e=>by have e:x=w.heap.size:=e;omega)]
 exact h1
def iC (w:World):Value:=.iface 322 (.pointer (some ⟨w.heap.size,0,none⟩))
theorem Mv (ao:Option Addr) (n cap:Nat) (u:World):Calls prog 282 #[.slice ao n cap] u fun e u'=>e=.returned (.int .i64 n)∧u'=u:=by
 go_enter func282,ntmps282
 go_wp2;go_ret;exact ⟨rfl,rfl⟩
theorem fU {H:List Cd} {j:Nat} (h:Qr H j) (h0:0<j) (hj:j<H.length) (hl:Li (Bc H j) (Bc H (Lp j))=true):Qr (Cu H (Lp j) j) (Lp j):=by
 unfold Qr;have hp:=J0 h0
 rw [gP (show Lp j<H.length by omega) hj,Hc]
 exact dR h h0 hj hl
theorem qI {w u:World} {H:List Cd} {g cap:Nat} (h:HP none w H (some ⟨g,0,none⟩) cap u) (j:Nat) (hj:j<H.length) (hn:H.length≤1000) (hnear:Qr H j) :
  Calls prog 310 #[iC w,.int .i64 j] u fun e u'=>e=.returned (.tuple #[])∧∃ G,HP none w G (some ⟨g,0,none⟩) cap u'∧F1 G∧Fv H G:=by
 have HH:Hid (HP none w H (some ⟨g,0,none⟩) cap u):=h;have HN:Hid (Qr H j):=hnear;clear h hnear;unfold iC
 go_enter func310,ntmps310
 go_wp2
 go_loopw [1,4] (fun v _ wr=>∃ (k:Nat) (G:List Cd),k≤j∧v=.int .i64 k∧HP none w G (some ⟨g,0,none⟩) cap wr∧Qr G k∧Fv H G) (fun v _ _=>(intOf v).toNat)
 case atStart=>exact ⟨j,H,nL,rfl,HH.o,HN.o,Fv.refl H⟩
 case round =>
  obtain ⟨k,G,hk,rfl,hp,hne,hs⟩:=hrel;have HGL:Hid (G.length=H.length):=hs.1
  have hkG:k<G.length:=by have:=HGL.o;omega
  have HP0:Hid (HP none w G (some ⟨g,0,none⟩) cap wr):=hp;have HNE:Hid (Qr G k):=hne;have HS:Hid (Fv H G):=hs;have hbox:=hp.box;have hml:=Fk hbox;have hms:=Iv hbox;clear HH HN hp hne hs
  by_cases hk0:k=0
  ·subst hk0
   have hq:(-1:Int).tdiv 2=0:=by decide
   go_wp2;go_end0;exact ⟨rfl,G,HP0.o,Tt HNE.o (.inl rfl),HS.o⟩
  ·have hq:((k:Int) - 1).tdiv 2=((Lp k:Nat):Int):=by
     unfold Lp
     rw [Int.tdiv_eq_ediv_of_nonneg (by omega)]
     omega
   have hpk:=J0 (show 0<k by omega)
   obtain ⟨p,hpe⟩:∃ p,Lp k=p:=⟨_,rfl⟩
   have HSW:Hid (Li (Bc G k) (Bc G (Lp k))=true→Qr (Cu G (Lp k) k) (Lp k)):=fun hl=>fU HNE.o (by omega) hkG hl
   have HDN:Hid (Li (Bc G k) (Bc G (Lp k))=false→F1 G):=fun hl=>Tt HNE.o (.inr hl)
   rw [hpe] at hq hpk HSW HDN
   have hneq:((p:Int) == (k:Int))=false:=by simp;omega
   have hkk:(0:Int)<(k:Int):=by omega
   clear hpe
   cases hl:Li (Bc G k) (Bc G p)
   ·have HL:Hid (∀ v,HP none w G (some ⟨g,0,none⟩) cap v→Calls prog 400 #[.slice (some ⟨g,0,none⟩) G.length cap,.int .i64 k,.int .i64 p] v fun e u'=>e=.returned (.bool false)∧BW v u'):=fun v hv=>by rw [← hl];exact Dk hv k p hkG (by omega)
    have HIS:Hid (F1 G):=HDN.o hl;go_wp2_with fail
    refine (HL.o _ HP0.o).mono ?_;rintro e u2 ⟨rfl,b2⟩;have HP2:Hid (HP none w G (some ⟨g,0,none⟩) cap u2):=HP0.o.below b2;clear b2;go_wp2;go_end0;exact ⟨rfl,G,HP2.o,HIS.o,HS.o⟩
   ·have HL:Hid (∀ v,HP none w G (some ⟨g,0,none⟩) cap v→Calls prog 400 #[.slice (some ⟨g,0,none⟩) G.length cap,.int .i64 k,.int .i64 p] v fun e u'=>e=.returned (.bool true)∧BW v u'):=fun v hv=>by rw [← hl];exact Dk hv k p hkG (by omega)
    have HSG:Hid (Qr (Cu G p k) p):=HSW.o hl
    have HSS:Hid (Fv H (Cu G p k)):=HS.o.trans (gQ (by omega) hkG)
    go_wp2_with fail
    refine (HL.o _ HP0.o).mono ?_;rintro e u2 ⟨rfl,b2⟩;have hp2:=HP0.o.below b2;have HP2:Hid (HP none w G (some ⟨g,0,none⟩) cap u2):=hp2;have hms2:=Iv hp2.box;clear b2 hms hml hp2;go_wp2_with fail
    refine (Ke HP2.o p k hpk hkG).mono ?_;rintro e u3 ⟨rfl,hp3⟩;have HP3:Hid (HP none w (Cu G p k) (some ⟨g,0,none⟩) cap u3):=hp3;clear hp3;go_wp2
    go_roundw
    case rel=>exact ⟨p,Cu G p k,by omega,rfl,HP3.o,HSG.o,HSS.o⟩
    case measure=>simp [intOf];omega
end Go.Proofs.YtomiclakhjncbaaGreatDoor
namespace Go.Proofs.YtomiclakhjncbaaGreatDoor
open Go.RowKit Go.Maps Go.Proofs.Tryz
set_option maxRecDepth 100000
set_option maxHeartbeats 12800000
def Dp (a c:Int):Lit:=.string (keyBytes [.int .i64 a,.int .i64 c])
section
variable {P:Program} {k:TypeId} {f0 f1:Field}
theorem gJ {n : Nat} (hu : P.underlying k = some (.struct #[f0, f1])) (hkt : P.keyType k = true) (ck : P.cellsOf k = 2) (o0 : f0.offset = 0) (o1 : f1.offset = 1) (n0 : (f0.name != "_") = true) (n1 : (f1.name != "_") = true)
  (c0:P.cellsOf f0.type=1) (c1:P.cellsOf f1.type=1) (u0:P.underlying f0.type=some (.int .i64)) (u1:P.underlying f1.type=some (.int .i64)) (hn:P.types.size=n+1) {a c:Int} (ha:Bf a) (hc:Bf c):keyOf P k (.agg #[.int .i64 a,.int .i64 c])=some (Dp a c):=by
 have ha':(Lit.int .i64 a).wf=true:=ha;have hc':(Lit.int .i64 c).wf=true:=hc
 simp only [bne_iff_ne,ne_eq] at n0 n1
 simp [keyOf,hu,hkt,Value.formed,ck,hn,Program.keyLits,Value.cells,o0,o1,c0,c1,u0,u1,n0,n1,ha',hc',Dp]
theorem Pg {d:Nat} {t:TypeId} (u0:P.underlying t=some (.int .i64)) {u:Value} {l:List Lit} (h:P.keyLits (d+1) t [u]=some l):∃ x,u=.int .i64 x∧l=[.int .i64 x]∧Bf x:=by
 cases u <;> simp [Program.keyLits,u0] at h
 obtain ⟨⟨rfl,hw⟩,rfl⟩:=h;exact ⟨_,rfl,rfl,hw⟩
theorem Zs {n:Nat} (hu:P.underlying k=some (.struct #[f0,f1])) (hkt:P.keyType k=true) (ck:P.cellsOf k=2) (o0:f0.offset=0) (o1:f1.offset=1)
  (c0:P.cellsOf f0.type=1) (c1:P.cellsOf f1.type=1) (u0:P.underlying f0.type=some (.int .i64)) (u1:P.underlying f1.type=some (.int .i64)) (hn:P.types.size=n+1) {key:Value} {kl:Lit} (h:keyOf P k key=some kl) :
  ∃ a c,key=.agg #[.int .i64 a,.int .i64 c]∧kl=Dp a c∧Bf a∧Bf c:=by
 cases key <;> simp [keyOf,hu,hkt,Value.formed,ck] at h
 rename_i cs
 obtain ⟨l⟩:=cs;obtain ⟨hl,ls,hk,rfl⟩:=h
 match l,hl with
 | [u,v],_ =>
  rw [hn] at hk;unfold Program.keyLits at hk
  simp only [hu] at hk
  split at hk
  ·simp only [List.mapM_cons,List.mapM_nil,o0,o1,c0,c1,List.drop_zero] at hk
   have e1:(List.take 1 (Value.agg { toList:=[u,v] }).cells.toList)=[u]:=rfl;have e2:(List.take 1 (List.drop 1 (Value.agg { toList:=[u,v] }).cells.toList))=[v]:=rfl;rw [e1,e2] at hk
   cases h0:P.keyLits (n+1) f0.type [u] with
   | none=>rw [h0] at hk;cases hk
   | some l0 =>
    cases h1:P.keyLits (n+1) f1.type [v] with
    | none=>rw [h0,h1] at hk;cases hk
    | some l1 =>
     rw [h0,h1] at hk
     have hk':([l0,l1]:List (List Lit)).flatten=ls:=by simpa using hk
     obtain ⟨x,rfl,rfl,hx⟩:=Pg u0 h0;obtain ⟨y,rfl,rfl,hy⟩:=Pg u1 h1
     exact ⟨x,y,rfl,by rw [← hk'];rfl,hx,hy⟩
  ·cases hk
end
theorem Em:(128:TypeId)<prog.types.size:=of_decide_eq_true (by kernel_rfl)
theorem jF:prog.cellsOf 128=2:=by kernel_rfl
theorem pP:prog.keyType 128=true:=by kernel_rfl
theorem sB:(match prog.underlying 128 with | some (.array _ _) | some (.struct _)=>true | _=>false)=true:=by kernel_rfl
theorem jS:WideMaps.KeyLaw prog 128:=deep_law_laid Uc (m:=3) (by omega) Em (by kernel_rfl) sB
theorem Tx:Keyed prog 128:=Keyed.of_law jS
theorem Uf:prog.cellsOf 3=1:=by kernel_rfl
theorem jM:∃ n,prog.types.size=n+1:=⟨prog.types.size - 1,(Nat.succ_pred_eq_of_pos (Nat.lt_of_le_of_lt (Nat.zero_le _) Em)).symm⟩
theorem L9 {a c:Int} (ha:Bf a) (hc:Bf c):keyOf prog 128 (.agg #[.int .i64 a,.int .i64 c])=some (Dp a c) :=
 let ⟨_,hn⟩:=jM
 gJ underlying128 pP jF rfl rfl (by decide) (by decide) Uf Uf underlying3 underlying3 hn ha hc
theorem Sg {key:Value} {kl:Lit} (h:keyOf prog 128 key=some kl):∃ a c,key=.agg #[.int .i64 a,.int .i64 c]∧kl=Dp a c∧Bf a∧Bf c :=
 let ⟨_,hn⟩:=jM
 Zs underlying128 pP jF rfl rfl Uf Uf underlying3 underlying3 hn h
theorem Rh {a c a' c':Int} (ha:Bf a) (hc:Bf c) (ha':Bf a') (hc':Bf c') (h:Dp a c=Dp a' c'):a=a'∧c=c':=by
 have:=Tx.inj (L9 ha hc) (h ▸ L9 ha' hc')
 simpa using this
def F5 (w:World) (b n:Nat) (f:Int→Int→Option Int):Prop :=
 ∃ D:DataW Unit,w.ownsMap prog 128 (plainElem (H:=Unit) prog 3) b n D ∧
  (∀ a c,Bf a→Bf c→Maps.has D (Dp a c)=(f a c).isSome∧D.atKey (Dp a c) (.lit (.int .i64 0))=.lit (.int .i64 ((f a c).getD 0)))∧∀ a c,f a c≠none→Bf a∧Bf c
theorem Nh (a c:Int):WideAt.IsKeyLit (Dp a c):=trivial
theorem fO {D:DataW Unit} {f:Int→Int→Option Int} (hm:IsMap D) (h:∀ a c,Bf a→Bf c→Maps.has D (Dp a c)=(f a c).isSome∧D.atKey (Dp a c) (.lit (.int .i64 0))=.lit (.int .i64 ((f a c).getD 0))) {a c v:Int} (ha:Bf a) (hc:Bf c) :
  ∀ a' c',Bf a'→Bf c'→Maps.has (D.put (Dp a c) (.lit (.int .i64 v))) (Dp a' c')=(if a'=a∧c'=c then some v else f a' c').isSome∧(D.put (Dp a c) (.lit (.int .i64 v))).atKey (Dp a' c') (.lit (.int .i64 0))=.lit (.int .i64 ((if a'=a∧c'=c then some v else f a' c').getD 0)):=by
 intro a' c' ha' hc'
 by_cases he:a'=a∧c'=c
 ·obtain ⟨rfl,rfl⟩:=he
  rw [if_pos ⟨rfl,rfl⟩,Maps.has_put_same hm (Nh _ _),Maps.atKey_put_same hm (Nh _ _)];exact ⟨rfl,rfl⟩
 ·have hne:Dp a' c'≠Dp a c:=fun e=>he (Rh ha' hc' ha hc e)
  rw [if_neg he,Maps.has_put_other hne,Maps.atKey_put_other hne];exact h a' c' ha' hc'
theorem eN {D:DataW Unit} {f:Int→Int→Option Int} (h:∀ a c,Bf a→Bf c→Maps.has D (Dp a c)=(f a c).isSome∧D.atKey (Dp a c) (.lit (.int .i64 0))=.lit (.int .i64 ((f a c).getD 0))) {a c:Int} (ha:Bf a) (hc:Bf c) :
  ∀ a' c',Bf a'→Bf c'→Maps.has (D.del (Dp a c)) (Dp a' c')=(if a'=a∧c'=c then none else f a' c').isSome∧(D.del (Dp a c)).atKey (Dp a' c') (.lit (.int .i64 0))=.lit (.int .i64 ((if a'=a∧c'=c then none else f a' c').getD 0)):=by
 intro a' c' ha' hc'
 by_cases he:a'=a∧c'=c
 ·obtain ⟨rfl,rfl⟩:=he
  rw [if_pos ⟨rfl,rfl⟩,Maps.has_del_same,Maps.atKey_del_same];exact ⟨rfl,rfl⟩
 ·have hne:Dp a' c'≠Dp a c:=fun e=>he (Rh ha' hc' ha hc e)
  rw [if_neg he,Maps.has_del_other hne,Maps.atKey_del_other hne];exact h a' c' ha' hc'
theorem F5.kept {w w':World} {b n:Nat} {f:Int→Int→Option Int} {row:Option Nat} (h:F5 w b n f) (hg:w.grownBy w' row) (hne:some b≠row):F5 w' b n f:=by
 obtain ⟨D,h1,h2,h3⟩:=h;exact ⟨D,h1.kept hg hne,h2,h3⟩
theorem F5.lt {w:World} {b n:Nat} {f:Int→Int→Option Int} (h:F5 w b n f):b<w.heap.size:=by
 obtain ⟨D,h1,_⟩:=h;exact h1.lt
theorem F5.below {w w':World} {b n:Nat} {f:Int→Int→Option Int} (h:F5 w b n f) (hb:BW w w'):F5 w' b n f:=by
 have hl:=h.lt;obtain ⟨D,⟨es,clock,h1,r⟩,h2,h3⟩:=h;exact ⟨D,⟨es,clock,(hb.block b hl).trans h1,r⟩,h2,h3⟩
end Go.Proofs.YtomiclakhjncbaaGreatDoor
namespace Go.Proofs.YtomiclakhjncbaaGreatDoor
open Go.RowKit Go.Maps Go.MapKept Go.ChangeMaps Go.Proofs.Tryz
open Go.WideElems (Fit)
open Go.WideMaps (KeyLaw)
set_option maxRecDepth 100000
set_option maxHeartbeats 12800000
section
variable {H:Type} {P:Program} {w:World} {t k e:TypeId} {R:Value→Option (DataW H×List MemPlace)} {b:Nat} {es:Array MapEntry} {clock:Nat}
theorem Ob {α:Type} : ∀ (l:List α) (j:Nat) (x:α),l[j]?=some x→l.set j x=l
 | [],_,_,h=>by simp at h
 | y::r,0,x,h=>by simp at h;subst h;rfl
 | y::r,j+1,x,h=>by simp at h;simp [Ob r j x h]
theorem iU (K:KeyLaw P k) (ht:P.underlying t=some (.map k e)) {z:Value} (hz:∀ u:World,(zeroValue e).run P u=.ok z u) (hb:w.heap[b]?=some (.map es clock)) (F:Fit P k R es clock) {key:Value} {kl:Lit} (hkey:keyOf P k key=some kl) :
  ∃ (v0:Value) (st:Nat) (es1:Array MapEntry) (clock1:Nat),(Instr.mapEntry t (.map (some b)) key).run P w=.ok (.tuple #[v0,goInt st]) (setBlock w b (.map es1 clock1)) ∧
   (Instr.mapUpdate t (.map (some b)) key v0).run P w=.ok () (setBlock w b (.map es1 clock1))∧(Instr.lookup t (.map (some b)) key false).run P w=.ok v0 w:=by
 rcases K.find w hkey es.toList F.keys with ⟨h1,h2⟩ | ⟨j,e0,h1,h2,h3⟩
 ·refine ⟨z,clock,es.push ⟨key,z,clock⟩,clock+1,?_,?_,?_⟩
  ·simp [Instr.mapEntry,run_underlying ht,MapKept.run_getObj_map hb,K.check w false hkey,h1,hz,MapKept.run_setObj_map _ hb,Result.andThen,setBlock]
  ·simp [Instr.mapUpdate,run_underlying ht,MapKept.run_getObj_map hb,K.check w false hkey,h1,MapKept.run_setObj_map _ hb,Result.andThen,setBlock]
  ·simp [Instr.lookup,run_underlying ht,MapKept.run_getObj_map hb,K.check w _ hkey,h1,hz,Result.andThen]
 ·have hj:es[j]?=some e0:=by simpa using h2
  have m1:es.modify j (fun e=>{ e with key:=key })=es:=by
   apply Array.ext'
   rw [Array.toList_modify,modify_eq_set _ _ _ _ h2,show ({ e0 with key:=key } : MapEntry)=e0 by rw [← h3]]
   exact Ob _ _ _ h2
  have m2:es.modify j (fun e=>{ e with key:=key,val:=e0.val })=es:=by
   apply Array.ext'
   rw [Array.toList_modify,modify_eq_set _ _ _ _ h2,show ({ e0 with key:=key,val:=e0.val } : MapEntry)=e0 by rw [← h3]]
   exact Ob _ _ _ h2
  refine ⟨e0.val,e0.born,es,clock,?_,?_,?_⟩
  ·simp [Instr.mapEntry,run_underlying ht,MapKept.run_getObj_map hb,K.check w false hkey,h1,hj,h3,K.stays w hkey,m1,MapKept.run_setObj_map _ hb,Result.andThen,setBlock]
  ·simp [Instr.mapUpdate,run_underlying ht,MapKept.run_getObj_map hb,K.check w false hkey,h1,hj,h3,K.stays w hkey,m2,MapKept.run_setObj_map _ hb,Result.andThen,setBlock]
  ·simp [Instr.lookup,run_underlying ht,MapKept.run_getObj_map hb,K.check w _ hkey,h1,Result.andThen]
end
theorem gM {W:World} {b n:Nat} {f:Int→Int→Option Int} (h:F5 W b n f) {a c v m:Int} (ha:Bf a) (hc:Bf c) (hv:(f a c).getD 0=v) (hw:Bf (v+m)) (hn:n<maxLen) :
  ∃ (st:Nat) (W1 W2:World),(Instr.mapEntry 338 (.map (some b)) (.agg #[.int .i64 a,.int .i64 c])).run prog W=.ok (.tuple #[.int .i64 v,.int .i64 st]) W1 ∧
   (Instr.lookup 338 (.map (some b)) (.agg #[.int .i64 a,.int .i64 c]) false).run prog W=.ok (.int .i64 v) W ∧
   (Instr.lookup 338 (.map (some b)) (.agg #[.int .i64 a,.int .i64 c]) false).run prog W1=.ok (.int .i64 v) W1 ∧
   (Instr.entryStore 338 (.map (some b)) (.int .i64 st) (.int .i64 (v+m))).run prog W1=.ok () W2 ∧
   (Instr.lookup 338 (.map (some b)) (.agg #[.int .i64 a,.int .i64 c]) false).run prog W2=.ok (.int .i64 (v+m)) W2 ∧
   W.grownBy W1 (some b)∧W.grownBy W2 (some b)∧F5 W2 b (n+1) (fun a' c'=>if a'=a∧c'=c then some (v+m) else f a' c'):=by
 obtain ⟨D,hown,hview,hwf⟩:=h;have hkey:=L9 ha hc;obtain ⟨es,clock,hb,F,hs,hD⟩:=hown;have hown:W.ownsMap prog 128 (plainElem (H:=Unit) prog 3) b n D:=⟨es,clock,hb,F,hs,hD⟩;obtain ⟨v0,st,es1,clock1,hE,hU,hL⟩:=iU jS underlying338 Ox hb F hkey;obtain ⟨c0,hL',hat,hwc⟩:=hown.lookup_int Tx underlying338 underlying3 (Ox _) hkey
 have hc0:c0=v:=by
  have e:=hat.symm.trans (hview a c ha hc).2;rw [hv] at e
  injection e with e1;injection e1
 have hv0:v0=.int .i64 v:=by
  rw [hL] at hL';rw [← hc0];injection hL'
 subst hv0;rw [hc0] at hwc;obtain ⟨w1,hU',hown1,hg1⟩:=hown.update Tx underlying338 hn hkey (plainElem_int underlying3 hwc)
 have hw1:w1=setBlock W b (.map es1 clock1):=by
  rw [hU] at hU'
  injection hU' with _ e;exact e.symm
 subst hw1;obtain ⟨c1,hL1,hat1,_⟩:=hown1.lookup_int Tx underlying338 underlying3 (Ox _) hkey
 have hc1:c1=v:=by
  rw [Maps.atKey_put_same hown.isMap (Nh _ _)] at hat1
  injection hat1 with e1;injection e1 with _ e2;exact e2.symm
 subst hc1;obtain ⟨v0',st',es1',clock1',hE',_,hS⟩:=WideElems.entry_then_store jS underlying338 Ox hb F hkey;have hE2:=hE.symm.trans hE'
 have hst:st=st'∧setBlock W b (.map es1 clock1)=setBlock W b (.map es1' clock1'):=by
  simp only [Result.ok.injEq,Value.tuple.injEq,goInt] at hE2
  refine ⟨?_,hE2.2⟩
  have:=hE2.1
  simp at this
  exact Int.natCast_inj.1 this.2
 obtain ⟨rfl,hbe⟩:=hst
 have hb1:(setBlock W b (.map es1 clock1)).heap[b]?=some (.map es1' clock1'):=by rw [hbe];exact heap_setBlock_same hb _
 obtain ⟨es2,clock2,hS1,hU2⟩:=hS (setBlock W b (.map es1 clock1)) (.int .i64 (c1+m)) hb1;obtain ⟨w2,hU2',hown2,hg2⟩:=hown.update Tx underlying338 hn hkey (plainElem_int underlying3 hw)
 have hw2:w2=setBlock W b (.map es2 clock2):=by
  rw [hU2] at hU2'
  injection hU2' with _ e;exact e.symm
 subst hw2
 have hbb:setBlock (setBlock W b (.map es1 clock1)) b (.map es2 clock2)=setBlock W b (.map es2 clock2):=by simp [setBlock]
 rw [hbb] at hS1;obtain ⟨c2,hL2,hat2,_⟩:=hown2.lookup_int Tx underlying338 underlying3 (Ox _) hkey
 have hc2:c2=c1+m:=by
  rw [Maps.atKey_put_same hown.isMap (Nh _ _)] at hat2
  injection hat2 with e1;injection e1 with _ e2;exact e2.symm
 subst hc2
 refine ⟨st,_,_,hE,hL,hL1,hS1,hL2,hg1,hg2,_,hown2,fO hown.isMap hview ha hc,fun a' c' hf=>?_⟩
 by_cases he:a'=a∧c'=c
 ·obtain ⟨rfl,rfl⟩:=he;exact ⟨ha,hc⟩
 ·simp only [if_neg he] at hf;exact hwf a' c' hf
end Go.Proofs.YtomiclakhjncbaaGreatDoor
namespace Go.Proofs.YtomiclakhjncbaaGreatDoor
open Go.RowKit Go.Maps Go.Proofs.Tryz
set_option maxRecDepth 100000
set_option maxHeartbeats 12800000
theorem iZ {f:Int→Int→Option Int} {a c m v:Int} (hv:(f a c).getD 0=v) (h0:v+m=0):iD f a c m=fun a' c'=>if a'=a∧c'=c then none else if a'=a∧c'=c then some (v+m) else f a' c':=by
 funext a' c'
 unfold iD
 by_cases he:a'=a∧c'=c
 ·rw [if_pos he,if_pos he,hv,if_pos h0]
 ·rw [if_neg he,if_neg he,if_neg he]
theorem iG {f:Int→Int→Option Int} {a c m v:Int} (hv:(f a c).getD 0=v) (h0:v+m≠0):iD f a c m=fun a' c'=>if a'=a∧c'=c then some (v+m) else f a' c':=by
 funext a' c'
 unfold iD
 by_cases he:a'=a∧c'=c
 ·rw [if_pos he,if_pos he,hv,if_neg h0]
 ·rw [if_neg he,if_neg he]
theorem U6 (b n:Nat) (f:Int→Int→Option Int) (a c m v:Int) (w:World) (h:F5 w b n f) (ha:Bf a) (hc:Bf c) (hv:(f a c).getD 0=v) (hbd:-9000000000000000000≤v+m∧v+m≤9000000000000000000) (hn:n<maxLen) :
  Calls prog 315 #[.map (some b),.agg #[.int .i64 a,.int .i64 c],.int .i64 m] w fun e w'=>e=.returned (.tuple #[])∧F5 w' b (n+1) (iD f a c m)∧w.grownBy w' (some b):=by
 obtain ⟨W0,hW0⟩:∃ W0,W0=w.alloc (.cells #[.int .i64 a,.int .i64 c] 128):=⟨_,rfl⟩;have hbl:b<w.heap.size:=h.lt
 have k0:W0.cell? ⟨w.heap.size,0,none⟩=some (.int .i64 a):=by rw [hW0];simp
 have k1:W0.cell? ⟨w.heap.size,1,none⟩=some (.int .i64 c):=by rw [hW0];simp
 have hs0:w.heap.size<W0.heap.size:=by rw [hW0];simp
 have G0:w.grownBy W0 (some b):=by rw [hW0];exact World.grownBy_alloc w _ _
 have M0:F5 W0 b n f:=by rw [hW0];exact h.kept (World.grownBy_alloc w _ none) (by simp)
 have M1:F5 W0.drew b n f:=M0
 obtain ⟨st,W1,W2,hE,hL,hL1,hS,hL2,hg1,hg2,M2⟩:=gM (m:=m) M1 ha hc hv (WalkArith.wf_i64 (by omega)) hn
 have hwr:IntKind.i64.wrap (v+m)=v+m:=by simp [IntKind.wrap,IntKind.bits,IntKind.signed];omega
 have x0:=(hg1.cell_far ⟨w.heap.size,0,none⟩ hs0 (by simp;omega)).trans k0
 have x1:=(hg1.cell_far ⟨w.heap.size,1,none⟩ hs0 (by simp;omega)).trans k1
 have y0:=(hg2.cell_far ⟨w.heap.size,0,none⟩ hs0 (by simp;omega)).trans k0
 have y1:=(hg2.cell_far ⟨w.heap.size,1,none⟩ hs0 (by simp;omega)).trans k1
 have G2:W0.grownBy W2 (some b):=⟨hg2.os,hg2.tape,hg2.output,hg2.size,hg2.block⟩;have HG:Hid (w.grownBy W2 (some b)):=G0.trans G2
 have HM:Hid (F5 W2 b (n+1) (fun a' c'=>if a'=a∧c'=c then some (v+m) else f a' c')):=M2
 have HKY:Hid _:=L9 ha hc;have HA:Hid (Bf a):=ha;have HC:Hid (Bf c):=hc;clear h M0 M1 M2 hg1 hg2 G0 G2 ha hc
 by_cases h0:v+m=0
 ·have h0':(v+m == 0)=true:=by simpa using h0
  have HU:Hid _:=iZ hv h0;clear h0 hv
  go_enter func315,ntmps315
  go_upto_region 1 with fail
  rw [← hW0];clear hW0
  go_region
  all_goals
   obtain ⟨D,hown,hview,hwf⟩:=HM.o;have HO:Hid (W2.ownsMap prog 128 (plainElem (H:=Unit) prog 3) b (n+1) D):=hown;have HV:Hid _:=eN hview HA.o HC.o;have HWF:Hid _:=hwf;clear hown hview hwf
   go_wp2_with (at_delete;refine wpList_delete_own _ rfl _ _ 338 128 rfl 3 Tx underlying338 _ b (n+1) D rfl HO.o _ _ rfl HKY.o ?_;intro w3 hown3 hturn3)
   have hg3:=hturn3.grown;go_end0;refine ⟨rfl,⟨_,hown3,?_,?_⟩,HG.o.trans hg3⟩
   ·rw [HU.o];exact HV.o
   ·rw [HU.o]
    intro a' c' hf
    by_cases he:a'=a∧c'=c
    ·simp only [if_pos he] at hf;exact absurd rfl hf
    ·simp only [if_neg he] at hf
     exact HWF.o a' c' (by simp only [if_neg he];exact hf)
 ·have h0':(v+m == 0)=false:=by simpa using h0
  have HU:Hid _:=iG hv h0;clear h0 hv
  go_enter func315,ntmps315
  go_upto_region 1 with fail
  rw [← hW0];clear hW0
  go_region
  all_goals
   go_wp2;go_end0;refine ⟨rfl,?_,HG.o⟩
   rw [HU.o];exact HM.o
theorem eZ (w:World):F5 (w.alloc (.map #[] 0)) w.heap.size 0 (Cf []) :=
 ⟨.map [],World.ownsMap_made w prog 128 (plainElem (H:=Unit) prog 3),fun _ _ _ _=>⟨rfl,rfl⟩,fun _ _ h=>absurd rfl h⟩
theorem tP {ls:List Ln} (h:∀ x ∈ ls,-1000000000000≤x.2.2∧x.2.2≤1000000000000) (a c:Int):-1000000000000≤(Cf ls a c).getD 0∧(Cf ls a c).getD 0≤1000000000000:=by
 cases hl:Cf ls a c with
 | none=>simp
 | some v=>have:=h _ (Mr hl);simpa using this
theorem Ut (ao:Option Addr) (cap:Nat) (ls:List Ln) (w:World) (hz:Ai w ao ls) (hn:ls.length≤400) (hs:Va ls) (hnz:NZ ls) (hbd:∀ x ∈ ls,-1000000000000≤x.2.2∧x.2.2≤1000000000000) (hwf:∀ x ∈ ls,Hw x) :
  Calls prog 314 #[.agg #[.slice ao ls.length cap]] w fun e w'=>∃ g,e=.returned (.map (some g))∧w.heap.size≤g∧F5 w' g ls.length (Cf ls)∧BW w w':=by
 have hmm:=@run_makeMap prog;obtain ⟨W,hW⟩:∃ W,W=(w.alloc (.cells #[.slice ao ls.length cap] 29)).alloc (.map #[] 0):=⟨_,rfl⟩
 have bW:BW w W:=by rw [hW];go_grown
 have hWs:W.heap.size=w.heap.size+2:=by rw [hW];simp
 have k0:W.cell? ⟨w.heap.size,0,none⟩=some (.slice ao ls.length cap):=by rw [hW];simp [go_sem]
 have M0:F5 W (w.heap.size+1) 0 (Cf []):=by
  have:=eZ (w.alloc (.cells #[.slice ao ls.length cap] 29))
  rw [hW];simpa using this
 have HZ:Hid (Ai w ao ls):=hz;have HS:Hid (Va ls):=hs;have HNZ:Hid (NZ ls):=hnz;have HBD:Hid (∀ x ∈ ls,-1000000000000≤x.2.2∧x.2.2≤1000000000000):=hbd;have HWF:Hid (∀ x ∈ ls,Hw x):=hwf;have HWB:Hid (BW w W):=bW;have HM0:Hid _:=M0;clear hz hs hnz hbd hwf bW M0
 go_enter func314,ntmps314
 go_wp2;rw [← hW];clear hW
 go_loopw [10] (fun i wr=>∃ k:Nat,k≤ls.length∧i=.int .i64 k∧F5 wr (w.heap.size+1) k (Cf (ls.take k))∧BW w wr) (fun i _=>ls.length - (intOf i).toNat)
 case atStart=>exact ⟨0,Nat.zero_le _,rfl,HM0.o,HWB.o⟩
 case round =>
  obtain ⟨k,hk,rfl,hM,hbr⟩:=hrel;have HM:Hid (F5 wr (w.heap.size+1) k (Cf (ls.take k))):=hM;have hsz:w.heap.size≤wr.heap.size:=hbr.size;have hMl:w.heap.size+1<wr.heap.size:=hM.lt;clear hM HM0
  by_cases hlt:k<ls.length
  ·have hki:(k:Int)<(ls.length:Int):=by omega
   obtain ⟨b,off,rfl,hb2,c1,c2,c3⟩:=(HZ.o.below hbr).at hlt;have hLT:=fN HS.o HNZ.o hlt;have hbk:=HBD.o _ (Ex hlt);have hwk:=HWF.o _ (Ex hlt);obtain ⟨⟨x,y,z⟩,hx⟩:∃ x,Cg ls k=x:=⟨_,rfl⟩;rw [hx] at c1 c2 c3 hLT hbk hwk
   simp only at c1 c2 c3 hLT hbk
   have hlb:=tP (ls:=ls.take k) (fun q hq=>HBD.o q (List.mem_of_mem_take hq)) x y
   have HLT:Hid _:=hLT;have HWK:Hid (Bf x∧Bf y∧Bf z):=hwk;obtain ⟨V,hV⟩:∃ V,V=wr.alloc (.cells #[.int .i64 x,.int .i64 y,.int .i64 z] 113):=⟨_,rfl⟩
   have bV:BW w V:=by rw [hV];exact hbr.alloc hsz _
   have hVs:V.heap.size=wr.heap.size+1:=by rw [hV];simp
   have MV:F5 V (w.heap.size+1) k (Cf (ls.take k)):=by rw [hV];exact HM.o.kept (World.grownBy_alloc wr _ none) (by simp)
   have v0:V.cell? ⟨wr.heap.size,0,none⟩=some (.int .i64 x):=by rw [hV];simp
   have v1:V.cell? ⟨wr.heap.size,1,none⟩=some (.int .i64 y):=by rw [hV];simp
   have v2:V.cell? ⟨wr.heap.size,2,none⟩=some (.int .i64 z):=by rw [hV];simp
   obtain ⟨t,ht⟩:∃ t,(Cf (ls.take k) x y).getD 0=t:=⟨_,rfl⟩;rw [ht] at hlb;have HT:Hid _:=ht;have HBV:Hid (BW w V):=bV;have HMV:Hid (F5 V (w.heap.size+1) k (Cf (ls.take k))):=MV;have HVW:Hid (w.heap.size≤V.heap.size):=bV.size
   have HKP:Hid (∀ u,BW V u→u.cell? ⟨wr.heap.size,0,none⟩=some (.int .i64 x)∧u.cell? ⟨wr.heap.size,1,none⟩=some (.int .i64 y)∧u.cell? ⟨wr.heap.size,2,none⟩=some (.int .i64 z)):=fun u hu =>
    ⟨(hu.cell (p:=⟨wr.heap.size,0,none⟩) (by show wr.heap.size<V.heap.size;omega)).trans v0,(hu.cell (p:=⟨wr.heap.size,1,none⟩) (by show wr.heap.size<V.heap.size;omega)).trans v1,(hu.cell (p:=⟨wr.heap.size,2,none⟩) (by show wr.heap.size<V.heap.size;omega)).trans v2⟩
   have HADD:Hid (∀ u,BW V u→Calls prog 315 #[.map (some (w.heap.size+1)),.agg #[.int .i64 x,.int .i64 y],.int .i64 z] u fun e u'=>e=.returned (.tuple #[])∧F5 u' (w.heap.size+1) (k+1) (Cf (ls.take (k+1)))∧u.grownBy u' (some (w.heap.size+1))):=fun u hu=>by
    rw [HLT.o]
    exact U6 (w.heap.size+1) k _ x y z t u (HMV.o.below hu) HWK.o.1 HWK.o.2.1 HT.o ⟨by omega,by omega⟩ (by unfold maxLen;omega)
   clear hLT hx ht hwk hbk MV bV hbr hlb;go_upto_region 5 with fail
   rw [← hV];clear hV c1 c2 c3
   go_region_held3 (fun u=>u.cell? ⟨wr.heap.size,0,none⟩=some (.int .i64 x)∧u.cell? ⟨wr.heap.size,1,none⟩=some (.int .i64 y)∧u.cell? ⟨wr.heap.size,2,none⟩=some (.int .i64 z)) (first | exact ⟨v0,v1,v2⟩ | exact HKP.o _ q1 | exact HKP2.o) ((first
    | (go_at_call 107;refine (kH _ _ _ _).mono ?_;rintro e u1 ⟨rfl,b1⟩;have q1:BW V u1:=bR.drew.trans b1)
    | (go_at_call 315;refine (HADD.o _ q1).mono ?_;rintro e u2 ⟨rfl,m2,g2⟩;have HKP2:Hid (u2.cell? ⟨wr.heap.size,0,none⟩=some (.int .i64 x)∧u2.cell? ⟨wr.heap.size,1,none⟩=some (.int .i64 y)∧u2.cell? ⟨wr.heap.size,2,none⟩=some (.int .i64 z)):=⟨(g2.cell_far ⟨wr.heap.size,0,none⟩ (by have:=q1.size;show wr.heap.size<u1.heap.size;omega) (by simp;omega)).trans (HKP.o _ q1).1,(g2.cell_far ⟨wr.heap.size,1,none⟩ (by have:=q1.size;show wr.heap.size<u1.heap.size;omega) (by simp;omega)).trans (HKP.o _ q1).2.1,(g2.cell_far ⟨wr.heap.size,2,none⟩ (by have:=q1.size;show wr.heap.size<u1.heap.size;omega) (by simp;omega)).trans (HKP.o _ q1).2.2⟩)))
   all_goals
    have HM2:Hid _:=m2
    have q2:BW w u2:=(HBV.o.trans (q1.mono HVW.o)).grown g2 (HBV.o.trans (q1.mono HVW.o)).size (fun j hj=>by cases hj;omega)
    clear m2 g2 q1 b1 HKP HADD HKP2;go_wp2
    go_roundw
    case rel=>exact ⟨k+1,by omega,by go_num,HM2.o,q2⟩
    case measure=>simp [intOf];omega
  ·have hke:k=ls.length:=by omega
   subst hke
   have hki:¬ (ls.length:Int)<(ls.length:Int):=by omega
   rw [List.take_length] at HM;go_wp2;go_ret
   exact ⟨w.heap.size+1,rfl,by omega,HM.o,hbr⟩
end Go.Proofs.YtomiclakhjncbaaGreatDoor
namespace Go.Proofs.YtomiclakhjncbaaGreatDoor
open Go.RowKit Go.Proofs.Tryz
set_option maxRecDepth 100000
set_option maxHeartbeats 12800000
def F4 (f:Nat→Int) (xs:List Value) (j:Nat):List Value:=((List.range j).map fun i=>Value.int .i64 (f i))++xs.drop j
theorem Wh (f:Nat→Int) (xs:List Value):F4 f xs 0=xs:=by simp [F4]
theorem Y2 (f:Nat→Int) (xs:List Value):F4 f xs xs.length=(List.range xs.length).map fun i=>Value.int .i64 (f i):=by simp [F4]
theorem fK (f:Nat→Int) (xs:List Value) (j:Nat):(F4 f xs j)[j]?=xs[j]?:=by simp [F4,List.getElem?_append]
theorem Xd (f:Nat→Int) (xs:List Value) (j:Nat) (h:j<xs.length):F4 f xs (j+1)=(F4 f xs j).set j (.int .i64 (f j)):=by
 unfold F4
 rw [List.range_succ,List.map_append,List.set_append_right _ _ (by simp)]
 simp
 rw [List.drop_eq_getElem_cons h,List.set_cons_zero]
def Mw (k:Int) (n:Nat):List Int:=(List.range n).map fun i:Nat=>k+(i:Int)
theorem cW (k:Int) (n:Nat):(Mw k n).length=n:=by simp [Mw]
theorem rP (k:Int) (n i:Nat) (h:i<n):(Mw k n).getD i 0=k+(i:Int):=by simp [Mw,List.getD_eq_getElem?_getD,h]
theorem kR (k:Int) (xs:List Value) (n:Nat) (h:xs.length=n):F4 (fun i:Nat=>k+(i:Int)) xs n=(Mw k n).map (Value.int .i64):=by
 subst h;rw [Y2];simp [Mw]
theorem Mx (ao:Option Addr) (cap n base:Nat) (k:Int) (xs:List Value) (w:World) (ho:w.ownsRow base 3 1 (.slice ao n cap) n xs) (hn:n≤1099511627776) (k1:0≤k) (k2:k≤1099511627776) :
  Calls prog 18 #[.slice ao n cap,.int .i64 k] w fun e w'=>e=.returned (.int .i64 (k+n)) ∧
   w'.ownsRow base 3 1 (.slice ao n cap) n ((Mw k n).map (Value.int .i64))∧w.grownBy w' (Value.slice ao n cap).ownBlock:=by
 have hxl:xs.length=n:=by simpa using ho.1
 rcases ho.2 with ⟨hv,h0⟩ | ⟨g,cap',cur,hv,hrest⟩
 ·obtain ⟨rfl,rfl,rfl⟩:ao=none∧n=0∧cap=0:=by simpa using hv
  clear hv h0
  go_enter func18,ntmps18
  go_wp2;refine wp_loop_rounds 1 ?_;rw [rounds_succ];go_wp2;go_ret
  exact ⟨Af (by simp),World.ownsRow_nil _ _ _ _,World.grownBy.refl _ _⟩
 ·obtain ⟨rfl,rfl⟩:ao=some ⟨g,0,none⟩∧cap=cap':=by simpa using hv
  clear hv hrest
  go_enter func18,ntmps18
  go_wp2
  go_loopw [1,5] (fun c i wr=>∃ j:Nat,j≤n∧i=.int .i64 j∧c=.int .i64 (k+j)∧wr.ownsRow base 3 1 (.slice (some ⟨g,0,none⟩) n cap) n (F4 (fun i:Nat=>k+(i:Int)) xs j)∧w.grownBy wr (some g)) (fun _ i _=>n - (intOf i).toNat)
  case atStart=>exact ⟨0,Nat.zero_le _,rfl,by simp,by rw [Wh];exact ho,World.grownBy.refl _ _⟩
  case round =>
   obtain ⟨j,hj,rfl,rfl,hor,hgr⟩:=hrel;clear ho
   by_cases hlt:j<n
   ·have hji:(j:Int)<(n:Int):=by omega
    have c2:∃ v,wr.cell? ⟨g,j,none⟩=some v:=by rw [hor.cellAt j (by omega),fK];exact ⟨_,List.getElem?_eq_getElem (by omega)⟩
    obtain ⟨old,c2⟩:=c2;have c3:wr.frozen? ⟨g,j,none⟩=false:=hor.frozenAt j;have R:=hor.stored j (.int .i64 (k+j))
    rw [show (F4 (fun i:Nat=>k+(i:Int)) xs j).set j (.int .i64 (k+(j:Int)))=F4 (fun i:Nat=>k+(i:Int)) xs (j+1) from (Xd _ _ j (by omega)).symm] at R
    have HR:Hid _:=R.1;have HG:Hid (w.grownBy (wr.setCell ⟨g,j,none⟩ (.int .i64 (k+j))) (some g)):=hgr.trans R.2;clear R hor hgr;go_wp2
    go_roundw
    case rel=>exact ⟨j+1,by omega,by go_num,by congr 1;omega,HR.o,HG.o⟩
    case measure=>simp [intOf];omega
   ·have hjn:j=n:=by omega
    subst hjn;rw [kR k xs j hxl] at hor;have HO:Hid _:=hor;clear hor;go_wp2;go_ret;exact ⟨rfl,HO.o,hgr⟩
theorem U4 (ao:Option Addr) (cap n:Nat) (k:Int) (w:World) (hz:Aw w ao (Mw k n)) (hn:n≤1099511627776) (k1:0≤k) (k2:k≤1099511627776) :
  Calls prog 60 #[.slice ao n cap,.int .i64 k] w fun e w'=>e=.returned (.int .i64 (k+n))∧w'=w:=by
 rcases hz with h0 | ⟨b,off,rfl,hb,hcell⟩
 ·have hn0:n=0:=by have:=cW k n;rw [h0] at this;simpa using this.symm
  subst hn0;clear h0
  go_enter func60,ntmps60
  go_wp2;refine wp_loop_rounds 1 ?_;rw [rounds_succ];go_wp2;go_ret
  exact ⟨Af (by simp),rfl⟩
 ·rw [cW] at hcell
  go_enter func60,ntmps60
  go_wp2
  go_loop [1,5] (fun c i=>∃ j:Nat,j≤n∧i=.int .i64 j∧c=.int .i64 (k+j)) (fun _ i=>n - (intOf i).toNat)
  case atStart=>exact ⟨0,Nat.zero_le _,rfl,by simp⟩
  case round =>
   obtain ⟨j,hj,rfl,rfl⟩:=hrel
   by_cases hlt:j<n
   ·have hji:(j:Int)<(n:Int):=by omega
    have c2:=hcell j hlt;rw [rP k n j hlt] at c2;clear hcell;go_wp2
    go_round
    case rel=>exact ⟨j+1,by omega,by go_num,by congr 1;omega⟩
    case measure=>simp [intOf];omega
   ·have hjn:j=n:=by omega
    subst hjn;clear hcell;go_wp2;go_ret;exact ⟨rfl,rfl⟩
end Go.Proofs.YtomiclakhjncbaaGreatDoor
