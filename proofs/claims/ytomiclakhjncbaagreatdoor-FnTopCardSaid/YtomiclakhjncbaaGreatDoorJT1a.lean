import Derived.Test.YtomiclakhjncbaaGreatDoorKTCur
import Derived.Test.YtomiclakhjncbaaGreatDoorKTBase
import Derived.Deep.SlicePairs
import Derived.Lib.SmallJoins
import Derived.Lib.AppendZeros
import Derived.Deep.DeepCutAuto
import Derived.Conc.MuLone
import Derived.RangeFuncNested
import Derived.RangeFuncBound
import Derived.Shelf.RegionOpen
import Derived.OwnWalkIn
import Derived.LoopNIn
import Derived.LoopIn
import Derived.Lib.AppendIntMem
import Derived.WideKeyEntry
set_option maxRecDepth 100000
set_option maxHeartbeats 12800000
namespace Go.Proofs.YtomiclakhjncbaaGreatDoor
open Go.Proofs.Tryz
abbrev Ln:=Int×Int×Int
abbrev En:=Int×Int×Int×Int
def Cg (ls:List Ln) (k:Nat):Ln:=ls.getD k (0,0,0)
theorem Pu {ls:List Ln} {k:Nat} (h:k<ls.length):Cg ls k=ls[k]:=by simp [Cg,List.getD_eq_getElem?_getD,h]
theorem Ex {ls:List Ln} {k:Nat} (h:k<ls.length):Cg ls k ∈ ls:=by rw [Pu h];exact List.getElem_mem h
theorem Kl (ls:List Ln) (k:Nat) (h:k<ls.length):ls.take (k+1)=ls.take k++[Cg ls k]:=by rw [List.take_succ_eq_append_getElem h,Pu h]
theorem Tu (ls:List Ln) (k:Nat) (h:k<ls.length):ls.drop k=Cg ls k::ls.drop (k+1):=by rw [List.drop_eq_getElem_cons h,Pu h]
def Cb (a:Int):Bool:=decide (1<=a/\a<=9999)
def G7 (x:Ln):Bool:=Cb x.1 && (decide (0<=Dc x.2.1) && (fL x.2.2 && decide (x.2.2≠0)))
def E3 (x y:Ln):Bool:=decide (x.1<y.1\/x.1=y.1/\x.2.1<y.2.1)
def Az:Option Ln->List Ln->Bool
 | _,[]=>true
 | none,x::r=>G7 x && Az (some x) r
 | some y,x::r=>(G7 x && E3 y x) && Az (some x) r
def Ec (b:Int) (ls:List Ln):Int:=(ls.map fun x=>if x.2.1=b then x.2.2 else 0).sum
theorem N5 (b:Int) (ls:List Ln) (k:Nat) (h:k<ls.length):Ec b (ls.take (k+1))=Ec b (ls.take k)+if (Cg ls k).2.1=b then (Cg ls k).2.2 else 0:=by
 rw [Kl ls k h];simp [Ec]
def Wo (ls:List Ln):Bool:=Gi.all fun c=>decide (Ec c ls=0)
def At (ls:List Ln):Bool:=Az none ls && (decide (ls.length<=400) && Wo ls)
def Bt (e:En):Bool:=Cb e.1 && (Cb e.2.1 && (decide (e.1≠e.2.1) && (decide (0<=Dc e.2.2.1) && decide (1<=e.2.2.2/\e.2.2.2<=1000000000000))))
def K2:List Ln->Int->Int->Int
 | [],_,_=>0
 | x::r,a,c=>if x.1=a/\x.2.1=c then x.2.2 else K2 r a c
theorem Aa1 (ls:List Ln) (k:Nat) (a c:Int) (h:k<ls.length):K2 (ls.drop k) a c=if (Cg ls k).1=a/\(Cg ls k).2.1=c then (Cg ls k).2.2 else K2 (ls.drop (k+1)) a c:=by
 rw [Tu ls k h];rfl
def My (x:Ln) (a c:Int):Bool:=decide (a<x.1\/x.1=a/\c<=x.2.1)
def Cr:List Ln->Int->Int->Int->List Ln
 | [],a,c,m=>[(a,c,m)]
 | x::r,a,c,m=>if My x a c=true then (if x.1=a/\x.2.1=c then (if x.2.2+m≠0 then (a,c,x.2.2+m)::r else r) else (a,c,m)::x::r) else x::Cr r a c m
def G5 (ls:List Ln) (e:En):List Ln:=Cr (Cr ls e.1 e.2.2.1 (-e.2.2.2)) e.2.1 e.2.2.1 e.2.2.2
def Cj (ls:List Ln) (e:En):Bool:=(At ls && Bt e) && At (G5 ls e)
def Gg (ls:List Ln) (e:En):List Ln:=if Cj ls e=true then G5 ls e else ls
def Ch:List Ln->List En->Option (List Ln)
 | ls,[]=>some ls
 | ls,e::r=>if Cj ls e=true then Ch (G5 ls e) r else none
theorem Dv {ls:List Ln} : ∀ {p:Option Ln},Az p ls=true->∀ x ∈ ls,G7 x=true:=by
 induction ls with
 | nil=>intro p _ x d;cases d
 | cons y r ih =>
  intro p h x d
  cases p with
  | none =>
   simp only [Az,Bool.and_eq_true] at h
   rcases List.mem_cons.1 d with rfl | f
   ·exact h.1
   ·exact ih h.2 x f
  | some q =>
   simp only [Az,Bool.and_eq_true] at h
   rcases List.mem_cons.1 d with rfl | f
   ·exact h.1.1
   ·exact ih h.2 x f
theorem Ig {x:Ln} (h:G7 x=true):(1<=x.1/\x.1<=9999)/\0<=Dc x.2.1/\(-1000000000000<=x.2.2/\x.2.2<=1000000000000)/\x.2.2≠0:=by
 simp only [G7,Cb,Bool.and_eq_true,decide_eq_true_eq] at h
 exact ⟨h.1,h.2.1,rH h.2.2.1,h.2.2.2⟩
theorem Mp (ls:List Ln) (a c m:Int):(Cr ls a c m).length<=ls.length+1:=by
 induction ls with
 | nil=>simp [Cr]
 | cons x r ih =>
  simp only [Cr]
  split
  ·split
   ·split <;> simp <;> omega
   ·simp
  ·simp;omega
structure Au where
 ref:List UInt8
 iss:Int
 cur:Int
 am:Int
 day:Int
 used:Bool
def Jc:Au:=⟨[],0,0,0,0,false⟩
def Ak (az:List Au) (k:Nat):Au:=az.getD k Jc
theorem Gw {az:List Au} {k:Nat} (h:k<az.length):Ak az k=az[k]:=by simp [Ak,List.getD_eq_getElem?_getD,h]
theorem J8 {az:List Au} {k:Nat} (h:k<az.length):Ak az k ∈ az:=by rw [Gw h];exact List.getElem_mem h
def Kk (l:List UInt8):Bool:=decide (l.length=12) && A6 33 126 l
def Gy (a:Au):Bool:=Kk a.ref && (Cb a.iss && (decide (0<=Dc a.cur) && (decide (1<=a.am/\a.am<=100000000000) && Dn a.day)))
def E9 (a:Au) (day:Int):Bool:=decide (a.day<=day/\day<=a.day+7)
def Ia (a:Au) (am:Int):Bool:=decide (1<=am/\am<=a.am+a.am / 10)
def Xr (a:Au) (iss cur am day:Int):Bool:=Gy a && (!a.used && (decide (a.iss=iss) && (decide (a.cur=cur) && (E9 a day && Ia a am))))
def Ue (x:Int):Int:=if x<0 then -x else x
def Co (a:Au) (iss cur am day:Int):Int:=if Xr a iss cur am day=true then 8*Ue (am - a.am)+day - a.day else -1
theorem L0 {a:Au} (h:Gy a=true):Kk a.ref=true/\Cb a.iss=true/\0<=Dc a.cur/\(1<=a.am/\a.am<=100000000000)/\Dn a.day=true:=by
 simpa [Gy] using h
end Go.Proofs.YtomiclakhjncbaaGreatDoor
namespace Go.Proofs.YtomiclakhjncbaaGreatDoor
open Go.ChangeShapes Go.WideShapes Go.ChangeAt Go.RowKit Go.Deep Go.Proofs.Tryz
def Bf (n:Int):Prop:=(Lit.int .i64 n).wf=true
def Hw (x:Ln):Prop:=Bf x.1/\Bf x.2.1/\Bf x.2.2
def Ma (e:En):Prop:=Bf e.1/\Bf e.2.1/\Bf e.2.2.1/\Bf e.2.2.2
def Ai (w:World) (c:Option Addr) (ls:List Ln):Prop :=
 ls=[]\/∃ b off,c=some (qzA b off)/\b<w.heap.size/\∀ i,i<ls.length ->
  w.cell? (qzA b (off+i*3))=some (qzI (Cg ls i).1)/\w.cell? (qzA b (off+i*3+1))=some (qzI (Cg ls i).2.1)/\w.cell? (qzA b (off+i*3+2))=some (qzI (Cg ls i).2.2)
theorem Ai.below {w w':World} {c:Option Addr} {ls:List Ln} (h:Ai w c ls) (hb:BW w w'):Ai w' c ls:=by
 rcases h with h | ⟨b,off,l,d,j⟩
 ·exact .inl h
 ·exact .inr ⟨b,off,l,Nat.lt_of_lt_of_le d hb.size,fun i hi=>⟨(hb.cell (p:=(qzA b (off+i*3))) d).trans (j i hi).1,(hb.cell (p:=(qzA b (off+i*3+1))) d).trans (j i hi).2.1,(hb.cell (p:=(qzA b (off+i*3+2))) d).trans (j i hi).2.2⟩⟩
theorem Ai.at {w:World} {c:Option Addr} {ls:List Ln} (h:Ai w c ls) {k:Nat} (m:k<ls.length) :
  ∃ b off,c=some (qzA b off)/\b<w.heap.size/\w.cell? (qzA b (off+k*3))=some (qzI (Cg ls k).1)/\w.cell? (qzA b (off+k*3+1))=some (qzI (Cg ls k).2.1)/\w.cell? (qzA b (off+k*3+2))=some (qzI (Cg ls k).2.2):=by
 rcases h with rfl | ⟨b,off,l,d,j⟩
 ·simp at m
 ·exact ⟨b,off,l,d,j k m⟩
def I4 (es:List En) (k:Nat):En:=es.getD k (0,0,0,0)
theorem bI {es:List En} {k:Nat} (h:k<es.length):I4 es k=es[k]:=by simp [I4,List.getD_eq_getElem?_getD,h]
theorem lJ {es:List En} {k:Nat} (h:k<es.length):I4 es k ∈ es:=by rw [bI h];exact List.getElem_mem h
def C8 (w:World) (c:Option Addr) (es:List En):Prop :=
 es=[]\/∃ b off,c=some (qzA b off)/\b<w.heap.size/\∀ i,i<es.length ->
  w.cell? (qzA b (off+i*4))=some (qzI (I4 es i).1)/\w.cell? (qzA b (off+i*4+1))=some (qzI (I4 es i).2.1)/\w.cell? (qzA b (off+i*4+2))=some (qzI (I4 es i).2.2.1)/\w.cell? (qzA b (off+i*4+3))=some (qzI (I4 es i).2.2.2)
theorem C8.below {w w':World} {c:Option Addr} {es:List En} (h:C8 w c es) (hb:BW w w'):C8 w' c es:=by
 rcases h with h | ⟨b,off,l,d,j⟩
 ·exact .inl h
 ·exact .inr ⟨b,off,l,Nat.lt_of_lt_of_le d hb.size,fun i hi=>⟨(hb.cell (p:=(qzA b (off+i*4))) d).trans (j i hi).1,(hb.cell (p:=(qzA b (off+i*4+1))) d).trans (j i hi).2.1,(hb.cell (p:=(qzA b (off+i*4+2))) d).trans (j i hi).2.2.1,(hb.cell (p:=(qzA b (off+i*4+3))) d).trans (j i hi).2.2.2⟩⟩
theorem C8.at {w:World} {c:Option Addr} {es:List En} (h:C8 w c es) {k:Nat} (m:k<es.length) :
  ∃ b off,c=some (qzA b off)/\b<w.heap.size/\w.cell? (qzA b (off+k*4))=some (qzI (I4 es k).1)/\w.cell? (qzA b (off+k*4+1))=some (qzI (I4 es k).2.1)/\w.cell? (qzA b (off+k*4+2))=some (qzI (I4 es k).2.2.1)/\w.cell? (qzA b (off+k*4+3))=some (qzI (I4 es k).2.2.2):=by
 rcases h with rfl | ⟨b,off,l,d,j⟩
 ·simp at m
 ·exact ⟨b,off,l,d,j k m⟩
section
variable {P:Program} {H:Type} {enc:TypeId×Value->H} {W:World}
end
def Lm (x:Ln):List Value:=[qzI x.1,qzI x.2.1,qzI x.2.2]
def Ag (ls:List Ln):List Value:=ls.flatMap Lm
theorem Kj (x:Ln) (r:List Ln):Ag (x::r)=qzI x.1::qzI x.2.1::qzI x.2.2::Ag r:=rfl
theorem Ip (a b:List Ln):Ag (a++b)=Ag a++Ag b:=by simp [Ag]
theorem Cn (ls:List Ln):(Ag ls).length=ls.length*3:=by
 induction ls with
 | nil=>rfl
 | cons f r ih=>rw [Kj];simp [ih];omega
theorem Hj (ls:List Ln):∀ k,k<ls.length->(Ag ls)[k*3]?=some (qzI (Cg ls k).1)/\(Ag ls)[k*3+1]?=some (qzI (Cg ls k).2.1)/\(Ag ls)[k*3+2]?=some (qzI (Cg ls k).2.2):=by
 induction ls with
 | nil=>intro k h;simp at h
 | cons f r ih =>
  intro k h;rw [Kj]
  cases k with
  | zero=>exact ⟨rfl,rfl,rfl⟩
  | succ k =>
   have:=ih k (by simpa using h)
   rw [show (k+1) * 3=k*3+1+1+1 by omega]
   simp only [List.getElem?_cons_succ]
   exact this
theorem Z5 (ls:List Ln):∀ u ∈ Ag ls,u.oneCell'=true:=by
 intro u s
 simp only [Ag,List.mem_flatMap,Lm] at s
 obtain ⟨f,_,q⟩:=s
 simp at q
 rcases q with rfl | rfl | rfl <;> rfl
theorem Ef {w:World} {base n:Nat} {t:TypeId} {v:Value} {ls:List Ln} (h:w.ownsRow base t 3 v n (Ag ls)):∃ c cap,v=.slice c ls.length cap/\Ai w c ls/\n=ls.length:=by
 have o:n=ls.length:=by have:=h.1;rw [Cn] at this;omega
 subst o
 rcases h.2 with ⟨rfl,o⟩ | ⟨g,cap,y,rfl,_⟩
 ·have:ls=[]:=List.eq_nil_of_length_eq_zero o
  subst this;exact ⟨none,0,rfl,.inl rfl,rfl⟩
 ·refine ⟨_,cap,rfl,?_,rfl⟩
  by_cases h0:ls=[]
  ·exact .inl h0
  ·refine .inr ⟨g,0,rfl,(h.lt g rfl).2,fun i hi=>?_⟩
   have:=Hj ls i hi
   rw [Nat.zero_add,h.cellAt (i*3) (by omega),h.cellAt (i*3+1) (by omega),h.cellAt (i*3+2) (by omega)]
   exact this
def Kx (a:Au):List Value:=[.string ⟨a.ref.toArray⟩,qzI a.iss,qzI a.cur,qzI a.am,qzI a.day,.bool a.used]
def Fe (a:Au):Value:=.agg #[.string ⟨a.ref.toArray⟩,qzI a.iss,qzI a.cur,qzI a.am,qzI a.day,.bool a.used]
def Ar (w:World) (f:Option Addr) (az:List Au):Prop :=
 az=[]\/∃ b off,f=some (qzA b off)/\b<w.heap.size/\∀ i,i<az.length ->
  w.cell? (qzA b (off+i*6))=some (.string ⟨(Ak az i).ref.toArray⟩)/\w.cell? (qzA b (off+i*6+1))=some (qzI (Ak az i).iss)/\w.cell? (qzA b (off+i*6+2))=some (qzI (Ak az i).cur)/\w.cell? (qzA b (off+i*6+3))=some (qzI (Ak az i).am)/\w.cell? (qzA b (off+i*6+4))=some (qzI (Ak az i).day)/\w.cell? (qzA b (off+i*6+5))=some (.bool (Ak az i).used)
theorem Ar.below {w w':World} {f:Option Addr} {az:List Au} (h:Ar w f az) (hb:BW w w'):Ar w' f az:=by
 rcases h with h | ⟨b,off,g,c,d⟩
 ·exact .inl h
 ·exact .inr ⟨b,off,g,Nat.lt_of_lt_of_le c hb.size,fun i hi=>⟨(hb.cell (p:=(qzA b (off+i*6))) c).trans (d i hi).1,(hb.cell (p:=(qzA b (off+i*6+1))) c).trans (d i hi).2.1,(hb.cell (p:=(qzA b (off+i*6+2))) c).trans (d i hi).2.2.1,(hb.cell (p:=(qzA b (off+i*6+3))) c).trans (d i hi).2.2.2.1,(hb.cell (p:=(qzA b (off+i*6+4))) c).trans (d i hi).2.2.2.2.1,(hb.cell (p:=(qzA b (off+i*6+5))) c).trans (d i hi).2.2.2.2.2⟩⟩
section
variable {P:Program} {H:Type} {enc:TypeId×Value->H} {W:World}
end
end Go.Proofs.YtomiclakhjncbaaGreatDoor
namespace Go.Proofs.YtomiclakhjncbaaGreatDoor
open Go.RowKit Go.Proofs.Tryz
theorem Iw {w w':World} {base n size:Nat} {t:TypeId} {v:Value} {c:List Value} (h:w.ownsRow base t size v n c) (hb:BW w w'):w'.ownsRow base t size v n c:=by
 obtain ⟨d,f⟩:=h;refine ⟨d,?_⟩
 rcases f with h | ⟨g,cap,x,s,hg,C,a1,a2,D,F⟩
 ·exact .inl h
 ·have l:g<w.heap.size:=(Array.getElem?_eq_some_iff.1 C).1
  exact .inr ⟨g,cap,x,s,hg,(hb.block g l).trans C,a1,a2,D,F⟩
theorem Ri {w:World} {base base' n size:Nat} {t:TypeId} {v:Value} {c:List Value} (h:w.ownsRow base t size v n c) (hb:base'<=base):w.ownsRow base' t size v n c:=by
 obtain ⟨d,f⟩:=h;refine ⟨d,?_⟩
 rcases f with h | ⟨g,cap,x,s,hg,r⟩
 ·exact .inl h
 ·exact .inr ⟨g,cap,x,s,Nat.le_trans hb hg,r⟩
def Ah (az:List Au):List Value:=az.flatMap Kx
theorem Ju (a:Au) (r:List Au):Ah (a::r)=.string ⟨a.ref.toArray⟩::qzI a.iss::qzI a.cur::qzI a.am::qzI a.day::.bool a.used::Ah r:=rfl
theorem F9 (a b:List Au):Ah (a++b)=Ah a++Ah b:=by simp [Ah]
theorem E2 (az:List Au):(Ah az).length=az.length*6:=by
 induction az with
 | nil=>rfl
 | cons a r ih=>rw [Ju];simp [ih];omega
theorem De (az:List Au):∀ k,k<az.length->(Ah az)[k*6]?=some (.string ⟨(Ak az k).ref.toArray⟩)/\(Ah az)[k*6+1]?=some (qzI (Ak az k).iss)/\(Ah az)[k*6+2]?=some (qzI (Ak az k).cur)/\(Ah az)[k*6+3]?=some (qzI (Ak az k).am)/\(Ah az)[k*6+4]?=some (qzI (Ak az k).day)/\(Ah az)[k*6+5]?=some (.bool (Ak az k).used):=by
 induction az with
 | nil=>intro k h;simp at h
 | cons a r ih =>
  intro k h;rw [Ju]
  cases k with
  | zero=>exact ⟨rfl,rfl,rfl,rfl,rfl,rfl⟩
  | succ k =>
   have:=ih k (by simpa using h)
   rw [show (k+1) * 6=k*6+1+1+1+1+1+1 by omega,show k*6+1+1+1+1+1+1+1=(k*6+1)+1+1+1+1+1+1 by omega,show k*6+1+1+1+1+1+1+2=(k*6+2)+1+1+1+1+1+1 by omega,show k*6+1+1+1+1+1+1+3=(k*6+3)+1+1+1+1+1+1 by omega,show k*6+1+1+1+1+1+1+4=(k*6+4)+1+1+1+1+1+1 by omega,show k*6+1+1+1+1+1+1+5=(k*6+5)+1+1+1+1+1+1 by omega]
   simp only [List.getElem?_cons_succ]
   exact this
theorem Hu (az:List Au) (a:Au):∀ k,k<az.length->(((((((Ah az).set (k*6) (.string ⟨a.ref.toArray⟩)).set (k*6+1) (qzI a.iss)).set (k*6+2) (qzI a.cur)).set (k*6+3) (qzI a.am)).set (k*6+4) (qzI a.day)).set (k*6+5) (.bool a.used))=Ah (az.set k a):=by
 induction az with
 | nil=>intro k h;simp at h
 | cons g r ih =>
  intro k h;rw [Ju]
  cases k with
  | zero=>rfl
  | succ k =>
   have:=ih k (by simpa using h)
   rw [show (k+1) * 6=k*6+1+1+1+1+1+1 by omega,show k*6+1+1+1+1+1+1+1=(k*6+1)+1+1+1+1+1+1 by omega,show k*6+1+1+1+1+1+1+2=(k*6+2)+1+1+1+1+1+1 by omega,show k*6+1+1+1+1+1+1+3=(k*6+3)+1+1+1+1+1+1 by omega,show k*6+1+1+1+1+1+1+4=(k*6+4)+1+1+1+1+1+1 by omega,show k*6+1+1+1+1+1+1+5=(k*6+5)+1+1+1+1+1+1 by omega]
   simp only [List.set_cons_succ,this]
   rfl
theorem G9 {c:List Value} {k:Nat} {v:Value} (h:c[k]?=some v):c.set k v=c:=by
 apply List.ext_getElem? ;intro i
 by_cases e:k=i
 ·subst e
  rw [List.getElem?_set_self (List.getElem?_eq_some_iff.1 h).1,h]
 ·rw [List.getElem?_set_ne e]
theorem On (az:List Au) (b:Bool) (k:Nat) (h:k<az.length):(Ah az).set (k*6+5) (.bool b)=Ah (az.set k ⟨(Ak az k).ref,(Ak az k).iss,(Ak az k).cur,(Ak az k).am,(Ak az k).day,b⟩):=by
 rw [<- Hu az _ k h];obtain ⟨q,d,f,z,A,h5⟩:=De az k h
 simp only
 rw [G9 q,G9 d,G9 f,G9 z,G9 A]
theorem aN (az:List Au):∀ u ∈ Ah az,u.oneCell'=true:=by
 intro u J;obtain ⟨a,_,h⟩:=List.mem_flatMap.1 J
 simp only [Kx,List.mem_cons,List.not_mem_nil,or_false] at h
 rcases h with rfl | rfl | rfl | rfl | rfl | rfl <;> rfl
theorem Ul {w:World} {base g n cap:Nat} {t:TypeId} {az:List Au} (h:w.ownsRow base t 6 (.slice (some (qzA g 0)) n cap) n (Ah az)):Ar w (some (qzA g 0)) az:=by
 have hl:=h.1;rw [E2] at hl
 by_cases q:az=[]
 ·exact .inl q
 ·have l:=(h.lt g rfl).2
  refine .inr ⟨g,0,rfl,l,fun i hi=>?_⟩
  have:=De az i hi
  rw [Nat.zero_add,h.cellAt (i*6) (by omega),h.cellAt (i*6+1) (by omega),h.cellAt (i*6+2) (by omega),h.cellAt (i*6+3) (by omega),h.cellAt (i*6+4) (by omega),h.cellAt (i*6+5) (by omega)]
  exact this
theorem Lo {w:World} {base n:Nat} {t:TypeId} {v:Value} {az:List Au} (h:w.ownsRow base t 6 v n (Ah az)):∃ o cap,v=.slice o az.length cap/\Ar w o az/\n=az.length:=by
 have B:n=az.length:=by have:=h.1;rw [E2] at this;omega
 subst B
 rcases h.2 with ⟨rfl,B⟩ | ⟨g,cap,x,rfl,_⟩
 ·have:az=[]:=List.eq_nil_of_length_eq_zero B
  subst this;exact ⟨none,0,rfl,.inl rfl,rfl⟩
 ·exact ⟨_,cap,rfl,Ul h,rfl⟩
theorem Fd {w:World} {base n:Nat} {t:TypeId} {o:Option Addr} {cap:Nat} {az:List Au} (h:w.ownsRow base t 6 (.slice o n cap) n (Ah az)):Ar w o az:=by
 obtain ⟨y,p,s,H,_⟩:=Lo h
 obtain ⟨rfl,_⟩:o=y/\n=az.length/\cap=p:=by simpa using s
 exact H
def Du (az:List Au) (k:Nat):List Au:=az.take k++List.replicate (az.length - k) Jc
theorem Pz (az:List Au):Du az 0=List.replicate az.length Jc:=by simp [Du]
theorem Sv (az:List Au):Du az az.length=az:=by simp [Du]
theorem Iu (az:List Au) (k:Nat) (h:k<=az.length):(Du az k).length=az.length:=by simp [Du];omega
theorem Ly (az:List Au) (k:Nat) (h:k<az.length):(Du az k).set k (Ak az k)=Du az (k+1):=by
 unfold Du
 rw [List.set_append,if_neg (by simp;omega),List.length_take,Nat.min_eq_left (Nat.le_of_lt h),Nat.sub_self,show az.length - k=az.length - (k+1)+1 by omega,List.replicate_succ,List.set_cons_zero,List.take_succ_eq_append_getElem h,Gw h,List.append_assoc]
 rfl
theorem Wu (az:List Au) (k:Nat) (h:k<az.length):Ak (Du az k) k=Jc:=by
 simp [Ak,Du,List.getD_eq_getElem?_getD,List.getElem?_append,Nat.min_eq_left (Nat.le_of_lt h),List.getElem?_replicate]
 split <;> rfl
theorem cF:(prog.info? 107).map (fun i=>(i.zero,i.size,i.bytes))=some (some (.agg #[.string ⟨#[]⟩,qzI 0,qzI 0,qzI 0,qzI 0,.bool false]),6,56):=by kernel_rfl
theorem Qx (m:Nat):(madeCells (Value.agg #[.string ⟨#[]⟩,qzI 0,qzI 0,qzI 0,qzI 0,.bool false]).cells (m*6)).toList=Ah (List.replicate m Jc):=by
 apply List.ext_getElem?;intro j
 by_cases hj:j<m*6
 ·have I:j / 6<(List.replicate m Jc).length:=by simp;omega
  have G:Ak (List.replicate m Jc) (j / 6)=Jc:=by
   simp [Ak,List.getD_eq_getElem?_getD,List.getElem?_replicate];split <;> rfl
  have h:=De _ _ I;rw [G] at h
  have hl:(madeCells (Value.agg #[.string ⟨#[]⟩,qzI 0,qzI 0,qzI 0,qzI 0,.bool false]).cells (m*6)).toList[j]?=some ((#[Value.string ⟨#[]⟩,qzI 0,qzI 0,qzI 0,qzI 0,.bool false]:Array Value)[j % 6]!):=by
   simp [madeCells,hj,Value.cells]
  obtain ⟨q,d,f,z,A,h5⟩:=h
  rcases (show j % 6=0\/j % 6=1\/j % 6=2\/j % 6=3\/j % 6=4\/j % 6=5 by omega) with e | e | e | e | e | e
  ·rw [hl,e,show j=j / 6*6 by omega,q];rfl
  ·rw [hl,e,show j=j / 6*6+1 by omega,d];rfl
  ·rw [hl,e,show j=j / 6*6+2 by omega,f];rfl
  ·rw [hl,e,show j=j / 6*6+3 by omega,z];rfl
  ·rw [hl,e,show j=j / 6*6+4 by omega,A];rfl
  ·rw [hl,e,show j=j / 6*6+5 by omega,h5];rfl
 ·rw [List.getElem?_eq_none (by rw [Array.length_toList,size_madeCells];omega),List.getElem?_eq_none (by rw [E2];simp;omega)]
end Go.Proofs.YtomiclakhjncbaaGreatDoor
namespace Go.Proofs.YtomiclakhjncbaaGreatDoor
open Go.Proofs.Tryz
structure Cs where
 iss:Int
 acq:Int
 cur:Int
 am:Int
 st:Int
 rsn:Int
 cl:Int
 bk:Int
 fee:Int
 cop:Bool
 sta:Int
 due:Int
structure Ac where
 kind:Int
 am:Int
 rsn:Int
def Oy (x:Int):Bool:=x == 4837 || x == 4855 || x == 4834 || x == 4831 || x == 4853 || x == 4841
def Fs (x:Int):Int:=if x=4837 then 85 else if x=4855 then 65 else if x=4834 then 45 else if x=4831 then 45 else if x=4853 then 65 else if x=4841 then 45 else -1
def Gb (x:Int):Bool:=x == 4831 || x == 4853
def E8 (x:Int):Bool:=x == 4837 || x == 4834
theorem K7 (x:Int):x=4837\/x=4855\/x=4834\/x=4831\/x=4853\/x=4841\/(x≠4837/\x≠4855/\x≠4834/\x≠4831/\x≠4853/\x≠4841):=by omega
theorem Up {x:Int} (h:x≠4837/\x≠4855/\x≠4834/\x≠4831/\x≠4853/\x≠4841):Oy x=false:=by simp [Oy,h]
theorem jX {x:Int} (h:x≠4837/\x≠4855/\x≠4834/\x≠4831/\x≠4853/\x≠4841):Fs x = -1:=by simp [Fs,h]
theorem mD {x:Int} (h:x≠4837/\x≠4855/\x≠4834/\x≠4831/\x≠4853/\x≠4841):Gb x=false:=by simp [Gb,h]
theorem gS {x:Int} (h:x≠4837/\x≠4855/\x≠4834/\x≠4831/\x≠4853/\x≠4841):E8 x=false:=by simp [E8,h]
def Ls (st:Int):Bool:=decide (0<=st/\st<=2) || decide (st=7)
def Fb (a:Int):Bool:=Cb a && decide (a≠9999)
def Cy (r st:Int):Bool:=Oy r || (decide (r=0) && Ls st)
def Ao (c:Cs):Bool :=
 Fb c.iss && (Fb c.acq && (decide (c.iss≠c.acq) && (decide (0<=Dc c.cur) && (decide (1<=c.am/\c.am<=100000000000) && (decide (0<=c.st/\c.st<=7) && (Cy c.rsn c.st &&
  (decide (0<=c.cl/\c.cl<=c.am) && (decide (0<=c.bk/\c.bk<=c.am) && (decide (0<=c.fee/\c.fee<=500000) && (Dn c.sta && (Dn c.due || decide (c.due = -1))))))))))))
theorem Jb {c:Cs} (h:Ao c=true):Fb c.iss=true/\Fb c.acq=true/\c.iss≠c.acq/\0<=Dc c.cur/\(1<=c.am/\c.am<=100000000000)/\(0<=c.st/\c.st<=7)/\Cy c.rsn c.st=true /\
  (0<=c.cl/\c.cl<=c.am)/\(0<=c.bk/\c.bk<=c.am)/\(0<=c.fee/\c.fee<=500000)/\Dn c.sta=true/\(Dn c.due=true\/c.due = -1):=by
 simpa [Ao] using h
def Ci (iss acq cur am day:Int):Cs:=⟨iss,acq,cur,am,0,0,0,0,0,false,day,-1⟩
end Go.Proofs.YtomiclakhjncbaaGreatDoor
namespace Go.Proofs.YtomiclakhjncbaaGreatDoor
open Go.RowKit Go.Proofs.Tryz
def cv (c:Cs):Value:=.agg #[qzI c.iss,qzI c.acq,qzI c.cur,qzI c.am,qzI c.st,qzI c.rsn,qzI c.cl,qzI c.bk,qzI c.fee,.bool c.cop,qzI c.sta,qzI c.due]
def Xt (c:Cs):Array Value:=#[qzI c.iss,qzI c.acq,qzI c.cur,qzI c.am,qzI c.st,qzI c.rsn,qzI c.cl,qzI c.bk,qzI c.fee,.bool c.cop,qzI c.sta,qzI c.due]
structure CB (s o:Nat) (c:Cs) (u:World):Prop where
 f0:u.cell? (qzA s o)=some (qzI c.iss)
 f1:u.cell? (qzA s (o+1))=some (qzI c.acq)
 f2:u.cell? (qzA s (o+2))=some (qzI c.cur)
 f3:u.cell? (qzA s (o+3))=some (qzI c.am)
 f4:u.cell? (qzA s (o+4))=some (qzI c.st)
 f5:u.cell? (qzA s (o+5))=some (qzI c.rsn)
 f6:u.cell? (qzA s (o+6))=some (qzI c.cl)
 f7:u.cell? (qzA s (o+7))=some (qzI c.bk)
 f8:u.cell? (qzA s (o+8))=some (qzI c.fee)
 f9:u.cell? (qzA s (o+9))=some (.bool c.cop)
 f10:u.cell? (qzA s (o+10))=some (qzI c.sta)
 f11:u.cell? (qzA s (o+11))=some (qzI c.due)
theorem CB.lt {s o:Nat} {c:Cs} {u:World} (h:CB s o c u):s<u.heap.size:=World.block_lt_of_cell? u _ h.f0
theorem CB.below {s o:Nat} {c:Cs} {u i:World} (h:CB s o c u) (b:BW u i):CB s o c i:=by
 have l:=h.lt
 exact ⟨(b.cell (p:=(qzA s o)) l).trans h.f0,(b.cell (p:=(qzA s (o+1))) l).trans h.f1,(b.cell (p:=(qzA s (o+2))) l).trans h.f2,(b.cell (p:=(qzA s (o+3))) l).trans h.f3,(b.cell (p:=(qzA s (o+4))) l).trans h.f4,(b.cell (p:=(qzA s (o+5))) l).trans h.f5,
  (b.cell (p:=(qzA s (o+6))) l).trans h.f6,(b.cell (p:=(qzA s (o+7))) l).trans h.f7,(b.cell (p:=(qzA s (o+8))) l).trans h.f8,(b.cell (p:=(qzA s (o+9))) l).trans h.f9,(b.cell (p:=(qzA s (o+10))) l).trans h.f10,(b.cell (p:=(qzA s (o+11))) l).trans h.f11⟩
theorem CB.grown {s o:Nat} {c:Cs} {u i:World} {row:Option Nat} (h:CB s o c u) (g:u.grownBy i row) (a:some s≠row):CB s o c i:=by
 have l:=h.lt
 exact ⟨(g.cell_far (qzA s o) l a).trans h.f0,(g.cell_far (qzA s (o+1)) l a).trans h.f1,(g.cell_far (qzA s (o+2)) l a).trans h.f2,(g.cell_far (qzA s (o+3)) l a).trans h.f3,(g.cell_far (qzA s (o+4)) l a).trans h.f4,(g.cell_far (qzA s (o+5)) l a).trans h.f5,
  (g.cell_far (qzA s (o+6)) l a).trans h.f6,(g.cell_far (qzA s (o+7)) l a).trans h.f7,(g.cell_far (qzA s (o+8)) l a).trans h.f8,(g.cell_far (qzA s (o+9)) l a).trans h.f9,(g.cell_far (qzA s (o+10)) l a).trans h.f10,(g.cell_far (qzA s (o+11)) l a).trans h.f11⟩
theorem CB.new (w:World) (c:Cs) (t:TypeId):CB w.heap.size 0 c (w.alloc (.cells #[qzI c.iss,qzI c.acq,qzI c.cur,qzI c.am,qzI c.st,qzI c.rsn,qzI c.cl,qzI c.bk,qzI c.fee,.bool c.cop,qzI c.sta,qzI c.due] t)):=by
 exact ⟨by simp,by simp,by simp,by simp,by simp,by simp,by simp,by simp,by simp,by simp,by simp,by simp⟩
structure FZ (s o:Nat) (u:World):Prop where
 z0:u.frozen? (qzA s o)=false
 z1:u.frozen? (qzA s (o+1))=false
 z2:u.frozen? (qzA s (o+2))=false
 z3:u.frozen? (qzA s (o+3))=false
 z4:u.frozen? (qzA s (o+4))=false
 z5:u.frozen? (qzA s (o+5))=false
 z6:u.frozen? (qzA s (o+6))=false
 z7:u.frozen? (qzA s (o+7))=false
 z8:u.frozen? (qzA s (o+8))=false
 z9:u.frozen? (qzA s (o+9))=false
 z10:u.frozen? (qzA s (o+10))=false
 z11:u.frozen? (qzA s (o+11))=false
theorem FZ.below {s o:Nat} {u i:World} (h:FZ s o u) (l:s<u.heap.size) (b:BW u i):FZ s o i :=
 ⟨(b.frozen (p:=(qzA s o)) l).trans h.z0,(b.frozen (p:=(qzA s (o+1))) l).trans h.z1,(b.frozen (p:=(qzA s (o+2))) l).trans h.z2,(b.frozen (p:=(qzA s (o+3))) l).trans h.z3,(b.frozen (p:=(qzA s (o+4))) l).trans h.z4,(b.frozen (p:=(qzA s (o+5))) l).trans h.z5,(b.frozen (p:=(qzA s (o+6))) l).trans h.z6,(b.frozen (p:=(qzA s (o+7))) l).trans h.z7,(b.frozen (p:=(qzA s (o+8))) l).trans h.z8,(b.frozen (p:=(qzA s (o+9))) l).trans h.z9,(b.frozen (p:=(qzA s (o+10))) l).trans h.z10,(b.frozen (p:=(qzA s (o+11))) l).trans h.z11⟩
theorem FZ.grown {s o:Nat} {u i:World} {row:Option Nat} (h:FZ s o u) (l:s<u.heap.size) (g:u.grownBy i row) (a:some s≠row):FZ s o i :=
 ⟨(g.frozen_far (qzA s o) l a).trans h.z0,(g.frozen_far (qzA s (o+1)) l a).trans h.z1,(g.frozen_far (qzA s (o+2)) l a).trans h.z2,(g.frozen_far (qzA s (o+3)) l a).trans h.z3,(g.frozen_far (qzA s (o+4)) l a).trans h.z4,(g.frozen_far (qzA s (o+5)) l a).trans h.z5,(g.frozen_far (qzA s (o+6)) l a).trans h.z6,(g.frozen_far (qzA s (o+7)) l a).trans h.z7,(g.frozen_far (qzA s (o+8)) l a).trans h.z8,(g.frozen_far (qzA s (o+9)) l a).trans h.z9,(g.frozen_far (qzA s (o+10)) l a).trans h.z10,(g.frozen_far (qzA s (o+11)) l a).trans h.z11⟩
theorem FZ.new (w:World) (cs:Array Value) (t:TypeId):FZ w.heap.size 0 (w.alloc (.cells cs t)) :=
 (by constructor<;>simp [go_sem, *])
def Cz (u:World) (h:Nat) (c:Cs):World :=
 (((((((((((u.setCell (qzA h 0) (qzI c.iss)).setCell (qzA h 1) (qzI c.acq)).setCell (qzA h 2) (qzI c.cur)).setCell (qzA h 3) (qzI c.am)).setCell (qzA h 4) (qzI c.st)).setCell (qzA h 5) (qzI c.rsn)).setCell (qzA h 6) (qzI c.cl)).setCell (qzA h 7) (qzI c.bk)).setCell (qzA h 8) (qzI c.fee)).setCell (qzA h 9) (.bool c.cop)).setCell (qzA h 10) (qzI c.sta)).setCell (qzA h 11) (qzI c.due)
theorem Cp {w u:World} {h n:Nat} (c:Cs) (b:Below n w u) (f:n<=h):Below n w (Cz u h c) :=
 (((((((((((b.setCell f _).setCell f _).setCell f _).setCell f _).setCell f _).setCell f _).setCell f _).setCell f _).setCell f _).setCell f _).setCell f _).setCell f _
theorem Mb {u:World} {h:Nat} {c d:Cs} (b:CB h 0 d u):CB h 0 c (Cz u h c):=by
 obtain ⟨f0,f1,f2,f3,f4,f5,f6,f7,f8,f9,f10,f11⟩:=b
 simp only [Nat.zero_add] at f0 f1 f2 f3 f4 f5 f6 f7 f8 f9 f10 f11
 exact ⟨by simp [Cz,go_sem,f0],by simp [Cz,go_sem,f1],by simp [Cz,go_sem,f2],by simp [Cz,go_sem,f3],by simp [Cz,go_sem,f4],by simp [Cz,go_sem,f5],by simp [Cz,go_sem,f6],by simp [Cz,go_sem,f7],by simp [Cz,go_sem,f8],by simp [Cz,go_sem,f9],by simp [Cz,go_sem,f10],by simp [Cz,go_sem,f11]⟩
theorem Av {w w':World} {base n size:Nat} {t:TypeId} {v:Value} {b:List Value} (h:w.ownsRow base t size v n b) (hb:BW w w'):w'.ownsRow base t size v n b:=by
 obtain ⟨d,f⟩:=h;refine ⟨d,?_⟩
 rcases f with h | ⟨g,cap,c,a,hg,j,a1,a2,l,m⟩
 ·exact .inl h
 ·have k:g<w.heap.size:=(Array.getElem?_eq_some_iff.1 j).1
  exact .inr ⟨g,cap,c,a,hg,(hb.block g k).trans j,a1,a2,l,m⟩
theorem A5 {w:World} {base n size:Nat} {t:TypeId} {v:Value} {b:List Value} (h:w.ownsRow base t size v n b) (p:Addr) (u:Value) (A:∀ g,v.ownBlock=some g->g≠p.block):(w.setCell p u).ownsRow base t size v n b:=by
 obtain ⟨d,f⟩:=h;refine ⟨d,?_⟩
 rcases f with h | ⟨g,cap,c,a,hg,j,a1,a2,l,m⟩
 ·exact .inl h
 ·exact .inr ⟨g,cap,c,a,hg,(Below.heap_setCell w p u g (A g (by rw [a];rfl))).trans j,a1,a2,l,m⟩
theorem sH {w w':World} {base n size:Nat} {t:TypeId} {v:Value} {b:List Value} {row:Option Nat} (h:w.ownsRow base t size v n b) (hg:w.grownBy w' row) (y:∀ g,v.ownBlock=some g->some g≠row):w'.ownsRow base t size v n b:=by
 obtain ⟨d,f⟩:=h;refine ⟨d,?_⟩
 rcases f with h | ⟨g,cap,c,a,x,j,a1,a2,l,m⟩
 ·exact .inl h
 ·have k:g<w.heap.size:=(Array.getElem?_eq_some_iff.1 j).1
  exact .inr ⟨g,cap,c,a,x,(hg.block g k (y g (by rw [a];rfl))).trans j,a1,a2,l,m⟩
theorem Bi {w:World} {base base' n size:Nat} {t:TypeId} {v:Value} {b:List Value} (h:w.ownsRow base t size v n b) (hb:base'<=base):w.ownsRow base' t size v n b:=by
 obtain ⟨d,f⟩:=h;refine ⟨d,?_⟩
 rcases f with h | ⟨g,cap,c,a,hg,r⟩
 ·exact .inl h
 ·exact .inr ⟨g,cap,c,a,Nat.le_trans hb hg,r⟩
theorem bY:(prog.info? 113).map (fun i=>(i.zero,i.size,i.bytes))=some (some (.agg #[qzI 0,qzI 0,qzI 0]),3,24):=by kernel_rfl
theorem Df {w:World} {base n:Nat} {t:TypeId} {q:Option Addr} {cap:Nat} {ls:List Ln} (h:w.ownsRow base t 3 (.slice q ls.length cap) n (Ag ls)):Ai w q ls:=by
 obtain ⟨s,o,a,z,_⟩:=Ef h
 obtain ⟨rfl,_⟩:q=s/\cap=o:=by simpa using a
 exact z
def sW (x:En):List Value:=[qzI x.1,qzI x.2.1,qzI x.2.2.1,qzI x.2.2.2]
def Ba (es:List En):List Value:=es.flatMap sW
theorem Ou (x:En) (r:List En):Ba (x::r)=qzI x.1::qzI x.2.1::qzI x.2.2.1::qzI x.2.2.2::Ba r:=rfl
theorem aK (es:List En):(Ba es).length=es.length*4:=by
 induction es with
 | nil=>rfl
 | cons f r ih=>rw [Ou];simp [ih];omega
theorem fS (es:List En):∀ k,k<es.length->(Ba es)[k*4]?=some (qzI (I4 es k).1)/\(Ba es)[k*4+1]?=some (qzI (I4 es k).2.1)/\(Ba es)[k*4+2]?=some (qzI (I4 es k).2.2.1)/\(Ba es)[k*4+3]?=some (qzI (I4 es k).2.2.2):=by
 induction es with
 | nil=>intro k h;simp at h
 | cons f r ih =>
  intro k h;rw [Ou]
  cases k with
  | zero=>exact ⟨rfl,rfl,rfl,rfl⟩
  | succ k =>
   have:=ih k (by simpa using h)
   rw [show (k+1) * 4=k*4+1+1+1+1 by omega]
   simp only [List.getElem?_cons_succ]
   exact this
theorem Gh {w:World} {base n:Nat} {t:TypeId} {v:Value} {es:List En} (h:w.ownsRow base t 4 v n (Ba es)):∃ a cap,v=.slice a es.length cap/\C8 w a es/\n=es.length:=by
 have d:n=es.length:=by have:=h.1;rw [aK] at this;omega
 subst d
 rcases h.2 with ⟨rfl,d⟩ | ⟨g,cap,m,rfl,_⟩
 ·have:es=[]:=List.eq_nil_of_length_eq_zero d
  subst this;exact ⟨none,0,rfl,.inl rfl,rfl⟩
 ·refine ⟨_,cap,rfl,?_,rfl⟩
  by_cases h0:es=[]
  ·exact .inl h0
  ·refine .inr ⟨g,0,rfl,(h.lt g rfl).2,fun i hi=>?_⟩
   have:=fS es i hi
   rw [Nat.zero_add,h.cellAt (i*4) (by omega),h.cellAt (i*4+1) (by omega),h.cellAt (i*4+2) (by omega),h.cellAt (i*4+3) (by omega)]
   exact this
theorem Hk {w:World} {base n:Nat} {t:TypeId} {a:Option Addr} {cap:Nat} {es:List En} (h:w.ownsRow base t 4 (.slice a es.length cap) n (Ba es)):C8 w a es:=by
 obtain ⟨c,b,l,j,_⟩:=Gh h
 obtain ⟨rfl,_⟩:a=c/\cap=b:=by simpa using l
 exact j
theorem sI:(prog.info? 269).map (fun i=>(i.zero,i.size,i.bytes))=some (some (.agg #[qzI 0,qzI 0,qzI 0,qzI 0]),4,32):=by kernel_rfl
end Go.Proofs.YtomiclakhjncbaaGreatDoor
namespace Go.Proofs.YtomiclakhjncbaaGreatDoor
open Go.ChangeShapes Go.WideShapes Go.ChangeAt Go.RowKit Go.Proofs.Tryz
def Qk (c:Cs):Prop:=Bf c.iss/\Bf c.acq/\Bf c.cur/\Bf c.am/\Bf c.st/\Bf c.rsn/\Bf c.cl/\Bf c.bk/\Bf c.fee/\Bf c.sta/\Bf c.due
def av (a:Ac):Value:=.agg #[qzI a.kind,qzI a.am,qzI a.rsn]
section
variable {P:Program} {H:Type} {enc:TypeId×Value->H} {W:World}
end
end Go.Proofs.YtomiclakhjncbaaGreatDoor
namespace Go.Proofs.YtomiclakhjncbaaGreatDoor
open Go.ChangeShapes Go.WideShapes Go.ChangeAt Go.RowKit Go.Deep Go.Proofs.Tryz
def A8 (cs:List Cs) (k:Nat):Cs:=cs.getD k ⟨0,0,0,0,0,0,0,0,0,false,0,0⟩
theorem bT {cs:List Cs} {k:Nat} (h:k<cs.length):A8 cs k=cs[k]:=by simp [A8,List.getD_eq_getElem?_getD,h]
theorem Xg {cs:List Cs} {k:Nat} (h:k<cs.length):A8 cs k ∈ cs:=by rw [bT h];exact List.getElem_mem h
def A0 (w:World) (d:Option Addr) (cs:List Cs):Prop :=
 cs=[]\/∃ b off,d=some (qzA b off)/\b<w.heap.size/\∀ i,i<cs.length->CB b (off+i*12) (A8 cs i) w
theorem A0.below {w w':World} {d:Option Addr} {cs:List Cs} (h:A0 w d cs) (hb:BW w w'):A0 w' d cs:=by
 rcases h with h | ⟨b,off,m,o,p⟩
 ·exact .inl h
 ·exact .inr ⟨b,off,m,Nat.lt_of_lt_of_le o hb.size,fun i hi=>(p i hi).below hb⟩
theorem A0.at {w:World} {d:Option Addr} {cs:List Cs} (h:A0 w d cs) {k:Nat} (l:k<cs.length):∃ b off,d=some (qzA b off)/\b<w.heap.size/\CB b (off+k*12) (A8 cs k) w:=by
 rcases h with rfl | ⟨b,off,m,o,p⟩
 ·simp at l
 ·exact ⟨b,off,m,o,p k l⟩
section
variable {P:Program} {H:Type} {enc:TypeId×Value->H} {W:World}
end
def Aj (cs:List Cs):List Value:=cs.flatMap fun c=>(Xt c).toList
theorem Mm (c:Cs) (r:List Cs):Aj (c::r)=(Xt c).toList++Aj r:=rfl
theorem J5 (a b:List Cs):Aj (a++b)=Aj a++Aj b:=by simp [Aj]
theorem Ge (cs:List Cs):(Aj cs).length=cs.length*12:=by
 induction cs with
 | nil=>rfl
 | cons c r ih=>rw [Mm,List.length_append,ih];simp [Xt];omega
theorem E6 (cs:List Cs):∀ (k j:Nat),k<cs.length->j<12->(Aj cs)[k*12+j]?=(Xt (A8 cs k)).toList[j]?:=by
 induction cs with
 | nil=>intro k j h;simp at h
 | cons c r ih =>
  intro k j l q;rw [Mm]
  cases k with
  | zero =>
   rw [List.getElem?_append_left (by simp [Xt];omega)]
   simp [A8]
  | succ k =>
   have hl:(Xt c).toList.length=12:=by simp [Xt]
   rw [List.getElem?_append_right (by rw [hl];omega),hl,show (k+1) * 12+j - 12=k*12+j by omega,ih k j (by simpa using l) q]
   simp [A8]
theorem Vx (cs:List Cs):∀ u ∈ Aj cs,u.oneCell'=true:=by
 intro u y
 simp [Aj,Xt] at y
 obtain ⟨c,_,h⟩:=y
 rcases h with rfl | rfl | rfl | rfl | rfl | rfl | rfl | rfl | rfl | rfl | rfl | rfl <;> rfl
theorem F2 {w:World} {base n:Nat} {t:TypeId} {d:Option Addr} {cap:Nat} {cs:List Cs} (h:w.ownsRow base t 12 (.slice d n cap) n (Aj cs)):A0 w d cs:=by
 rcases h.2 with ⟨x,A⟩ | ⟨g,f,z,x,v⟩
 ·have hl:=h.1
  obtain ⟨rfl,rfl,rfl⟩:d=none/\n=0/\cap=0:=by simpa using x
  rw [Ge] at hl
  exact .inl (List.length_eq_zero_iff.1 (by omega))
 ·have hl:=h.1
  rw [Ge] at hl
  obtain ⟨rfl,rfl⟩:d=some (qzA g 0)/\cap=f:=by simpa using x
  by_cases hz:cs=[]
  ·exact .inl hz
  ·have s:=(h.lt g rfl).2
   refine .inr ⟨g,0,rfl,s,fun i hi=>?_⟩
   have e:∀ j,j<12->w.cell? (qzA g (0+i*12+j))=(Xt (A8 cs i)).toList[j]?:=fun j q=>by
    rw [Nat.zero_add,h.cellAt (i*12+j) (by omega),E6 cs i j hi q]
   exact ⟨e 0 (by omega),e 1 (by omega),e 2 (by omega),e 3 (by omega),e 4 (by omega),e 5 (by omega),e 6 (by omega),e 7 (by omega),e 8 (by omega),e 9 (by omega),e 10 (by omega),e 11 (by omega)⟩
end Go.Proofs.YtomiclakhjncbaaGreatDoor
namespace Go.Proofs.YtomiclakhjncbaaGreatDoor
open Go.RowKit Go.Proofs.Tryz
end Go.Proofs.YtomiclakhjncbaaGreatDoor
namespace Go.Proofs.YtomiclakhjncbaaGreatDoor
open Go.ChangeShapes Go.WideShapes Go.ChangeAt Go.RowKit Go.Deep Go.Proofs.Tryz
def Bh (w:World) (c:Option Addr) (rs:Be):Prop :=
 rs=[]\/∃ b off,c=some (qzA b off)/\b<w.heap.size/\∀ i,i<rs.length->w.cell? (qzA b (off+i))=some (.string ⟨(Al rs i).toArray⟩)
theorem Bh.below {w w':World} {c:Option Addr} {rs:Be} (h:Bh w c rs) (hb:BW w w'):Bh w' c rs:=by
 rcases h with h | ⟨b,off,s,o,H⟩
 ·exact .inl h
 ·exact .inr ⟨b,off,s,Nat.lt_of_lt_of_le o hb.size,fun i hi=>(hb.cell (p:=(qzA b (off+i))) o).trans (H i hi)⟩
def Py (r:List UInt8):Value:=.string ⟨r.toArray⟩
def Am (rs:Be):List Value:=rs.map Py
theorem L7 (rs:Be):(Am rs).length=rs.length:=by simp [Am]
theorem F6 (a b:Be):Am (a++b)=Am a++Am b:=by simp [Am]
theorem Hd (rs:Be) (k:Nat) (h:k<rs.length):(Am rs)[k]?=some (.string ⟨(Al rs k).toArray⟩):=by
 simp [Am,Py,Al,List.getD_eq_getElem?_getD,h]
theorem Lu (rs:Be) (k:Nat) (r:List UInt8):(Am rs).set k (.string ⟨r.toArray⟩)=Am (rs.set k r):=by
 show (rs.map Py).set k (Py r)=(rs.set k r).map Py
 rw [List.map_set]
theorem Zv (rs:Be):∀ u ∈ Am rs,u.oneCell'=true:=by
 intro u j
 simp only [Am,List.mem_map] at j
 obtain ⟨r,_,rfl⟩:=j
 rfl
theorem S1:(prog.info? 9).map (fun i=>(i.zero,i.size,i.bytes))=some (some (.string ⟨#[]⟩),1,16):=by kernel_rfl
theorem Qc (m:Nat):(madeCells (Value.string ⟨#[]⟩).cells (m*1)).toList=Am (List.replicate m []):=by
 rw [Nat.mul_one];refine (toList_madeCells_one _ _).trans ?_
 simp [Am,Py]
theorem Vs {w w':World} {base n size:Nat} {t:TypeId} {v:Value} {C:List Value} (h:w.ownsRow base t size v n C) (hb:BW w w'):w'.ownsRow base t size v n C:=by
 obtain ⟨s,o⟩:=h;refine ⟨s,?_⟩
 rcases o with h | ⟨g,cap,z,y,hg,A,a1,a2,D,F⟩
 ·exact .inl h
 ·have d:g<w.heap.size:=(Array.getElem?_eq_some_iff.1 A).1
  exact .inr ⟨g,cap,z,y,hg,(hb.block g d).trans A,a1,a2,D,F⟩
theorem Ov {w:World} {base n:Nat} {t:TypeId} {v:Value} {rs:Be} (h:w.ownsRow base t 1 v n (Am rs)):∃ c cap,v=.slice c rs.length cap/\Bh w c rs/\n=rs.length:=by
 have x:n=rs.length:=by have:=h.1;rw [L7] at this;omega
 subst x
 rcases h.2 with ⟨rfl,x⟩ | ⟨g,cap,z,rfl,_⟩
 ·have:rs=[]:=List.eq_nil_of_length_eq_zero x
  subst this;exact ⟨none,0,rfl,.inl rfl,rfl⟩
 ·refine ⟨_,cap,rfl,?_,rfl⟩
  by_cases h0:rs=[]
  ·exact .inl h0
  ·have d:=(h.lt g rfl).2
   refine .inr ⟨g,0,rfl,d,fun i hi=>?_⟩
   rw [Nat.zero_add,h.cellAt i (by omega)]
   exact Hd rs i hi
theorem Ep {w:World} {base n:Nat} {t:TypeId} {c:Option Addr} {cap:Nat} {rs:Be} (h:w.ownsRow base t 1 (.slice c rs.length cap) n (Am rs)):Bh w c rs:=by
 obtain ⟨q,f,y,J,_⟩:=Ov h
 obtain ⟨rfl,_⟩:c=q/\cap=f:=by simpa using y
 exact J
theorem Kq {w:World} {b off:Nat} {rs:Be} (h:Bh w (some (qzA b off)) rs) {k:Nat} (B:k<rs.length):w.cell? (qzA b (off+k))=some (.string ⟨(Al rs k).toArray⟩)/\b<w.heap.size:=by
 rcases h with rfl | ⟨G,l,L,hb,I⟩
 ·simp at B
 ·obtain ⟨rfl,rfl⟩:b=G/\off=l:=by simpa using L
  exact ⟨I k B,hb⟩
theorem Rf (r:List UInt8):∀ u ∈ [Value.string ⟨r.toArray⟩],u.oneCell'=true:=by
 intro u j
 simp at j
 subst j;rfl
def Eg (rs:Be) (k:Nat):Be:=rs.take k++List.replicate (rs.length - k) []
theorem S5 (rs:Be):Eg rs rs.length=rs:=by simp [Eg]
theorem Tq (rs:Be) (k:Nat) (h:k<=rs.length):(Eg rs k).length=rs.length:=by simp [Eg];omega
theorem Q8 (rs:Be) (k:Nat) (h:k<rs.length):(Eg rs k).set k (Al rs k)=Eg rs (k+1):=by
 unfold Eg
 rw [List.set_append,if_neg (by simp;omega),List.length_take,Nat.min_eq_left (Nat.le_of_lt h),Nat.sub_self,show rs.length - k=rs.length - (k+1)+1 by omega,List.replicate_succ,List.set_cons_zero,lI rs k h,List.append_assoc]
 rfl
theorem Wd (rs:Be) (k:Nat) (h:k<rs.length):Al (Eg rs k) k=[]:=by
 simp [Al,Eg,List.getD_eq_getElem?_getD,List.getElem?_append,Nat.min_eq_left (Nat.le_of_lt h),List.getElem?_replicate]
 split <;> rfl
def V3 (rs:Be):Nat:=(rs.map List.length).sum
end Go.Proofs.YtomiclakhjncbaaGreatDoor
namespace Go.Proofs.YtomiclakhjncbaaGreatDoor
open Go.RowKit Go.Proofs.Tryz
theorem Rr (T U:Option Addr) (c1 c2:Nat) (a c:Be) (w:World) (hx:Bh w T a) (hy:Bh w U c) (Y:a.length<=1099511627776) (h2:c.length<=1099511627776) :
  Calls prog 17 #[.slice T a.length c1,.slice U c.length c2] w fun e w'=>e=.returned (.bool (decide (a=c)))/\BW w w':=by
 by_cases hl:a.length=c.length
 ·rcases hx with rfl | ⟨b,off,rfl,hb,q⟩
  ·have O:c=[]:=List.eq_nil_of_length_eq_zero hl.symm
   subst O
   go_enter func17,ntmps17
   go_wp2;refine wp_loop_rounds 1 ?_;rw [rounds_succ];go_wp2;go_ret;exact ⟨rfl,bR⟩
  ·rcases hy with rfl | ⟨d,l,rfl,hd,r⟩
   ·have N:a=[]:=List.eq_nil_of_length_eq_zero hl
    subst N
    go_enter func17,ntmps17
    go_wp2;refine wp_loop_rounds 1 ?_;rw [rounds_succ];go_wp2;go_ret;exact ⟨rfl,bR⟩
   ·obtain ⟨n,L⟩:∃ n,a.length=n:=⟨_,rfl⟩
    have u:c.length=n:=by omega
    rw [L] at q Y ⊢;rw [u] at r ⊢;have S:Hid (a.length=n):=L;have W:Hid (c.length=n):=u;have D:Hid (∀ i,i<n->w.cell? (qzA b (off+i))=some (.string ⟨(Al a i).toArray⟩)):=q;have F:Hid (∀ i,i<n->w.cell? (qzA d (l+i))=some (.string ⟨(Al c i).toArray⟩)):=r;clear hl L u q r
    go_enter func17,ntmps17
    go_wp2
    go_loopw [5] (fun i wr=>∃ k:Nat,k<=n/\i=qzI k/\(∀ j,j<k->Al a j=Al c j)/\BW w wr) (fun i _=>n - (intOf i).toNat)
    case atStart=>exact ⟨0,Nat.zero_le _,rfl,fun j hj=>by omega,bR⟩
    case round =>
     obtain ⟨k,hk,rfl,g,f⟩:=hrel;have R:Hid (∀ j,j<k->Al a j=Al c j):=g;clear g
     by_cases hlt:k<n
     ·have e1:wr.cell? (qzA b (off+k))=some (.string ⟨(Al a k).toArray⟩):=(f.cell (p:=(qzA b (off+k))) hb).trans (D.o k hlt)
      have e3:wr.cell? (qzA d (l+k))=some (.string ⟨(Al c k).toArray⟩):=(f.cell (p:=(qzA d (l+k))) hd).trans (F.o k hlt)
      have Z:(k:Int)<(n:Int):=by omega
      have m:Hid (Al a k≠Al c k->¬ a=c):=fun h e=>h (by rw [e])
      obtain ⟨s,z⟩:∃ x,Al a k=x:=⟨_,rfl⟩;obtain ⟨t,A⟩:∃ y,Al c k=y:=⟨_,rfl⟩;rw [z] at e1;rw [A] at e3;have B:Hid (Al a k=s):=z;have C:Hid (Al c k=t):=A;clear z A;have M:=K0 wr;have J:=As e1;have g3:=As e3
      by_cases hs1:s=t
      ·subst hs1
       have H:Hid (Al a k=Al c k):=by rw [Hid,B.o,C.o]
       have a4:(s == s)=true:=by simp
       clear m;go_wp2
       refine B6 (by kernel_rfl) (by kernel_rfl) ?_
       repeat (go_big_quiet_step (fail))
       refine wpQuiet_nil ?_;rintro _ ⟨⟨w2,I⟩,v⟩;subst v;go_wp2
       go_roundw
       case rel=>exact ⟨k+1,by omega,by go_num,fun j hj=>by rcases (show j<k\/j=k from by omega) with h | rfl;exact R.o j h;exact H.o,f.trans (I.mono f.size)⟩
       case measure=>simp [intOf];omega
      ·have a3:(s == t)=false:=by simpa using hs1
       have V:Hid (¬ a=c):=m.o (by rw [B.o,C.o];exact hs1)
       clear m hs1;go_wp2
       refine B6 (by kernel_rfl) (by kernel_rfl) ?_
       repeat (go_big_quiet_step (fail))
       refine wpQuiet_nil ?_;rintro _ ⟨⟨w2,I⟩,v⟩;subst v;go_wp2;go_ret
       exact ⟨Aa (by rw [decide_eq_false V.o]),f.trans (I.mono f.size)⟩
     ·have G:Hid (a=c):=by
        apply List.ext_getElem (by rw [S.o,W.o])
        intro i J X
        have:=R.o i (by rw [S.o] at J;omega)
        simpa [Al,List.getD_eq_getElem?_getD,J,X] using this
      go_wp2;go_ret
      exact ⟨Aa (by rw [decide_eq_true G.o]),f⟩
 ·have M:((a.length:Int) != (c.length:Int))=true:=by simp;omega
  have G:Hid (¬ a=c):=fun e=>hl (by rw [e])
  go_enter func17,ntmps17
  go_wp2;go_ret
  exact ⟨Aa (by rw [decide_eq_false G.o]),bR⟩
theorem vW (T U:Option Addr) (c1 c2:Nat) (a c:Be) (w:World) (hx:Bh w T a) (hy:Bh w U c) (Y:a.length<=1099511627776) (h2:c.length<=1099511627776) :
  Calls prog 42 #[.slice T a.length c1,.slice U c.length c2] w fun e w'=>e=.returned (.bool (decide (a=c)))/\BW w w':=by
 by_cases hl:a.length=c.length
 ·rcases hx with rfl | ⟨b,off,rfl,hb,q⟩
  ·have O:c=[]:=List.eq_nil_of_length_eq_zero hl.symm
   subst O
   go_enter func42,ntmps42
   go_wp2;refine wp_loop_rounds 1 ?_;rw [rounds_succ];go_wp2;go_ret;exact ⟨rfl,bR⟩
  ·rcases hy with rfl | ⟨d,l,rfl,hd,r⟩
   ·have N:a=[]:=List.eq_nil_of_length_eq_zero hl
    subst N
    go_enter func42,ntmps42
    go_wp2;refine wp_loop_rounds 1 ?_;rw [rounds_succ];go_wp2;go_ret;exact ⟨rfl,bR⟩
   ·obtain ⟨n,L⟩:∃ n,a.length=n:=⟨_,rfl⟩
    have u:c.length=n:=by omega
    rw [L] at q Y ⊢;rw [u] at r ⊢;have S:Hid (a.length=n):=L;have W:Hid (c.length=n):=u;have D:Hid (∀ i,i<n->w.cell? (qzA b (off+i))=some (.string ⟨(Al a i).toArray⟩)):=q;have F:Hid (∀ i,i<n->w.cell? (qzA d (l+i))=some (.string ⟨(Al c i).toArray⟩)):=r;clear hl L u q r
    go_enter func42,ntmps42
    go_wp2
    go_loopw [5] (fun i wr=>∃ k:Nat,k<=n/\i=qzI k/\(∀ j,j<k->Al a j=Al c j)/\BW w wr) (fun i _=>n - (intOf i).toNat)
    case atStart=>exact ⟨0,Nat.zero_le _,rfl,fun j hj=>by omega,bR⟩
    case round =>
     obtain ⟨k,hk,rfl,g,f⟩:=hrel;have R:Hid (∀ j,j<k->Al a j=Al c j):=g;clear g
     by_cases hlt:k<n
     ·have e1:wr.cell? (qzA b (off+k))=some (.string ⟨(Al a k).toArray⟩):=(f.cell (p:=(qzA b (off+k))) hb).trans (D.o k hlt)
      have e3:wr.cell? (qzA d (l+k))=some (.string ⟨(Al c k).toArray⟩):=(f.cell (p:=(qzA d (l+k))) hd).trans (F.o k hlt)
      have Z:(k:Int)<(n:Int):=by omega
      have m:Hid (Al a k≠Al c k->¬ a=c):=fun h e=>h (by rw [e])
      obtain ⟨s,z⟩:∃ x,Al a k=x:=⟨_,rfl⟩;obtain ⟨t,A⟩:∃ y,Al c k=y:=⟨_,rfl⟩;rw [z] at e1;rw [A] at e3;have B:Hid (Al a k=s):=z;have C:Hid (Al c k=t):=A;clear z A;have M:=K0 wr;have J:=As e1;have g3:=As e3
      by_cases hs1:s=t
      ·subst hs1
       have H:Hid (Al a k=Al c k):=by rw [Hid,B.o,C.o]
       have a4:(s == s)=true:=by simp
       clear m;go_wp2
       refine B6 (by kernel_rfl) (by kernel_rfl) ?_
       repeat (go_big_quiet_step (fail))
       refine wpQuiet_nil ?_;rintro _ ⟨⟨w2,I⟩,v⟩;subst v;go_wp2
       go_roundw
       case rel=>exact ⟨k+1,by omega,by go_num,fun j hj=>by rcases (show j<k\/j=k from by omega) with h | rfl;exact R.o j h;exact H.o,f.trans (I.mono f.size)⟩
       case measure=>simp [intOf];omega
      ·have a3:(s == t)=false:=by simpa using hs1
       have V:Hid (¬ a=c):=m.o (by rw [B.o,C.o];exact hs1)
       clear m hs1;go_wp2
       refine B6 (by kernel_rfl) (by kernel_rfl) ?_
       repeat (go_big_quiet_step (fail))
       refine wpQuiet_nil ?_;rintro _ ⟨⟨w2,I⟩,v⟩;subst v;go_wp2;go_ret
       exact ⟨Aa (by rw [decide_eq_false V.o]),f.trans (I.mono f.size)⟩
     ·have G:Hid (a=c):=by
        apply List.ext_getElem (by rw [S.o,W.o])
        intro i J X
        have:=R.o i (by rw [S.o] at J;omega)
        simpa [Al,List.getD_eq_getElem?_getD,J,X] using this
      go_wp2;go_ret
      exact ⟨Aa (by rw [decide_eq_true G.o]),f⟩
 ·have M:((a.length:Int) != (c.length:Int))=true:=by simp;omega
  have G:Hid (¬ a=c):=fun e=>hl (by rw [e])
  go_enter func42,ntmps42
  go_wp2;go_ret
  exact ⟨Aa (by rw [decide_eq_false G.o]),bR⟩
def Aw (w:World) (a:Option Addr) (zs:List Int):Prop :=
 zs=[]\/∃ b off,a=some (qzA b off)/\b<w.heap.size/\∀ i,i<zs.length->w.cell? (qzA b (off+i))=some (qzI (zs.getD i 0))
theorem Aw.below {w w':World} {a:Option Addr} {zs:List Int} (h:Aw w a zs) (hb:BW w w'):Aw w' a zs:=by
 rcases h with h | ⟨b,off,f,c,j⟩
 ·exact .inl h
 ·exact .inr ⟨b,off,f,Nat.lt_of_lt_of_le c hb.size,fun i hi=>(hb.cell (p:=(qzA b (off+i))) c).trans (j i hi)⟩
theorem Vr {w:World} {base g n cap:Nat} {zs:List Int} (h:w.ownsRow base 3 1 (.slice (some (qzA g 0)) n cap) n (zs.map (Value.int .i64))):Aw w (some (qzA g 0)) zs:=by
 by_cases h0:zs=[]
 ·exact .inl h0
 ·have hl:zs.length=n:=by simpa using h.1
  have k:0<zs.length:=List.length_pos_iff.2 h0
  have d:∀ i,i<zs.length->w.cell? (qzA g (0+i))=some (qzI (zs.getD i 0)):=by
   intro i hi
   rw [Nat.zero_add,h.cellAt i (by omega)]
   simp [List.getD_eq_getElem?_getD,hi]
  exact .inr ⟨g,0,rfl,World.block_lt_of_cell? w _ (d 0 k),d⟩
theorem pQ:(prog.info? 3).map (fun i=>(i.zero,i.size,i.bytes))=some (some (qzI 0),1,8):=by kernel_rfl
theorem Z3 {a c:List Int} (hl:a.length=c.length) (h:∀ j,j<a.length->a.getD j 0=c.getD j 0):a=c:=by
 apply List.ext_getElem hl;intro i F M
 have:=h i F
 simpa [List.getD_eq_getElem?_getD,F,M] using this
theorem aU (I J:Option Addr) (c1 c2:Nat) (a c:List Int) (w:World) (O:Aw w I a) (hy:Aw w J c) (F:a.length<=1099511627776) (M:c.length<=1099511627776) :
  Calls prog 16 #[.slice I a.length c1,.slice J c.length c2] w fun e w'=>e=.returned (.bool (decide (a=c)))/\BW w w':=by
 by_cases hl:a.length=c.length
 ·rcases O with rfl | ⟨b,off,rfl,hb,l⟩
  ·have D:c=[]:=List.eq_nil_of_length_eq_zero hl.symm
   subst D
   go_enter func16,ntmps16
   go_wp2;refine wp_loop_rounds 1 ?_;rw [rounds_succ];go_wp2;go_ret;exact ⟨rfl,bR⟩
  ·rcases hy with rfl | ⟨d,r,rfl,hd,m⟩
   ·have C:a=[]:=List.eq_nil_of_length_eq_zero hl
    subst C
    go_enter func16,ntmps16
    go_wp2;refine wp_loop_rounds 1 ?_;rw [rounds_succ];go_wp2;go_ret;exact ⟨rfl,bR⟩
   ·obtain ⟨n,B⟩:∃ n,a.length=n:=⟨_,rfl⟩
    have t:c.length=n:=by omega
    rw [B] at l F ⊢;rw [t] at m ⊢;have H:Hid (a.length=n):=B;have L:Hid (c.length=n):=t;clear hl B t
    go_enter func16,ntmps16
    go_wp2
    go_loopw [5] (fun i wr=>∃ k:Nat,k<=n/\i=qzI k/\(∀ j,j<k->a.getD j 0=c.getD j 0)/\BW w wr) (fun i _=>n - (intOf i).toNat)
    case atStart=>exact ⟨0,Nat.zero_le _,rfl,fun j hj=>by omega,bR⟩
    case round =>
     obtain ⟨k,R,rfl,g,f⟩:=hrel;have G:Hid (∀ j,j<k->a.getD j 0=c.getD j 0):=g;clear g
     by_cases hlt:k<n
     ·have e1:wr.cell? (qzA b (off+k))=some (qzI (a.getD k 0)):=(f.cell (p:=(qzA b (off+k))) hb).trans (l k hlt)
      have e2:wr.cell? (qzA d (r+k))=some (qzI (c.getD k 0)):=(f.cell (p:=(qzA d (r+k))) hd).trans (m k hlt)
      have N:(k:Int)<(n:Int):=by omega
      obtain ⟨x,u⟩:∃ x,a.getD k 0=x:=⟨_,rfl⟩;obtain ⟨y,v⟩:∃ y,c.getD k 0=y:=⟨_,rfl⟩;rw [u] at e1;rw [v] at e2;have z:Hid (a.getD k 0=x):=u;have A:Hid (c.getD k 0=y):=v;clear u v l m
      cases q:(x != y)
      ·have s:Hid (a.getD k 0=c.getD k 0):=by rw [Hid,z.o,A.o];simpa using q
       go_wp2
       go_quiet (fail)
       go_wp2
       go_roundw
       case rel=>exact ⟨k+1,by omega,by go_num,fun j hj=>by rcases (show j<k\/j=k from by omega) with h | rfl;exact G.o j h;exact s.o,below_drewN f _⟩
       case measure=>simp [intOf];omega
      ·have s:Hid (¬ a=c):=fun e=>by subst e;rw [<- z.o,<- A.o] at q;simp at q
       go_wp2
       go_quiet (fail)
       go_wp2;go_ret
       exact ⟨Aa (by simpa using s.o),below_drewN f _⟩
     ·have s:Hid (a=c):=Z3 (by rw [H.o,L.o]) (fun j hj=>G.o j (by rw [H.o] at hj;omega))
      clear l m;go_wp2;go_ret
      exact ⟨Aa (by simpa using s.o),f⟩
 ·have q:((a.length:Int) != (c.length:Int))=true:=by simp;omega
  have s:Hid (¬ a=c):=fun e=>hl (by rw [e])
  go_enter func16,ntmps16
  go_wp2;go_ret
  exact ⟨Aa (by simpa using s.o),bR⟩
theorem wO (I J:Option Addr) (c1 c2:Nat) (a c:List Int) (w:World) (O:Aw w I a) (hy:Aw w J c) (F:a.length<=1099511627776) (M:c.length<=1099511627776) :
  Calls prog 33 #[.slice I a.length c1,.slice J c.length c2] w fun e w'=>e=.returned (.bool (decide (a=c)))/\BW w w':=by
 by_cases hl:a.length=c.length
 ·rcases O with rfl | ⟨b,off,rfl,hb,l⟩
  ·have D:c=[]:=List.eq_nil_of_length_eq_zero hl.symm
   subst D
   go_enter func33,ntmps33
   go_wp2;refine wp_loop_rounds 1 ?_;rw [rounds_succ];go_wp2;go_ret;exact ⟨rfl,bR⟩
  ·rcases hy with rfl | ⟨d,r,rfl,hd,m⟩
   ·have C:a=[]:=List.eq_nil_of_length_eq_zero hl
    subst C
    go_enter func33,ntmps33
    go_wp2;refine wp_loop_rounds 1 ?_;rw [rounds_succ];go_wp2;go_ret;exact ⟨rfl,bR⟩
   ·obtain ⟨n,B⟩:∃ n,a.length=n:=⟨_,rfl⟩
    have t:c.length=n:=by omega
    rw [B] at l F ⊢;rw [t] at m ⊢;have H:Hid (a.length=n):=B;have L:Hid (c.length=n):=t;clear hl B t
    go_enter func33,ntmps33
    go_wp2
    go_loopw [5] (fun i wr=>∃ k:Nat,k<=n/\i=qzI k/\(∀ j,j<k->a.getD j 0=c.getD j 0)/\BW w wr) (fun i _=>n - (intOf i).toNat)
    case atStart=>exact ⟨0,Nat.zero_le _,rfl,fun j hj=>by omega,bR⟩
    case round =>
     obtain ⟨k,R,rfl,g,f⟩:=hrel;have G:Hid (∀ j,j<k->a.getD j 0=c.getD j 0):=g;clear g
     by_cases hlt:k<n
     ·have e1:wr.cell? (qzA b (off+k))=some (qzI (a.getD k 0)):=(f.cell (p:=(qzA b (off+k))) hb).trans (l k hlt)
      have e2:wr.cell? (qzA d (r+k))=some (qzI (c.getD k 0)):=(f.cell (p:=(qzA d (r+k))) hd).trans (m k hlt)
      have N:(k:Int)<(n:Int):=by omega
      obtain ⟨x,u⟩:∃ x,a.getD k 0=x:=⟨_,rfl⟩;obtain ⟨y,v⟩:∃ y,c.getD k 0=y:=⟨_,rfl⟩;rw [u] at e1;rw [v] at e2;have z:Hid (a.getD k 0=x):=u;have A:Hid (c.getD k 0=y):=v;clear u v l m
      cases q:(x != y)
      ·have s:Hid (a.getD k 0=c.getD k 0):=by rw [Hid,z.o,A.o];simpa using q
       go_wp2
       go_quiet (fail)
       go_wp2
       go_roundw
       case rel=>exact ⟨k+1,by omega,by go_num,fun j hj=>by rcases (show j<k\/j=k from by omega) with h | rfl;exact G.o j h;exact s.o,below_drewN f _⟩
       case measure=>simp [intOf];omega
      ·have s:Hid (¬ a=c):=fun e=>by subst e;rw [<- z.o,<- A.o] at q;simp at q
       go_wp2
       go_quiet (fail)
       go_wp2;go_ret
       exact ⟨Aa (by simpa using s.o),below_drewN f _⟩
     ·have s:Hid (a=c):=Z3 (by rw [H.o,L.o]) (fun j hj=>G.o j (by rw [H.o] at hj;omega))
      clear l m;go_wp2;go_ret
      exact ⟨Aa (by simpa using s.o),f⟩
 ·have q:((a.length:Int) != (c.length:Int))=true:=by simp;omega
  have s:Hid (¬ a=c):=fun e=>hl (by rw [e])
  go_enter func33,ntmps33
  go_wp2;go_ret
  exact ⟨Aa (by simpa using s.o),bR⟩
theorem Pc (cs:List Cs) (c:Cs):∀ k,k<cs.length->(((((((((((((Aj cs).set (k*12) (qzI c.iss)).set (k*12+1) (qzI c.acq)).set (k*12+2) (qzI c.cur)).set (k*12+3) (qzI c.am)).set (k*12+4) (qzI c.st)).set (k*12+5) (qzI c.rsn)).set (k*12+6) (qzI c.cl)).set (k*12+7) (qzI c.bk)).set (k*12+8) (qzI c.fee)).set (k*12+9) (.bool c.cop)).set (k*12+10) (qzI c.sta)).set (k*12+11) (qzI c.due))=Aj (cs.set k c):=by
 induction cs with
 | nil=>intro k h;simp at h
 | cons g r ih =>
  intro k h
  cases k with
  | zero=>rfl
  | succ k =>
   have:=ih k (by simpa using h)
   have e:Aj (g::r)=qzI g.iss::qzI g.acq::qzI g.cur::qzI g.am::qzI g.st::qzI g.rsn::qzI g.cl::qzI g.bk::qzI g.fee::.bool g.cop::qzI g.sta::qzI g.due::Aj r:=rfl
   rw [e,show (k+1) * 12=k*12+1+1+1+1+1+1+1+1+1+1+1+1 by omega,show k*12+1+1+1+1+1+1+1+1+1+1+1+1+1=(k*12+1)+1+1+1+1+1+1+1+1+1+1+1+1 by omega,show k*12+1+1+1+1+1+1+1+1+1+1+1+1+2=(k*12+2)+1+1+1+1+1+1+1+1+1+1+1+1 by omega,show k*12+1+1+1+1+1+1+1+1+1+1+1+1+3=(k*12+3)+1+1+1+1+1+1+1+1+1+1+1+1 by omega,show k*12+1+1+1+1+1+1+1+1+1+1+1+1+4=(k*12+4)+1+1+1+1+1+1+1+1+1+1+1+1 by omega,show k*12+1+1+1+1+1+1+1+1+1+1+1+1+5=(k*12+5)+1+1+1+1+1+1+1+1+1+1+1+1 by omega,show k*12+1+1+1+1+1+1+1+1+1+1+1+1+6=(k*12+6)+1+1+1+1+1+1+1+1+1+1+1+1 by omega,show k*12+1+1+1+1+1+1+1+1+1+1+1+1+7=(k*12+7)+1+1+1+1+1+1+1+1+1+1+1+1 by omega,show k*12+1+1+1+1+1+1+1+1+1+1+1+1+8=(k*12+8)+1+1+1+1+1+1+1+1+1+1+1+1 by omega,show k*12+1+1+1+1+1+1+1+1+1+1+1+1+9=(k*12+9)+1+1+1+1+1+1+1+1+1+1+1+1 by omega,show k*12+1+1+1+1+1+1+1+1+1+1+1+1+10=(k*12+10)+1+1+1+1+1+1+1+1+1+1+1+1 by omega,show k*12+1+1+1+1+1+1+1+1+1+1+1+1+11=(k*12+11)+1+1+1+1+1+1+1+1+1+1+1+1 by omega]
   simp only [List.set_cons_succ,this]
   rfl
theorem pU:(prog.info? 61).map (fun i=>(i.zero,i.size,i.bytes))=some (some (.agg #[qzI 0,qzI 0,qzI 0,qzI 0,qzI 0,qzI 0,qzI 0,qzI 0,qzI 0,.bool false,qzI 0,qzI 0]),12,96):=by kernel_rfl
theorem kG {w:World} {base:Nat} {v:Value} {zs:List Int} (h:w.ownsRow base 3 1 v zs.length (zs.map (Value.int .i64))) :
  ∃ a cap,v=.slice a zs.length cap/\Aw w a zs:=by
 rcases h.2 with ⟨rfl,j⟩ | ⟨g,cap,i,rfl,b⟩
 ·have:zs=[]:=List.eq_nil_of_length_eq_zero j
  subst this;exact ⟨none,0,rfl,.inl rfl⟩
 ·exact ⟨_,cap,rfl,Vr h⟩
theorem Fz {w:World} {base m:Nat} {v:Value} {f:List Value} (h:w.ownsRow base 3 1 v m f):∃ a cap,v=.slice a m cap:=by
 rcases h.2 with ⟨rfl,rfl⟩ | ⟨g,cap,i,rfl,b⟩
 ·exact ⟨none,0,rfl⟩
 ·exact ⟨_,cap,rfl⟩
theorem Hq {w:World} {base n cap:Nat} {a:Option Addr} {zs:List Int} (h:w.ownsRow base 3 1 (.slice a n cap) n (zs.map (Value.int .i64))):Aw w a zs:=by
 have hl:zs.length=n:=by simpa using h.1
 subst hl;obtain ⟨d,c,k,l⟩:=kG h
 obtain ⟨rfl,_⟩:a=d/\cap=c:=by simpa using k
 exact l
theorem Ady {w:World} {base g n:Nat} {v:Value} {f:List Value} (h:w.ownsRow base 3 1 v n f) (hg:g<base):v.ownBlock=none\/v.ownBlock≠some g:=by
 right;intro e;have:=(h.lt g e).1;omega
theorem aF {w:World} {b off:Nat} {k:List Cs} (h:A0 w (some (qzA b off)) k):∀ j u,(Aj k)[j]?=some u->w.cell? (((qzA b off):Addr).add j)=some u:=by
 intro j u r
 have D:j<k.length*12:=by
  rw [<- Ge];exact (List.getElem?_eq_some_iff.1 r).1
 rcases h with rfl | ⟨S,p,G,hb,B⟩
 ·simp at D
 ·obtain ⟨rfl,rfl⟩:b=S/\off=p:=by simpa using G
  have e:(((qzA b off):Addr).add j)=(qzA b (off+j)):=by unfold Addr.add;split <;> simp_all
  obtain ⟨k0,k1,k2,k3,k4,k5,k6,k7,k8,k9,M,N⟩:=B (j / 12) (by omega)
  have d:=E6 k (j / 12) (j % 12) (by omega) (by omega)
  rw [show j / 12*12+j % 12=j by omega,r] at d
  rw [e]
  rcases (show j % 12=0\/j % 12=1\/j % 12=2\/j % 12=3\/j % 12=4\/j % 12=5\/j % 12=6\/j % 12=7\/j % 12=8\/j % 12=9\/j % 12=10\/j % 12=11 by omega) with e | e | e | e | e | e | e | e | e | e | e | e
  ·rw [e] at d
   rw [show off+j=off+j / 12*12 by omega,k0]
   exact d.symm
  ·rw [e] at d
   rw [show off+j=off+j / 12*12+1 by omega,k1]
   exact d.symm
  ·rw [e] at d
   rw [show off+j=off+j / 12*12+2 by omega,k2]
   exact d.symm
  ·rw [e] at d
   rw [show off+j=off+j / 12*12+3 by omega,k3]
   exact d.symm
  ·rw [e] at d
   rw [show off+j=off+j / 12*12+4 by omega,k4]
   exact d.symm
  ·rw [e] at d
   rw [show off+j=off+j / 12*12+5 by omega,k5]
   exact d.symm
  ·rw [e] at d
   rw [show off+j=off+j / 12*12+6 by omega,k6]
   exact d.symm
  ·rw [e] at d
   rw [show off+j=off+j / 12*12+7 by omega,k7]
   exact d.symm
  ·rw [e] at d
   rw [show off+j=off+j / 12*12+8 by omega,k8]
   exact d.symm
  ·rw [e] at d
   rw [show off+j=off+j / 12*12+9 by omega,k9]
   exact d.symm
  ·rw [e] at d
   rw [show off+j=off+j / 12*12+10 by omega,M]
   exact d.symm
  ·rw [e] at d
   rw [show off+j=off+j / 12*12+11 by omega,N]
   exact d.symm
theorem Ix (w:World) (base:Nat) (R:TypeId) (v:Value) (n:Nat) (k:List Value) (f:w.ownsRow base 61 12 v n k) (l:Option Addr) (c:Nat) (az:List Cs) (t:A0 w l az)
  (hn:n+az.length<=5000000) (hbase:base<=w.heap.size) :
  ∃ i w',(Builtin.append_ #[26,26] R #[v,.slice l az.length c]).run prog w=.ok i w'/\w'.ownsRow base 61 12 i (n+az.length) (k++Aj az)/\w.grownBy w' v.ownBlock /\
   (v≠.slice none 0 0->i≠.slice none 0 0):=by
 obtain ⟨Z,hi,I,J,L⟩:=info_parts pU
 cases l with
 | none =>
  have X:az=[]:=by
   rcases t with h | ⟨b,off,h,_⟩
   ·exact h
   ·cases h
  subst X
  refine ⟨v,w,?_,by simpa [Aj] using f,⟨rfl,rfl,rfl,nL,fun _ _ _=>rfl⟩,id⟩
  have O:=underlying26
  rcases f.2 with ⟨rfl,rfl⟩ | ⟨g,cap,cQ,rfl,U,hg,F,V,W,H⟩
  ·simp [Builtin.append_,run_underlying O,sizeOf,typeInfo,hi,Builtin.lenOf,Builtin.firstCells]
  ·simp [Builtin.append_,run_underlying O,sizeOf,typeInfo,hi,Builtin.lenOf,Builtin.firstCells,loadCells,F,storeCells]
 | some a =>
  have m:∀ j u,(Aj az)[j]?=some u->w.cell? (a.add j)=some u:=by
   rcases t with rfl | ⟨b,off,G,hb,B⟩
   ·intro j u r;simp [Aj] at r
   ·obtain rfl:a=(qzA b off):=by simpa using G
    exact aF (.inr ⟨b,off,rfl,hb,B⟩)
  obtain ⟨i,w',y,z,A,T,_⟩:=run_append_own_at (P:=prog) w base 26 R 61 Z _ 12 96 underlying26 hi I J L rfl (by decide) v n k f a az.length c (Aj az) (Ge az) m (Vx az) (by unfold maxLen;omega) (by omega) hbase
  exact ⟨i,w',y,z,A,fun hne h=>hne (T.1 h).1⟩
theorem Eh {q:Array Oper} {rest:List Oper} {o:Oper} {a:Act} {Q:Exit->Act->World->Prop} (w:World) (C:o.guard=none) (s x:Operand)
  (ho:o.op=.call { callee:=.builtin .append,args:=#[s,x],argTypes:=#[26,26] }) (base:Nat) (v:Value) (n:Nat) (k:List Value) (hs:a.eval s=v) (f:w.ownsRow base 61 12 v n k)
  (l:Option Addr) (c:Nat) (az:List Cs) (hx:a.eval x=.slice l az.length c) (t:A0 w l az) (hn:n+az.length<=5000000) (hbase:base<=w.heap.size)
  (h:∀ i w',w'.ownsRow base 61 12 i (n+az.length) (k++Aj az)->w.grownBy w' v.ownBlock->(v≠.slice none 0 0->i≠.slice none 0 0)->wpList prog q Q rest (a.put o.dst i) w'):wpList prog q Q (o::rest) a w:=by
 obtain ⟨i,w',Y,y,z,A⟩:=Ix w base o.type v n k f l c az t hn hbase;exact Lib.wpList_append_run w C s x _ _ ho _ _ hs hx i w' Y (h i w' y z A)
theorem mM (w:World):(w.alloc (.cells #[] 61)).ownsRow w.heap.size 61 12 (.slice (some ⟨w.heap.size,0,none⟩) 0 0) 0 []:=World.ownsRow_lit w #[] 0 nL (by unfold maxLen;omega) rfl
theorem Yq {w:World} {b off:Nat} {f:List Au} (h:Ar w (some (qzA b off)) f):∀ j u,(Ah f)[j]?=some u->w.cell? (((qzA b off):Addr).add j)=some u:=by
 intro j u k
 have F:j<f.length*6:=by
  rw [<- E2];exact (List.getElem?_eq_some_iff.1 k).1
 rcases h with rfl | ⟨T,p,H,hb,C⟩
 ·simp at F
 ·obtain ⟨rfl,rfl⟩:b=T/\off=p:=by simpa using H
  have e:(((qzA b off):Addr).add j)=(qzA b (off+j)):=by unfold Addr.add;split <;> simp_all
  obtain ⟨k0,k1,k2,k3,k4,k5⟩:=C (j / 6) (by omega)
  obtain ⟨f0,f1,f2,f3,f4,f5⟩:=De f (j / 6) (by omega)
  rw [e]
  rcases (show j % 6=0\/j % 6=1\/j % 6=2\/j % 6=3\/j % 6=4\/j % 6=5 by omega) with e | e | e | e | e | e
  ·rw [show j=j / 6*6 by omega,f0] at k
   rw [show off+j=off+j / 6*6 by omega,k0]
   exact k
  ·rw [show j=j / 6*6+1 by omega,f1] at k
   rw [show off+j=off+j / 6*6+1 by omega,k1]
   exact k
  ·rw [show j=j / 6*6+2 by omega,f2] at k
   rw [show off+j=off+j / 6*6+2 by omega,k2]
   exact k
  ·rw [show j=j / 6*6+3 by omega,f3] at k
   rw [show off+j=off+j / 6*6+3 by omega,k3]
   exact k
  ·rw [show j=j / 6*6+4 by omega,f4] at k
   rw [show off+j=off+j / 6*6+4 by omega,k4]
   exact k
  ·rw [show j=j / 6*6+5 by omega,f5] at k
   rw [show off+j=off+j / 6*6+5 by omega,k5]
   exact k
theorem Nt (w:World) (base:Nat) (S:TypeId) (v:Value) (n:Nat) (f:List Value) (d:w.ownsRow base 107 6 v n f) (i:Option Addr) (c:Nat) (az:List Au) (y:Ar w i az)
  (hn:n+az.length<=5000000) (hbase:base<=w.heap.size) :
  ∃ l w',(Builtin.append_ #[25,25] S #[v,.slice i az.length c]).run prog w=.ok l w'/\w'.ownsRow base 107 6 l (n+az.length) (f++Ah az)/\w.grownBy w' v.ownBlock /\
   (v≠.slice none 0 0->l≠.slice none 0 0):=by
 obtain ⟨i0,hi,J,M,N⟩:=info_parts cF
 cases i with
 | none =>
  have Y:az=[]:=by
   rcases y with h | ⟨b,off,h,_⟩
   ·exact h
   ·cases h
  subst Y
  refine ⟨v,w,?_,by simpa [Ah] using d,⟨rfl,rfl,rfl,nL,fun _ _ _=>rfl⟩,id⟩
  have R:=underlying25
  rcases d.2 with ⟨rfl,rfl⟩ | ⟨g,cap,O,rfl,V,hg,G,W,X,I⟩
  ·simp [Builtin.append_,run_underlying R,sizeOf,typeInfo,hi,Builtin.lenOf,Builtin.firstCells]
  ·simp [Builtin.append_,run_underlying R,sizeOf,typeInfo,hi,Builtin.lenOf,Builtin.firstCells,loadCells,G,storeCells]
 | some a =>
  have m:∀ j u,(Ah az)[j]?=some u->w.cell? (a.add j)=some u:=by
   rcases y with rfl | ⟨b,off,H,hb,C⟩
   ·intro j u k;simp [Ah] at k
   ·obtain rfl:a=(qzA b off):=by simpa using H
    exact Yq (.inr ⟨b,off,rfl,hb,C⟩)
  obtain ⟨l,w',z,A,B,U,_⟩:=run_append_own_at (P:=prog) w base 25 S 107 i0 _ 6 56 underlying25 hi J M N rfl (by decide) v n f d a az.length c (Ah az) (E2 az) m (aN az) (by unfold maxLen;omega) (by omega) hbase
  exact ⟨l,w',z,A,B,fun hne h=>hne (U.1 h).1⟩
theorem Bu {r:Array Oper} {rest:List Oper} {o:Oper} {a:Act} {Q:Exit->Act->World->Prop} (w:World) (D:o.guard=none) (s x:Operand)
  (ho:o.op=.call { callee:=.builtin .append,args:=#[s,x],argTypes:=#[25,25] }) (base:Nat) (v:Value) (n:Nat) (f:List Value) (hs:a.eval s=v) (d:w.ownsRow base 107 6 v n f)
  (i:Option Addr) (c:Nat) (az:List Au) (hx:a.eval x=.slice i az.length c) (y:Ar w i az) (hn:n+az.length<=5000000) (hbase:base<=w.heap.size)
  (h:∀ l w',w'.ownsRow base 107 6 l (n+az.length) (f++Ah az)->w.grownBy w' v.ownBlock->(v≠.slice none 0 0->l≠.slice none 0 0)->wpList prog r Q rest (a.put o.dst l) w'):wpList prog r Q (o::rest) a w:=by
 obtain ⟨l,w',Z,z,A,B⟩:=Nt w base o.type v n f d i c az y hn hbase;exact Lib.wpList_append_run w D s x _ _ ho _ _ hs hx l w' Z (h l w' z A B)
theorem kV (w:World):(w.alloc (.cells #[] 107)).ownsRow w.heap.size 107 6 (.slice (some ⟨w.heap.size,0,none⟩) 0 0) 0 []:=World.ownsRow_lit w #[] 0 nL (by unfold maxLen;omega) rfl
theorem dI {w:World} {base n:Nat} {v:Value} {f:List Value} (h:w.ownsRow base 107 6 v n f):∃ i cap,v=.slice i n cap:=by
 rcases h.2 with ⟨rfl,rfl⟩ | ⟨g,c,O,rfl,_⟩
 ·exact ⟨none,0,rfl⟩
 ·exact ⟨_,c,rfl⟩
theorem Oe {w:World} {base n:Nat} {v:Value} {f:List Value} (h:w.ownsRow base 107 6 v n f) (hv:v≠.slice none 0 0):∃ g c,v=.slice (some (qzA g 0)) n c:=by
 rcases h.2 with ⟨h,_⟩ | ⟨g,c,O,h,_⟩
 ·exact absurd h hv
 ·exact ⟨g,c,h⟩
def Pi (u:World) (L:List Au) (q:Bool) (e:Ending) (t:World):Prop :=
 ∃ i cap,e=.returned (.tuple #[.slice i L.length cap,.bool q])/\t.ownsRow u.heap.size 107 6 (.slice i L.length cap) L.length (Ah L)/\BW u t
def pA (u:World) (L:List Au) (e:Ending) (t:World):Prop :=
 ∃ i cap,e=.returned (.slice i L.length cap)/\t.ownsRow u.heap.size 107 6 (.slice i L.length cap) L.length (Ah L)/\BW u t
theorem eP {w:World} {a:Addr} {rs:Be} (h:Bh w (some a) rs):∀ j u,(Am rs)[j]?=some u->w.cell? (a.add j)=some u:=by
 intro j u y
 have hl:j<rs.length:=by
  rcases Nat.lt_or_ge j rs.length with N | N
  ·exact N
  ·rw [List.getElem?_eq_none (by rw [L7];exact N)] at y;cases y
 rcases h with h | ⟨b,off,q,l,r⟩
 ·rw [h] at hl;simp at hl
 ·injection q with q
  subst q;have e:=r j hl
  have H:u=.string ⟨(Al rs j).toArray⟩:=by
   rw [Hd rs j hl] at y;exact (Option.some.inj y).symm
  rw [H]
  by_cases e0:j=0
  ·subst e0;rw [Addr.add,if_pos rfl];exact e
  ·rw [Addr.add,if_neg e0];exact e
theorem Ie (w:World) (base:Nat) (ty:TypeId) (v:Value) (n:Nat) (cs:List Value) (d:w.ownsRow base 9 1 v n cs) (m:Option Addr) (c:Nat) (rs:Be) (t:Bh w m rs)
  (R:n+rs.length<=4000000) (hbase:base<=w.heap.size) :
  ∃ i w',(Builtin.append_ #[23,23] ty #[v,.slice m rs.length c]).run prog w=.ok i w'/\w'.ownsRow base 9 1 i (n+rs.length) (cs++Am rs)/\w.grownBy w' v.ownBlock:=by
 obtain ⟨i0,hi,U,V,W⟩:=info_parts S1
 cases m with
 | none =>
  have hf:rs=[]:=by
   rcases t with h | ⟨b,off,h,_⟩
   ·exact h
   ·cases h
  subst hf
  refine ⟨v,w,?_,by simpa [Am] using d,⟨rfl,rfl,rfl,nL,fun _ _ _=>rfl⟩⟩
  have H:=underlying23
  rcases d.2 with ⟨rfl,rfl⟩ | ⟨g,cap,cQ,rfl,a3,hg,S,a4,a5,T⟩
  ·simp [Builtin.append_,run_underlying H,sizeOf,typeInfo,hi,Builtin.lenOf,Builtin.firstCells]
  ·simp [Builtin.append_,run_underlying H,sizeOf,typeInfo,hi,Builtin.lenOf,Builtin.firstCells,loadCells,S,storeCells]
 | some a =>
  obtain ⟨i,w',q,l,r,_,_⟩:=run_append_own_at (P:=prog) w base 23 ty 9 i0 _ 1 16 underlying23 hi U V W rfl (by decide) v n cs d a rs.length c (Am rs) (by simp [L7]) (eP t) (Zv rs) (by unfold maxLen;omega) (by omega) hbase
  exact ⟨i,w',q,l,r⟩
theorem Kh {F:Array Oper} {rest:List Oper} {o:Oper} {a:Act} {Q:Exit->Act->World->Prop} (w:World) (O:o.guard=none) (s x:Operand)
  (ho:o.op=.call { callee:=.builtin .append,args:=#[s,x],argTypes:=#[23,23] }) (base:Nat) (v:Value) (n:Nat) (cs:List Value) (hs:a.eval s=v) (d:w.ownsRow base 9 1 v n cs)
  (m:Option Addr) (c:Nat) (rs:Be) (hx:a.eval x=.slice m rs.length c) (t:Bh w m rs) (R:n+rs.length<=4000000) (hbase:base<=w.heap.size)
  (h:∀ i w',w'.ownsRow base 9 1 i (n+rs.length) (cs++Am rs)->w.grownBy w' v.ownBlock->wpList prog F Q rest (a.put o.dst i) w') :
  wpList prog F Q (o::rest) a w:=by
 refine wpList_plain O fun K hK=>?_
 obtain ⟨i,w',hr,l,r⟩:=Ie w base o.type v n cs d m c rs t R hbase;unfold Oper.wp execOp
 simp only [ho,resolve,invoke,builtin,Sem.run_bind,Sem.run_pure,Result.andThen_ok,List.map_toArray,List.map_cons,List.map_nil,hs,hx,hr]
 exact hK _ _ (h i w' l r)
theorem yF (g:Nat) (a1 a2:Option Addr) (c1 c2:Nat) (rs f:Be) (w:World) (q:w.cell? (qzA g 0)=some (.slice a1 rs.length c1)) (l:w.cell? (qzA g 1)=some (.slice a2 f.length c2)) (t:Bh w a1 rs) (hy:Bh w a2 f) (R:rs.length+f.length<=1048577) :
  Calls prog 154 #[.slice (some (qzA g 0)) 2 2] w fun e w'=>∃ a k,e=.returned (.slice a (rs++f).length k) /\
   w'.ownsRow w.heap.size 9 1 (.slice a (rs++f).length k) (rs++f).length (Am (rs++f))/\BW w w':=by
 have Y:Hid (Bh w a1 rs):=t;have X:Hid (Bh w a2 f):=hy;clear t hy
 go_enter func154,ntmps154
 go_wp2;refine wp_loop_rounds 3 ?_;rw [rounds_succ]
 go_wp2_with (at_builtin;refine Kh _ rfl (.tmp 12) (.tmp 13) rfl w.heap.size _ 0 [] rfl (World.ownsRow_nil _ _ _ _) a1 c1 rs rfl Y.o (by omega) nL ?_;intro v2 z I Z)
 have G:BW w z:=bR.grown Z nL (fun k hk=>by cases hk)
 rw [Nat.zero_add,List.nil_append] at I;have B:Hid (z.ownsRow w.heap.size 9 1 v2 rs.length (Am rs)):=I;have r:z.cell? (qzA g 1)=some (.slice a2 f.length c2):=(G.cell (p:=(qzA g 1)) (World.block_lt_of_cell? w _ l)).trans l;have A:Hid (BW w z):=G;have D:Hid (Bh z a2 f):=X.o.below G
 have L:Hid (∀ j,v2.ownBlock=some j->w.heap.size<=j):=fun j y=>(I.lt j y).1
 have C:Hid (w.heap.size<=z.heap.size):=G.size;clear I Z Y X q l G;go_wp2;rw [rounds_succ]
 go_wp2_with (at_builtin;refine Kh _ rfl (.tmp 12) (.tmp 13) rfl w.heap.size _ rs.length (Am rs) rfl B.o a2 c2 f rfl D.o (by omega) C.o ?_;intro v3 w3 J g3)
 have q3:BW w w3:=A.o.grown g3 C.o L.o;rw [<- List.length_append,<- F6] at J;have M:Hid (w3.ownsRow w.heap.size 9 1 v3 (rs++f).length (Am (rs++f))):=J;obtain ⟨a,k,hv,-,-⟩:=Ov J;subst hv;clear J g3 D B r A;go_wp2;rw [rounds_succ];go_wp2;go_ret;exact ⟨a,k,rfl,M.o,q3⟩
theorem dQ {w:World} {a:Addr} {zs:List Int} (h:Aw w (some a) zs):∀ j u,(zs.map (Value.int .i64))[j]?=some u->w.cell? (a.add j)=some u:=by
 intro j u r
 have hl:j<zs.length:=by
  rcases Nat.lt_or_ge j zs.length with C | C
  ·exact C
  ·rw [List.getElem?_eq_none (by simpa using C)] at r;cases r
 rcases h with h | ⟨b,off,p,z,q⟩
 ·rw [h] at hl;simp at hl
 ·injection p with p
  subst p;have e:=q j hl
  have l:u=qzI (zs.getD j 0):=by
   rw [List.getElem?_map,List.getElem?_eq_getElem hl] at r
   simp at r
   rw [<- r]
   simp [List.getD_eq_getElem?_getD,hl]
  rw [l]
  by_cases e0:j=0
  ·subst e0;rw [Addr.add,if_pos rfl];exact e
  ·rw [Addr.add,if_neg e0];exact e
theorem lH (zs:List Int):∀ u ∈ zs.map (Value.int .i64),u.oneCell'=true:=by
 intro u l
 simp at l
 obtain ⟨x,_,rfl⟩:=l
 rfl
theorem Mc (w:World) (base:Nat) (R:TypeId) (v:Value) (n:Nat) (cs:List Value) (d:w.ownsRow base 3 1 v n cs) (f:Option Addr) (c:Nat) (zs:List Int) (m:Aw w f zs)
  (F:n+zs.length<=4000000) (hbase:base<=w.heap.size) :
  ∃ i w',(Builtin.append_ #[22,22] R #[v,.slice f zs.length c]).run prog w=.ok i w'/\w'.ownsRow base 3 1 i (n+zs.length) (cs++zs.map (Value.int .i64))/\w.grownBy w' v.ownBlock:=by
 obtain ⟨Z,hi,J,L,M⟩:=info_parts pQ
 cases f with
 | none =>
  have X:zs=[]:=by
   rcases m with h | ⟨b,off,h,_⟩
   ·exact h
   ·cases h
  subst X
  refine ⟨v,w,?_,by simpa using d,⟨rfl,rfl,rfl,nL,fun _ _ _=>rfl⟩⟩
  have l:=underlying22
  rcases d.2 with ⟨rfl,rfl⟩ | ⟨g,cap,cQ,rfl,T,hg,G,V,W,H⟩
  ·simp [Builtin.append_,run_underlying l,sizeOf,typeInfo,hi,Builtin.lenOf,Builtin.firstCells]
  ·simp [Builtin.append_,run_underlying l,sizeOf,typeInfo,hi,Builtin.lenOf,Builtin.firstCells,loadCells,G,storeCells]
 | some a =>
  obtain ⟨i,w',p,z,q,_,_⟩:=run_append_own_at (P:=prog) w base 22 R 3 Z _ 1 8 underlying22 hi J L M rfl (by decide) v n cs d a zs.length c (zs.map (Value.int .i64)) (by simp) (dQ m) (lH zs) (by unfold maxLen;omega) (by omega) hbase
  exact ⟨i,w',p,z,q⟩
theorem Gf {y:Array Oper} {rest:List Oper} {o:Oper} {a:Act} {Q:Exit->Act->World->Prop} (w:World) (D:o.guard=none) (s x:Operand)
  (ho:o.op=.call { callee:=.builtin .append,args:=#[s,x],argTypes:=#[22,22] }) (base:Nat) (v:Value) (n:Nat) (cs:List Value) (hs:a.eval s=v) (d:w.ownsRow base 3 1 v n cs)
  (f:Option Addr) (c:Nat) (zs:List Int) (hx:a.eval x=.slice f zs.length c) (m:Aw w f zs) (F:n+zs.length<=4000000) (hbase:base<=w.heap.size)
  (h:∀ i w',w'.ownsRow base 3 1 i (n+zs.length) (cs++zs.map (Value.int .i64))->w.grownBy w' v.ownBlock->wpList prog y Q rest (a.put o.dst i) w') :
  wpList prog y Q (o::rest) a w:=by
 refine wpList_plain D fun K hK=>?_
 obtain ⟨i,w',Y,z,q⟩:=Mc w base o.type v n cs d f c zs m F hbase;unfold Oper.wp execOp
 simp only [ho,resolve,invoke,builtin,Sem.run_bind,Sem.run_pure,Result.andThen_ok,List.map_toArray,List.map_cons,List.map_nil,hs,hx,Y]
 exact hK _ _ (h i w' z q)
theorem fC (g:Nat) (f:Option Addr) (cap:Nat) (zs:List Int) (w:World) (U:w.cell? (qzA g 0)=some (.slice f zs.length cap)) (m:Aw w f zs) (F:zs.length<=1048577) :
  Calls prog 101 #[.slice (some (qzA g 0)) 1 1] w fun e w'=>∃ a2 t,e=.returned (.slice a2 zs.length t) /\
   w'.ownsRow w.heap.size 3 1 (.slice a2 zs.length t) zs.length (zs.map (Value.int .i64))/\BW w w':=by
 have N:Hid (Aw w f zs):=m;clear m
 go_enter func101,ntmps101
 go_wp2;refine wp_loop_rounds 2 ?_;rw [rounds_succ]
 go_wp2_with (at_builtin;refine Gf _ rfl (.tmp 12) (.tmp 13) rfl w.heap.size _ 0 [] rfl (World.ownsRow_nil _ _ _ _) f cap zs rfl N.o (by omega) nL ?_;intro v2 S A O)
 have q2:BW w S:=bR.grown O nL (fun k hk=>by cases hk)
 rw [Nat.zero_add,List.nil_append] at A;obtain ⟨a2,t,I⟩:=Fz A;subst I;have B:Hid (S.ownsRow w.heap.size 3 1 (.slice a2 zs.length t) zs.length (zs.map (Value.int .i64))):=A;clear A O N U;go_wp2;rw [rounds_succ];go_wp2;go_ret;exact ⟨a2,t,rfl,B.o,q2⟩
theorem Ro (a:Int) (w:World) :
  Calls prog 216 #[qzI a] w fun e w'=>e=.returned (.bool (Cb a))/\w'=w:=by
 go_enter func216,ntmps216
 go_wp2_with fail
 refine (Dl _ _ _ _).mono ?_;rintro e l ⟨rfl,hw⟩;rw [hw];go_wp2;go_ret;exact ⟨rfl,rfl⟩
theorem Do {a:Int} {q:Bool} (h:Cb a=q) (w:World):Calls prog 216 #[qzI a] w fun e w'=>e=.returned (.bool q)/\w'=w:=by rw [<- h];exact Ro a w
theorem dT (a b c m:Int) (w:World) :
  Calls prog 265 #[.agg #[qzI a,qzI b,qzI c,qzI m]] w fun e w'=>e=.returned (.agg #[qzI b,qzI a,qzI c,qzI m])/\BW w w':=by
 go_enter func265,ntmps265
 go_wp2
 go_returns
 refine ⟨rfl,?_⟩
 go_grown
theorem Jf {c:Int} (w:World) (d:Int) (h:Dc c=d):Calls prog 217 #[qzI c] w fun e w'=>e=.returned (qzI d)/\BW w w':=by rw [<- h];exact Ga c w
theorem Nf (a b c m:Int) (w:World) :
  Calls prog 261 #[.agg #[qzI a,qzI b,qzI c,qzI m]] w fun e w'=>e=.returned (.bool (Bt (a,b,c,m)))/\BW w w':=by
 have bel:Below w.heap.size w (w.alloc (.cells #[qzI a,qzI b,qzI c,qzI m] 269)):=by go_grown
 cases h1:Cb a
 ·have f:Hid (Bt (a,b,c,m)=false):=by simp [Hid,Bt,h1]
  have g:Hid _:=h1;clear h1
  go_enter func261,ntmps261
  go_wp2_with fail
  refine (Do g.o _).mono ?_;rintro e l ⟨rfl,hw⟩;rw [hw];clear hw;go_wp2;go_ret;exact ⟨Aa f.o.symm,bel⟩
 have g:Hid _:=h1
 cases h2:Cb b
 ·have f:Hid (Bt (a,b,c,m)=false):=by simp [Hid,Bt,h2]
  have j:Hid _:=h2;clear h1 h2
  go_enter func261,ntmps261
  go_wp2_with fail
  refine (Do g.o _).mono ?_;rintro e l ⟨rfl,hw⟩;rw [hw];clear hw;go_wp2_with fail
  refine (Do j.o _).mono ?_;rintro e t ⟨rfl,hw⟩;rw [hw];clear hw;go_wp2;go_ret;exact ⟨Aa f.o.symm,bel⟩
 have j:Hid _:=h2
 by_cases h3:a=b
 ·have f:Hid (Bt (a,b,c,m)=false):=by simp [Hid,Bt,h3]
  have r:(a != b)=false:=by simpa using h3
  clear h1 h2 h3
  go_enter func261,ntmps261
  go_wp2_with fail
  refine (Do g.o _).mono ?_;rintro e l ⟨rfl,hw⟩;rw [hw];clear hw;go_wp2_with fail
  refine (Do j.o _).mono ?_;rintro e t ⟨rfl,hw⟩;rw [hw];clear hw;go_wp2;go_ret;exact ⟨Aa f.o.symm,bel⟩
 have r:(a != b)=true:=by simpa using h3
 have n:∀ q:Bool,(decide (0<=Dc c) && decide (1<=m/\m<=1000000000000))=q->Bt (a,b,c,m)=q:=by
  intro q k
  simp only [Bt,h1,h2,Bool.true_and,decide_eq_true h3]
  exact k
 obtain ⟨d,hd⟩:∃ d,Dc c=d:=⟨_,rfl⟩;have u:Hid _:=hd
 by_cases h4:0<=d
 ·have f:Hid (Bt (a,b,c,m)=Gk m 1 1000000000000):=n _ (by rw [hd,decide_eq_true h4];rfl)
  clear n hd h3 h1 h2
  go_enter func261,ntmps261
  go_wp2_with fail
  refine (Do g.o _).mono ?_;rintro e l ⟨rfl,hw⟩;rw [hw];clear hw;go_wp2_with fail
  refine (Do j.o _).mono ?_;rintro e t ⟨rfl,hw⟩;rw [hw];clear hw;go_wp2_with fail
  refine (Jf _ d u.o).mono ?_;rintro e x ⟨rfl,i⟩
  have z:=(i.cell (p:=⟨w.heap.size,3,none⟩) (by simp)).trans (show _=some (qzI m) by simp)
  have s:=bel.trans (i.mono bel.size);clear i bel;go_wp2_with fail
  refine (Dl _ _ _ _).mono ?_;rintro e y ⟨rfl,hw⟩;rw [hw];clear hw;obtain ⟨q,k⟩:∃ q,Gk m 1 1000000000000=q:=⟨_,rfl⟩;rw [k];have v:Hid _:=k;clear k;go_wp2;go_ret
  exact ⟨Aa (by rw [f.o,v.o]),s⟩
 ·have f:Hid (Bt (a,b,c,m)=false):=n _ (by rw [hd,decide_eq_false h4];rfl)
  clear n hd h3 h1 h2
  go_enter func261,ntmps261
  go_wp2_with fail
  refine (Do g.o _).mono ?_;rintro e l ⟨rfl,hw⟩;rw [hw];clear hw;go_wp2_with fail
  refine (Do j.o _).mono ?_;rintro e t ⟨rfl,hw⟩;rw [hw];clear hw;go_wp2_with fail
  refine (Jf _ d u.o).mono ?_;rintro e x ⟨rfl,i⟩;have s:=bel.trans (i.mono bel.size);clear i bel;go_wp2;go_ret;exact ⟨Aa f.o.symm,s⟩
def B0 (l:List UInt8):Nat->Be×Nat
 | 0=>([],0)
 | i+1=>if l.getD i 0=32 then ((B0 l i).1++[(l.drop (B0 l i).2).take (i - (B0 l i).2)],i+1) else B0 l i
def Ab (l:List UInt8):Be:=(B0 l l.length).1++[l.drop (B0 l l.length).2]
theorem Mo (l:List UInt8):∀ i,(B0 l i).2<=i/\(B0 l i).1.length<=i
 | 0=>⟨nL,nL⟩
 | i+1=>by
  have:=Mo l i
  unfold B0
  split
  ·refine ⟨nL,?_⟩
   simp;omega
  ·omega
theorem Kw {l:List UInt8} {i:Nat} (h:l.getD i 0=32):B0 l (i+1)=((B0 l i).1++[(l.drop (B0 l i).2).take (i - (B0 l i).2)],i+1):=by rw [B0,if_pos h]
theorem J7 {l:List UInt8} {i:Nat} (h:l.getD i 0≠32):B0 l (i+1)=B0 l i:=by rw [B0,if_neg h]
theorem Fy (l:List UInt8):1<=(Ab l).length/\(Ab l).length<=l.length+1:=by
 have:=Mo l l.length
 rw [Ab,List.length_append];simp;omega
theorem Jw (l:List UInt8):∀ i,∀ r ∈ (B0 l i).1,r.length<=l.length
 | 0=>fun r h=>by cases h
 | i+1=>fun r h=>by
  unfold B0 at h
  split at h
  ·rcases List.mem_append.1 h with h | h
   ·exact Jw l i r h
   ·rw [List.mem_singleton.1 h];simp;omega
  ·exact Jw l i r h
theorem Ee (l:List UInt8):∀ r ∈ Ab l,r.length<=l.length:=by
 intro r h
 rcases List.mem_append.1 h with h | h
 ·exact Jw l _ r h
 ·rw [List.mem_singleton.1 h];simp
theorem I8 (l:List UInt8) (w:World) (hl:l.length<=1048576) :
  Calls prog 139 #[.string ⟨l.toArray⟩] w fun e w'=>∃ a k,e=.returned (.slice a (Ab l).length k)/\w'.ownsRow w.heap.size 9 1 (.slice a (Ab l).length k) (Ab l).length (Am (Ab l))/\BW w w':=by
 obtain ⟨i0,hi,L,M,N⟩:=info_parts S1
 have B:Hid ((w.alloc (.cells #[] 9)).ownsRow w.heap.size 9 1 (.slice (some ⟨w.heap.size,0,none⟩) 0 0) 0 (Am [])):=by
  have h:=World.ownsRow_lit (base:=w.heap.size) (e:=9) (size:=1) w #[] 0 nL (by unfold maxLen;omega) rfl
  rw [Hid];simpa [Am] using h
 have y:Hid (Below w.heap.size w (w.alloc (.cells #[] 9))):=bR.alloc nL _;have n:Hid (Ab l=(B0 l l.length).1++[l.drop (B0 l l.length).2]):=rfl;obtain ⟨WW,H⟩:∃ x,Ab l=x:=⟨_,rfl⟩;rw [H] at n ⊢;clear H
 go_enter func139,ntmps139
 go_wp2
 go_loopw [3,4,5] (fun s f i wr=>∃ (v:Value) (k:Nat),v=s/\k<=l.length/\i=qzI (k:Int)/\f=qzI ((B0 l k).2:Int)/\wr.ownsRow w.heap.size 9 1 v (B0 l k).1.length (Am (B0 l k).1)/\BW w wr) (fun _ _ i _=>l.length - (intOf i).toNat)
 case atStart=>exact ⟨_,0,rfl,Nat.zero_le _,rfl,rfl,B.o,y.o⟩
 case round =>
  obtain ⟨v,k,Y,hk,rfl,rfl,b,p⟩:=hrel;subst Y;have z:Hid (BW w wr):=p;have m:Hid (w.heap.size<=wr.heap.size):=p.size
  have C:Hid (∀ j,v.ownBlock=some j->w.heap.size<=j):=fun j hj=>(b.lt j hj).1
  have q:=Mo l k
  by_cases hlt:k<l.length
  ·have X:(k:Int)<(l.length:Int):=by omega
   have F:Hid _:=@Kw l k;have T:Hid _:=@J7 l k
   obtain ⟨c,hc⟩:∃ c,(⟨l.toArray⟩:ByteArray)[k]'(by rw [Fo];exact hlt)=c:=⟨_,rfl⟩
   rw [(Je l k hlt).trans hc] at F T;obtain ⟨R,t⟩:∃ x,(B0 l k).1=x:=⟨_,rfl⟩;obtain ⟨f,u⟩:∃ x,(B0 l k).2=x:=⟨_,rfl⟩;rw [t,u] at F;rw [t] at b q;rw [u] at q ⊢;have U:Hid (wr.ownsRow w.heap.size 9 1 v R.length (Am R)):=b;have D:Hid ((B0 l k).1=R/\(B0 l k).2=f):=⟨t,u⟩;clear t u b p B y
   by_cases h32:c=32
   ·subst h32
    have J:(⟨l.toArray⟩:ByteArray).extract f k=⟨((l.drop f).take (k - f)).toArray⟩:=Qo l f k;have d:Hid (B0 l (k+1)=(R++[(l.drop f).take (k - f)],k+1)):=F.o rfl;obtain ⟨r,I⟩:∃ x,(l.drop f).take (k - f)=x:=⟨_,rfl⟩;rw [I] at J d
    have V:(f:Int)<=(k:Int):=by omega
    clear F T I
    go_wp2_with (at_builtin;refine wpList_append_own _ rfl (.tmp 17) (.tmp 22) 23 rfl w.heap.size 9 i0 (.string ⟨#[]⟩) 1 16 underlying23 hi L M N rfl (by decide) _ _ _ rfl (U.o.alloc _) ⟨wr.heap.size,0,none⟩ 1 1 [.string ⟨r.toArray⟩] rfl rfl (World.news_of_block (heap_alloc_new wr _)) (Rf _) (by unfold maxLen;omega) (by omega) (by simp;have:=m.o;omega) ?_;intro v5 S O G _)
    have Z:BW w S:=(z.o.alloc (by have:=m.o;omega) _).grown G (by have:=m.o;simp;omega) C.o
    have g:Hid (S.ownsRow w.heap.size 9 1 v5 (B0 l (k+1)).1.length (Am (B0 l (k+1)).1)):=by
     rw [Hid,d.o];simp only [List.length_append,F6];exact O
    have A:Hid ((B0 l (k+1)).2=k+1):=by rw [Hid,d.o]
    clear O G J;go_wp2
    go_roundw
    case rel=>exact ⟨_,k+1,rfl,by omega,by go_num,by rw [A.o];go_num,g.o,Z⟩
    case measure=>simp [intOf];omega
   ·have d:Hid (B0 l (k+1)=B0 l k):=T.o h32
    have a3:((c.toNat:Int) == 32)=false:=by
     simp only [beq_eq_false_iff_ne,ne_eq]
     intro e;apply h32;apply UInt8.toNat_inj.1
     show c.toNat=32
     omega
    have g:Hid (wr.ownsRow w.heap.size 9 1 v (B0 l (k+1)).1.length (Am (B0 l (k+1)).1)):=by
     rw [Hid,d.o,D.o.1];exact U.o
    have A:Hid ((B0 l (k+1)).2=f):=by rw [Hid,d.o,D.o.2]
    clear F T;go_wp2
    go_roundw
    case rel=>exact ⟨_,k+1,rfl,by omega,by go_num,by rw [A.o],g.o,z.o⟩
    case measure=>simp [intOf];omega
  ·have W:k=l.length:=by omega
   subst W
   have X:¬ (l.length:Int)<(l.length:Int):=by omega
   obtain ⟨R,t⟩:∃ x,(B0 l l.length).1=x:=⟨_,rfl⟩;obtain ⟨f,u⟩:∃ x,(B0 l l.length).2=x:=⟨_,rfl⟩;rw [t,u] at n;rw [t] at b q;rw [u] at q ⊢;have U:Hid (wr.ownsRow w.heap.size 9 1 v R.length (Am R)):=b
   have J:(⟨l.toArray⟩:ByteArray).extract f l.length=⟨(l.drop f).toArray⟩:=by rw [Qo,List.take_of_length_le (by simp)]
   obtain ⟨r,I⟩:∃ x,l.drop f=x:=⟨_,rfl⟩;rw [I] at J n
   have V:(f:Int)<=(l.length:Int):=by omega
   clear t u b p B y I
   go_wp2_with (at_builtin;refine wpList_append_own _ rfl (.tmp 26) (.tmp 30) 23 rfl w.heap.size 9 i0 (.string ⟨#[]⟩) 1 16 underlying23 hi L M N rfl (by decide) _ _ _ rfl (U.o.alloc _) ⟨wr.heap.size,0,none⟩ 1 1 [.string ⟨r.toArray⟩] rfl rfl (World.news_of_block (heap_alloc_new wr _)) (Rf _) (by unfold maxLen;omega) (by omega) (by simp;have:=m.o;omega) ?_;intro v5 S O G _)
   have Z:BW w S:=(z.o.alloc (by have:=m.o;omega) _).grown G (by have:=m.o;simp;omega) C.o
   have g:Hid (S.ownsRow w.heap.size 9 1 v5 WW.length (Am WW)):=by
    rw [Hid,n.o,List.length_append,F6];exact O
   obtain ⟨a,cp,hv,-,-⟩:=Ov g.o;subst hv;clear O G J;go_wp2;go_ret;exact ⟨a,cp,rfl,g.o,Z⟩
def Ae (s:List UInt8):Int:=if s=[]\/15<s.length then -1 else if Dr s<0\/Lib.decDigits (Dr s).toNat≠s then -1 else Dr s
theorem rK:Ae [] = -1:=by simp [Ae]
theorem jY {s:List UInt8} (h:15<s.length):Ae s = -1:=if_pos (.inr h)
theorem qC {s:List UInt8} (z:s≠[]) (f:¬ 15<s.length) (h:Dr s<0):Ae s = -1:=by rw [Ae,if_neg (by rintro (h | h);exact z h;exact f h),if_pos (.inl h)]
theorem rC {s:List UInt8} (z:s≠[]) (f:¬ 15<s.length) (h:Lib.decDigits (Dr s).toNat≠s):Ae s = -1:=by rw [Ae,if_neg (by rintro (h | h);exact z h;exact f h),if_pos (.inr h)]
theorem kY {s:List UInt8} (z:s≠[]) (f:¬ 15<s.length) (C:¬ Dr s<0) (h:Lib.decDigits (Dr s).toNat=s):Ae s=Dr s:=by rw [Ae,if_neg (by rintro (h | h);exact z h;exact f h),if_neg (by rintro (h' | h');exact C h';exact h' h)]
theorem Ib (s:List UInt8):-1<=Ae s/\Ae s<1000000000000000000:=by
 have:=Qj s
 unfold Ae
 split
 ·omega
 ·split
  ·omega
  ·omega
theorem Ha (s:List UInt8) (w:World) (hl:s.length<=1048576) :
  Calls prog 140 #[.string ⟨s.toArray⟩] w fun e w'=>e=.returned (qzI (Ae s))/\w'=w:=by
 by_cases z:s=[]
 ·subst z
  have c:Hid _:=rK
  go_enter func140,ntmps140
  go_wp2;go_ret;exact ⟨Af c.o.symm,rfl⟩
 have c8:s.isEmpty=false:=by cases s with
  | nil=>exact absurd rfl z
  | cons a t=>rfl
 by_cases f:15<s.length
 ·have c:Hid _:=jY f
  have a9:(15:Int)<(s.length:Int):=by omega
  go_enter func140,ntmps140
  go_wp2;go_ret;exact ⟨Af c.o.symm,rfl⟩
 have a9:¬ (15:Int)<(s.length:Int):=by omega
 have V:Hid (∀ u,Calls prog 177 #[.string ⟨s.toArray⟩] u fun e w'=>e=.returned (qzI (Dr s))/\w'=u):=fun u=>Tg.sNumOf_any s u (by omega)
 have O:=Qj s
 by_cases C:Dr s<0
 ·have c:Hid _:=qC z f C
  obtain ⟨n,hn⟩:∃ n,Dr s=n:=⟨_,rfl⟩;rw [hn] at V C O;clear hn f
  go_enter func140,ntmps140
  go_wp2_with (go_at_call 177;refine (V.o _).mono ?_;rintro e w' ⟨rfl,rfl⟩)
  go_ret;exact ⟨Af c.o.symm,rfl⟩
 obtain ⟨m,hm⟩:=Int.eq_ofNat_of_zero_le (show 0<=Dr s by omega)
 have U:Hid (∀ u,Calls prog 72 #[qzI (m:Int)] u fun e w'=>e=.returned (.string ⟨(Lib.decDigits m).toArray⟩)/\w'=u):=fun u=>Tg.dec_up m u (by omega)
 by_cases J:Lib.decDigits m=s
 ·have c:Hid (Ae s=(m:Int)):=by rw [Hid,kY z f C (by rw [hm];exact J),hm]
  rw [hm] at V C O;rw [J] at U;clear f J
  have b1:¬ (m:Int)<0:=by omega
  go_enter func140,ntmps140
  go_wp2_with (first | (go_at_call 177;refine (V.o _).mono ?_;rintro e w' ⟨rfl,rfl⟩) | (go_at_call 72;refine (U.o _).mono ?_;rintro e w' ⟨rfl,rfl⟩))
  go_ret;exact ⟨Af c.o.symm,rfl⟩
 ·have c:Hid (Ae s = -1):=rC z f (by rw [hm];exact J)
  rw [hm] at V C O;clear f;obtain ⟨D,hD⟩:∃ D,Lib.decDigits m=D:=⟨_,rfl⟩;rw [hD] at U J
  have b0:(D == s)=false:=by simpa using J
  clear hD
  have b1:¬ (m:Int)<0:=by omega
  go_enter func140,ntmps140
  go_wp2_with (first | (go_at_call 177;refine (V.o _).mono ?_;rintro e w' ⟨rfl,rfl⟩) | (go_at_call 72;refine (U.o _).mono ?_;rintro e w' ⟨rfl,rfl⟩))
  go_ret;exact ⟨Af c.o.symm,rfl⟩
def Ap (rs:Be):Bool:=rs.all fun r=>decide (0<=Ae r)
def A7 (rs:Be):List Int:=if Ap rs=true then rs.map Ae else []
theorem S0 {rs:Be} {k:Nat} (h:k<rs.length) (hn:Ae (Al rs k)<0):Ap rs=false:=by
 cases e:Ap rs
 ·rfl
 ·have f:=List.all_eq_true.1 e (Al rs k) (F7 h)
  have C:0<=Ae (Al rs k):=by simpa using f
  omega
theorem Qe {rs:Be} (h:∀ k,k<rs.length->0<=Ae (Al rs k)):Ap rs=true:=by
 refine List.all_eq_true.2 fun r T=>?_
 obtain ⟨k,R,rfl⟩:=List.getElem_of_mem T
 have:=h k R
 simpa [Al,List.getD_eq_getElem?_getD,R] using this
theorem Tm (rs:Be) (k:Nat) (h:k<rs.length):(rs.take (k+1)).map Ae=(rs.take k).map Ae++[Ae (Al rs k)]:=by
 have e:Al rs k=rs[k]:=by simp [Al,List.getD_eq_getElem?_getD,h]
 rw [List.take_succ_eq_append_getElem h,List.map_append,e];rfl
theorem mG:(prog.info? 3).map (fun i=>(i.zero,i.size,i.bytes))=some (some (qzI 0),1,8):=by kernel_rfl
theorem cJ (x:Int):∀ u ∈ [Value.int .i64 x],u.oneCell'=true:=by
 intro u hu
 rw [List.mem_singleton.1 hu];rfl
theorem Nw (ao:Option Addr) (cap:Nat) (rs:Be) (w:World) (hz:Bh w ao rs) (hn:rs.length<=1048576) (hd:∀ r ∈ rs,r.length<=1048576) :
  Calls prog 142 #[.slice ao rs.length cap] w fun e w'=>∃ a k,e=.returned (.tuple #[.slice a (A7 rs).length k,.bool (Ap rs)])/\w'.ownsRow w.heap.size 3 1 (.slice a (A7 rs).length k) (A7 rs).length ((A7 rs).map (Value.int .i64))/\BW w w':=by
 obtain ⟨i0,hi,b6,b7,b8⟩:=info_parts mG
 have a3:Hid ((w.alloc (.cells #[] 3)).ownsRow w.heap.size 3 1 (.slice (some ⟨w.heap.size,0,none⟩) 0 0) 0 ((([]:Be).map Ae).map (Value.int .i64))):=by
  have h:=World.ownsRow_lit (base:=w.heap.size) (e:=3) (size:=1) w #[] 0 nL (by unfold maxLen;omega) rfl
  rw [Hid];simpa using h
 have Y:Hid (Below w.heap.size w (w.alloc (.cells #[] 3))):=bR.alloc nL _;have HX:Hid (Bh w ao rs):=hz
 have U:Hid (∀ k,k<rs.length->(Al rs k).length<=1048576):=fun k R=>hd _ (F7 R)
 clear hz hd
 go_enter func142,ntmps142
 go_wp2
 go_loopw [4,5] (fun s i wr=>∃ (v:Value) (k:Nat),v=s/\k<=rs.length/\i=qzI (k:Int)/\(∀ j,j<k->0<=Ae (Al rs j))/\wr.ownsRow w.heap.size 3 1 v ((rs.take k).map Ae).length (((rs.take k).map Ae).map (Value.int .i64))/\BW w wr) (fun _ i _=>rs.length - (intOf i).toNat)
 case atStart=>exact ⟨_,0,rfl,Nat.zero_le _,rfl,fun j W=>absurd W (Nat.not_lt_zero _),a3.o,Y.o⟩
 case round =>
  obtain ⟨v,k,b5,R,rfl,A,b,d⟩:=hrel;subst b5;have g:Hid (BW w wr):=d;have I:Hid (∀ j,j<k->0<=Ae (Al rs j)):=A;have y:Hid (w.heap.size<=wr.heap.size):=d.size
  have a7:Hid (∀ j,v.ownBlock=some j->w.heap.size<=j):=fun j W=>(b.lt j W).1
  have a5:((rs.take k).map Ae).length<=1048576:=by simp;omega
  by_cases hlt:k<rs.length
  ·have a4:(k:Int)<(rs.length:Int):=by omega
   obtain ⟨gb,off,rfl,b9,B⟩:∃ gb off,ao=some (qzA gb off)/\gb<wr.heap.size/\wr.cell? (qzA gb (off+k))=some (.string ⟨(Al rs k).toArray⟩):=by
    rcases HX.o.below d with h | ⟨gb,off,f,C,J⟩
    ·rw [h] at hlt;simp at hlt
    ·exact ⟨gb,off,f,C,J k hlt⟩
   have N:Hid _:=Tm rs k hlt;have a6:=U.o k hlt;have b3:=Ib (Al rs k);have Z:Hid _:=@S0 rs k hlt
   have G:Hid (∀ u,Calls prog 140 #[.string ⟨(Al rs k).toArray⟩] u fun e w'=>e=.returned (qzI (Ae (Al rs k)))/\w'=u):=fun u=>Ha _ u a6
   have H:Hid (0<=Ae (Al rs k)->∀ j,j<k+1->0<=Ae (Al rs j)):=fun h j W=>by
    rcases (show j<k\/j=k by omega) with W | rfl
    ·exact I.o j W
    ·exact h
   obtain ⟨L,hL⟩:∃ L,(rs.take k).map Ae=L:=⟨_,rfl⟩;rw [hL] at N b a5;obtain ⟨x,hx⟩:∃ x,Ae (Al rs k)=x:=⟨_,rfl⟩;rw [hx] at N G b3 Z H;obtain ⟨r,T⟩:∃ r,Al rs k=r:=⟨_,rfl⟩;rw [T] at B G a6;have HO:Hid (wr.ownsRow w.heap.size 3 1 v L.length (L.map (Value.int .i64))):=b;clear hL hx T b d A a3 Y
   by_cases hxn:x<0
   ·have c:Hid (Ap rs=false):=Z.o hxn
    have F:Hid (A7 rs=[]):=if_neg (by rw [c.o];decide)
    go_wp2_with (go_at_call 140;refine (G.o _).mono ?_;rintro e w' ⟨rfl,p⟩;replace p:=p.symm;subst p)
    go_ret2;rw [c.o,F.o]
    exact ⟨_,_,rfl,by simpa using World.ownsRow_lit (base:=w.heap.size) (e:=3) (size:=1) wr #[] 0 y.o (by unfold maxLen;omega) rfl,g.o.alloc y.o _⟩
   ·go_wp2_with (first
      | (go_at_call 140;refine (G.o _).mono ?_;rintro e w' ⟨rfl,p⟩;replace p:=p.symm;subst p)
      | (at_builtin;refine wpList_append_own _ rfl (.tmp 22) (.tmp 24) 22 rfl w.heap.size 3 i0 (.int .i64 0) 1 8 underlying22 hi b6 b7 b8 rfl (by decide) _ _ _ rfl (HO.o.alloc _) ⟨wr.heap.size,0,none⟩ 1 1 [.int .i64 x] rfl rfl (World.news_of_block (heap_alloc_new wr _)) (cJ _) (by unfold maxLen;omega) (by omega) (by simp;have:=y.o;omega) ?_;intro v5 w5 o5 g5 _))
    have q5:BW w w5:=(g.o.alloc (by have:=y.o;omega) _).grown g5 (by have:=y.o;simp;omega) a7.o
    have a8:Hid (w5.ownsRow w.heap.size 3 1 v5 ((rs.take (k+1)).map Ae).length (((rs.take (k+1)).map Ae).map (Value.int .i64))):=by
     rw [Hid,N.o,List.length_append,List.map_append];exact o5
    clear o5 g5 B;go_wp2
    go_roundw
    case rel=>exact ⟨_,k+1,rfl,by omega,by go_num,H.o (by omega),a8.o,q5⟩
    case measure=>simp [intOf];omega
  ·have S:k=rs.length:=by omega
   subst S
   have a4:¬ (rs.length:Int)<(rs.length:Int):=by omega
   have c:Hid (Ap rs=true):=Qe I.o;have F:Hid (A7 rs=rs.map Ae):=if_pos c.o;rw [List.take_length] at b;obtain ⟨L,hL⟩:∃ L,rs.map Ae=L:=⟨_,rfl⟩;rw [hL] at b F;clear hL a5;obtain ⟨va,vk,b4⟩:=Fz b;subst b4;have HO:Hid _:=b;clear d b A;go_wp2;go_ret2;rw [c.o,F.o];exact ⟨va,vk,rfl,HO.o,g.o⟩
def Dm:Be:=[[97,115,107],[103,105,118,101],[99,104,97,114,103,101],[97,110,115,119,101,114],[115,101,99,111,110,100],[97,99,99,101,112,116],[114,101,102,117,115,101],[114,117,108,101],[101,120,112,105,114,101],[99,108,111,115,101]]
def Dh (s:List UInt8):Be->Nat->Int
 | [],_=>-1
 | r::t,k=>if r=s then (k:Int) else Dh s t (k+1)
def Bz (s:List UInt8):Int:=Dh s Dm 0
theorem Sz (s:List UInt8) (rs:Be) (k:Nat) (h:k<rs.length):Dh s (rs.drop k) k=if Al rs k=s then (k:Int) else Dh s (rs.drop (k+1)) (k+1):=by
 have e:Al rs k=rs[k]:=by simp [Al,List.getD_eq_getElem?_getD,h]
 rw [List.drop_eq_getElem_cons h,e];rfl
theorem Ol (s:List UInt8):∀ (rs:Be) (k:Nat),-1<=Dh s rs k/\Dh s rs k<(k+rs.length:Nat)
 | [],k=>by simp [Dh];omega
 | r::t,k=>by
  have:=Ol s t (k+1)
  unfold Dh
  split
  ·simp;omega
  ·simp at this ⊢;omega
theorem lS (s:List UInt8):-1<=Bz s/\Bz s<10:=Ol s Dm 0
theorem dL (w:World) :
  Calls prog 135 #[] w fun e w'=>e=.returned (.slice (some ⟨w.heap.size,0,none⟩) 10 10)/\(∀ k,k<10->w'.cell? ⟨w.heap.size,k,none⟩=some (.string ⟨(Al Dm k).toArray⟩))/\BW w w':=by
 go_enter func135,ntmps135
 go_wp2;go_ret
 refine ⟨rfl,fun k R=>?_,bR.alloc nL _⟩
 rcases (show k=0\/k=1\/k=2\/k=3\/k=4\/k=5\/k=6\/k=7\/k=8\/k=9 by omega) with rfl | rfl | rfl | rfl | rfl | rfl | rfl | rfl | rfl | rfl <;> simp [Al,Dm]
theorem Tl (s:List UInt8) (w:World) (hl:s.length<=1048576) :
  Calls prog 145 #[.string ⟨s.toArray⟩] w fun e w'=>e=.returned (qzI (Bz s))/\BW w w':=by
 have HK:Hid (Bz s=Dh s (Dm.drop 0) 0):=rfl
 go_enter func145,ntmps145
 go_wp2
 go_loopw [3] (fun i wr=>∃ (k:Nat),k<=10/\i=qzI (k:Int)/\Bz s=Dh s (Dm.drop k) k/\BW w wr) (fun i _=>10 - (intOf i).toNat)
 case atStart=>exact ⟨0,Nat.zero_le _,rfl,HK.o,bR⟩
 case round =>
  obtain ⟨k,R,rfl,q,d⟩:=hrel;have g:Hid (BW w wr):=d
  by_cases hlt:k<10
  ·have a4:(k:Int)<10:=by omega
   have l:=Sz s Dm k hlt
   have X:Hid (Calls prog 135 #[] wr fun e w'=>e=.returned (.slice (some ⟨wr.heap.size,0,none⟩) 10 10)/\w'.cell? ⟨wr.heap.size,k,none⟩=some (.string ⟨(Al Dm k).toArray⟩)/\BW wr w'):=(dL wr).mono fun e w' h=>⟨h.1,h.2.1 k hlt,h.2.2⟩
   obtain ⟨r,T⟩:∃ r,Al Dm k=r:=⟨_,rfl⟩;rw [T] at l X;clear T d HK
   by_cases hrs:r=s
   ·subst hrs
    rw [if_pos rfl] at l;have c:Hid (Bz r=(k:Int)):=q.trans l;clear l q;go_wp2_with fail
    refine X.o.mono ?_;rintro e w2 ⟨rfl,c2,b2⟩;have M:Hid (BW w w2):=next g.o b2;clear b2 X;go_wp2;go_ret;exact ⟨Af c.o.symm,M.o⟩
   ·rw [if_neg hrs] at l
    have c:Hid (Bz s=Dh s (Dm.drop (k+1)) (k+1)):=q.trans l
    have b0:(r == s)=false:=by simpa using hrs
    clear l q;go_wp2_with fail
    refine X.o.mono ?_;rintro e w2 ⟨rfl,c2,b2⟩;have M:Hid (BW w w2):=next g.o b2;clear b2 X;go_wp2
    go_roundw
    case rel=>exact ⟨k+1,by omega,by go_num,c.o,M.o⟩
    case measure=>simp [intOf];omega
  ·have S:k=10:=by omega
   subst S;have c:Hid (Bz s = -1):=q;clear d q;go_wp2;go_ret;exact ⟨Af c.o.symm,g.o⟩
namespace Kb
open Go.RowKit Go.Conc.Locks Go.Proofs.Tryz
abbrev muL:MuLink:={ lock:=113,unlock:=114,ilock:=156,iunlock:=157,lockSlow:=195,unlockSlow:=198,disable:=191,enable:=193,acquire:=194,relMerge:=196,cas32:=192,add32:=197,tMutex:=141,tIMutex:=139,tPMutex:=192,tPIMutex:=236,tPI32:=238,tUP:=203,tNoCopy:=136,tU32:=137 }
theorem muH:MuLib prog muL:=⟨func113,func114,func156,func157,func191,func193,func194,func196,func192,func197,underlying139,runUnderlying139,sizeOf139,isAgg139,zeroValue139,underlying141,runUnderlying141,sizeOf141,isAgg141,zeroValue141,underlying192,runUnderlying192,sizeOf192,isAgg192,zeroValue192,underlying236,runUnderlying236,sizeOf236,isAgg236,zeroValue236,underlying238,runUnderlying238,sizeOf238,isAgg238,zeroValue238,underlying203,runUnderlying203,sizeOf203,isAgg203,zeroValue203,underlying136,runUnderlying136,sizeOf136,isAgg136,zeroValue136,underlying21,runUnderlying21,sizeOf21,isAgg21,zeroValue21,by kernel_rfl⟩
end Kb
theorem Pp (v:Option Addr) (c:Nat) (zs:List Int) (w:World) (J:Aw w v zs) (T:zs.length<=1099511627776) :
  Calls prog 100 #[.slice v zs.length c] w fun e w'=>e=.returned (.bool (Ct zs))/\w'=w:=by
 by_cases hbig:400<zs.length
 ·have q:Hid _:=cP hbig
  have R:(400:Int)<(zs.length:Int):=by omega
  clear hbig
  go_enter func100,ntmps100
  go_wp2;go_ret;exact ⟨Aa q.o.symm,rfl⟩
 ·have R:¬ (400:Int)<(zs.length:Int):=by omega
  have O:zs.length<=400:=by omega
  clear hbig
  rcases J with rfl | ⟨b,off,rfl,hb,a⟩
  ·go_enter func100,ntmps100
   go_wp2;refine wp_loop_rounds 1 ?_;rw [rounds_succ];go_wp2;go_ret;exact ⟨rfl,rfl⟩
  ·go_enter func100,ntmps100
   go_wp2
   go_loop [3,5,11] (fun l _ i=>∃ (k:Nat) (p:Int),k<=zs.length/\i=qzI k/\l=qzI p/\Er (-1) zs=Er p (zs.drop k)) (fun _ _ i=>zs.length - (intOf i).toNat)
   case atStart=>exact ⟨0,-1,Nat.zero_le _,rfl,rfl,rfl⟩
   case round =>
    obtain ⟨k,p,D,rfl,rfl,s⟩:=hrel
    by_cases hlt:k<zs.length
    ·have e1:=a k hlt
     have hs:=Wj zs k p hlt;obtain ⟨x,g⟩:∃ x,zs.getD k 0=x:=⟨_,rfl⟩;rw [g] at e1 hs;have u:Hid (Er (-1) zs=(decide (p<x/\0<=x/\x<=80000) && Er x (zs.drop (k+1)))):=s.trans hs
     have t:(k:Int)<(zs.length:Int):=by omega
     clear a g s hs
     by_cases hp:p<x
     ·cases hd:Dn x
      ·have q:Hid (Ct zs=false):=Mg (by rw [u.o,decide_eq_false (fun hh=>by rw [Nq hh.2.1 hh.2.2] at hd;cases hd)];rfl)
       go_wp2_with (go_at_call 99;refine (Bm _ _).mono ?_;rintro e w' ⟨rfl,rfl⟩)
       go_ret;exact ⟨Aa q.o.symm,rfl⟩
      ·have m:=Ei hd
       have C:Hid (Er (-1) zs=Er x (zs.drop (k+1))):=by rw [Hid,u.o,decide_eq_true ⟨hp,m.1,m.2⟩];rfl
       go_wp2_with (go_at_call 99;refine (Bm _ _).mono ?_;rintro e w' ⟨rfl,rfl⟩)
       go_round
       case rel=>exact ⟨k+1,x,by omega,by go_num,rfl,C.o⟩
       case measure=>simp [intOf];omega
     ·have S:x<=p:=by omega
      have q:Hid (Ct zs=false):=Mg (by rw [u.o,decide_eq_false (fun hh=>hp hh.1)];rfl)
      go_wp2_with fail
      go_ret;exact ⟨Aa q.o.symm,rfl⟩
    ·have N:Hid (Ct zs=true):=cG O (by rw [s,List.drop_of_length_le (by omega)];rfl)
     have t:¬ (k:Int)<(zs.length:Int):=by omega
     clear a s;go_wp2;go_ret;exact ⟨Aa N.o.symm,rfl⟩
def Ng (zs:List Int) (k:Nat):Int:=if k=0 then -1 else zs.getD (k - 1) 0
theorem Rk (v:Option Addr) (c:Nat) (zs:List Int) (w:World) (J:Aw w v zs) (T:zs.length<=1099511627776) :
  Calls prog 103 #[.slice v zs.length c] w fun e w'=>e=.returned (.bool (Ct zs))/\BW w w':=by
 rcases J with rfl | ⟨b,off,rfl,hb,a⟩
 ·go_enter func103,ntmps103
  go_wp2;refine wp_loop_rounds 1 ?_;rw [rounds_succ];go_wp2;go_ret;exact ⟨rfl,bR⟩
 ·go_enter func103,ntmps103
  go_wp2
  go_loopw [3] (fun i wr=>∃ (k:Nat),k<=zs.length/\i=qzI k/\Er (-1) zs=Er (Ng zs k) (zs.drop k)/\BW w wr) (fun i _=>zs.length - (intOf i).toNat)
  case atStart=>exact ⟨0,Nat.zero_le _,rfl,rfl,bR⟩
  case round =>
   obtain ⟨k,D,rfl,s,n⟩:=hrel
   by_cases hlt:k<zs.length
   ·have e1:wr.cell? (qzA b (off+k))=some (qzI (zs.getD k 0)):=(n.cell (p:=(qzA b (off+k))) hb).trans (a k hlt)
    have hs:=Wj zs k (Ng zs k) hlt
    have f:Ng zs (k+1)=zs.getD k 0:=by simp [Ng]
    have t:(k:Int)<(zs.length:Int):=by omega
    by_cases hk0:k=0
    ·subst hk0
     obtain ⟨x,g⟩:∃ x,zs.getD 0 0=x:=⟨_,rfl⟩;rw [g] at e1 hs f;rw [Nat.add_zero] at e1;have u:Hid (Er (-1) zs=(decide ((-1:Int)<x/\0<=x/\x<=80000) && Er x (zs.drop (0+1)))):=s.trans hs;have B:Hid _:=f;clear a g s hs f
     cases hd:Dn x
     ·have q:Hid (Ct zs=false):=Mg (by rw [u.o,decide_eq_false (fun hh=>by rw [Nq hh.2.1 hh.2.2] at hd;cases hd)];rfl)
      go_wp2
      go_quiet (exact Calls.quiet_of_same (A9 _ _))
      go_wp2;go_ret;exact ⟨Aa q.o.symm,below_drewN n _⟩
     ·have m:=Ei hd
      have C:Hid (Er (-1) zs=Er x (zs.drop (0+1))):=by rw [Hid,u.o,decide_eq_true ⟨by omega,m.1,m.2⟩];rfl
      go_wp2
      go_quiet (exact Calls.quiet_of_same (A9 _ _))
      go_wp2
      go_roundw
      case rel=>exact ⟨1,by omega,by go_num,by rw [B.o];exact C.o,below_drewN n _⟩
      case measure=>simp [intOf];omega
    ·obtain ⟨j,rfl⟩:∃ j,k=j+1:=⟨k - 1,by omega⟩
     have e2:wr.cell? (qzA b (off+j))=some (qzI (zs.getD j 0)):=(n.cell (p:=(qzA b (off+j))) hb).trans (a j (by omega))
     have H:Ng zs (j+1)=zs.getD j 0:=by simp [Ng]
     rw [H] at s hs;obtain ⟨x,g⟩:∃ x,zs.getD (j+1) 0=x:=⟨_,rfl⟩;obtain ⟨y,M⟩:∃ y,zs.getD j 0=y:=⟨_,rfl⟩;rw [g] at e1 hs f;rw [M] at e2 s hs;have u:Hid (Er (-1) zs=(decide (y<x/\0<=x/\x<=80000) && Er x (zs.drop (j+1+1)))):=s.trans hs;have B:Hid _:=f;clear a g M s hs f H
     cases hd:Dn x
     ·have q:Hid (Ct zs=false):=Mg (by rw [u.o,decide_eq_false (fun hh=>by rw [Nq hh.2.1 hh.2.2] at hd;cases hd)];rfl)
      go_wp2
      go_quiet (exact Calls.quiet_of_same (A9 _ _))
      go_wp2;go_ret;exact ⟨Aa q.o.symm,below_drewN n _⟩
     ·have m:=Ei hd
      by_cases hp:y<x
      ·have C:Hid (Er (-1) zs=Er x (zs.drop (j+1+1))):=by rw [Hid,u.o,decide_eq_true ⟨hp,m.1,m.2⟩];rfl
       go_wp2
       go_quiet (exact Calls.quiet_of_same (A9 _ _))
       go_wp2
       go_roundw
       case rel=>exact ⟨j+1+1,by omega,by go_num,by rw [B.o];exact C.o,below_drewN n _⟩
       case measure=>simp [intOf];omega
      ·have S:x<=y:=by omega
       have q:Hid (Ct zs=false):=Mg (by rw [u.o,decide_eq_false (fun hh=>hp hh.1)];rfl)
       go_wp2
       go_quiet (exact Calls.quiet_of_same (A9 _ _))
       go_wp2;go_ret;exact ⟨Aa q.o.symm,below_drewN n _⟩
   ·have z:Er (-1) zs=true:=by rw [s,List.drop_of_length_le (by omega)];rfl
    have N:Hid (Ct zs=decide ((zs.length:Int)<=400)):=by
     by_cases h4:zs.length<=400
     ·rw [Hid,cG h4 z,decide_eq_true (by omega)]
     ·rw [Hid,cP (by omega),decide_eq_false (by omega)]
    have t:¬ (k:Int)<(zs.length:Int):=by omega
    clear a s z;go_wp2;go_ret;exact ⟨Aa N.o.symm,n⟩
theorem sZ {zs:List Int} {d:Int} (h:d ∈ zs):wk zs d=false:=by simp [wk,h]
theorem jT {zs:List Int} {d:Int} (h:d ∉ zs):wk zs d=decide ((d+5) % 7<5):=by simp [wk,h]
theorem qF {zs:List Int} {d:Int} (h:∀ j,j<zs.length->zs.getD j 0≠d):d ∉ zs:=fun hm=>by
 obtain ⟨k,D,e⟩:=List.mem_iff_getElem.1 hm
 exact h k D (by simp [List.getD_eq_getElem?_getD,D,e])
theorem Oh (d:Int) (v:Option Addr) (c:Nat) (zs:List Int) (w:World) (J:Aw w v zs) (T:zs.length<=1099511627776) (hd:Dn d=true) :
  Calls prog 303 #[qzI d,.slice v zs.length c] w fun e w'=>e=.returned (.bool (wk zs d))/\w'=w:=by
 have I:=Pt hd;have V:=Ei hd
 rcases J with rfl | ⟨b,off,rfl,hb,a⟩
 ·have A:Hid (wk [] d=decide ((d+5) % 7<5)):=jT (by simp)
  go_enter func303,ntmps303
  go_wp2;refine wp_loop_rounds 1 ?_;rw [rounds_succ]
  go_wp2_with (go_at_call 326;refine (M6 _ _).mono ?_;rintro e w' ⟨rfl,rfl⟩;rw [I])
  go_ret;exact ⟨Aa A.o.symm,rfl⟩
 ·go_enter func303,ntmps303
  go_wp2
  go_loop [5] (fun i=>∃ k:Nat,k<=zs.length/\i=qzI k/\∀ j,j<k->zs.getD j 0≠d) (fun i=>zs.length - (intOf i).toNat)
  case atStart=>exact ⟨0,Nat.zero_le _,rfl,fun j hj=>by omega⟩
  case round =>
   obtain ⟨k,D,rfl,G⟩:=hrel;have q:Hid _:=G;clear G
   by_cases hlt:k<zs.length
   ·have e1:=a k hlt
    have r:zs.getD k 0 ∈ zs:=by simp [List.getD_eq_getElem?_getD,hlt]
    obtain ⟨x,g⟩:∃ x,zs.getD k 0=x:=⟨_,rfl⟩;rw [g] at e1 r;have B:Hid _:=g
    have t:(k:Int)<(zs.length:Int):=by omega
    clear a g
    cases he:(x == d)
    ·have F:x≠d:=by simpa using he
     have U:Hid (∀ j,j<k+1->zs.getD j 0≠d):=fun j hj=>by
      rcases (show j<k\/j=k from by omega) with h | rfl
      ·exact q.o j h
      ·rw [B.o];exact F
     clear r F;go_wp2
     go_round
     case rel=>exact ⟨k+1,by omega,by go_num,U.o⟩
     case measure=>simp [intOf];omega
    ·have L:x=d:=by simpa using he
     have A:Hid (wk zs d=false):=sZ (L ▸ r);clear r L;go_wp2;go_ret;exact ⟨Aa A.o.symm,rfl⟩
   ·have A:Hid (wk zs d=decide ((d+5) % 7<5)):=jT (qF (fun j hj=>q.o j (by omega)))
    have t:¬ (k:Int)<(zs.length:Int):=by omega
    clear a
    go_wp2_with (go_at_call 326;refine (M6 _ _).mono ?_;rintro e w' ⟨rfl,rfl⟩;rw [I])
    go_ret;exact ⟨Aa A.o.symm,rfl⟩
theorem Xi (x:Int) (w:World):Calls prog 361 #[qzI x] w fun e w'=>e=.returned (.bool false)/\w'=w:=by
 have h:(x != x)=false:=by simp
 go_enter func361,ntmps361
 go_wp2;go_ret
 exact ⟨Aa (by simp),rfl⟩
theorem lL (x:Int) (w:World):Calls prog 187 #[qzI x] w fun e w'=>e=.returned (.bool false)/\w'=w:=by
 go_enter func187,ntmps187
 go_wp2;go_ret
 exact ⟨Aa (by simp),rfl⟩
theorem Wp (x y:Int) (w:World):Calls prog 360 #[qzI x,qzI y] w fun e w'=>e=.returned (.bool (decide (x<y)))/\w'=w:=by
 go_enter func360,ntmps360
 go_wp2_with (go_at_call 187;refine (lL _ _).mono ?_;rintro e w' ⟨rfl,rfl⟩)
 go_ret;exact ⟨rfl,rfl⟩
theorem bB (t:Int) (b off c:Nat) (zs:List Int) (w:World) (a:∀ i,i<zs.length->w.cell? (qzA b (off+i))=some (qzI (zs.getD i 0))) (F:zs.length<=400) (z:Er (-1) zs=true) :
  Calls prog 359 #[.slice (some (qzA b off)) zs.length c,qzI t] w fun e w'=>(∃ i:Int,e=.returned (.tuple #[qzI i,.bool (decide (t ∈ zs))]))/\w'=w:=by
 have A:Hid _:=z;clear z
 go_enter func359,ntmps359
 go_wp2
 go_loop [7,8,9] (fun i j _=>∃ (m n:Nat),m<=n/\n<=zs.length/\i=qzI m/\j=qzI n/\(∀ k,k<m->zs.getD k 0<t)/\(∀ k,n<=k->k<zs.length->t<=zs.getD k 0)) (fun i j _=>(intOf j - intOf i).toNat)
 case atStart=>exact ⟨0,zs.length,Nat.zero_le _,nL,rfl,rfl,fun k hk=>by omega,fun k F h2=>by omega⟩
 case round =>
  obtain ⟨m,n,L,M,rfl,rfl,q,p⟩:=hrel;have H:Hid _:=q;have G:Hid _:=p;clear q p
  by_cases hlt:m<n
  ·have I:(m:Int)<(n:Int):=by omega
   have e1:=a ((m+n) / 2) (by omega)
   obtain ⟨x,f⟩:∃ x,zs.getD ((m+n) / 2) 0=x:=⟨_,rfl⟩;rw [f] at e1;have g:Hid _:=f;clear f a
   by_cases hxt:x<t
   ·have D:Hid (∀ k,k<(m+n) / 2+1->zs.getD k 0<t):=fun k hk=>by
      rcases (show k<(m+n) / 2\/k=(m+n) / 2 from by omega) with h | h
      ·have:=Ye zs _ A.o k ((m+n) / 2) h (by omega)
       rw [g.o] at this;omega
      ·rw [h,g.o];exact hxt
    go_wp2_with (go_at_call 360;refine (Wp _ _ _).mono ?_;rintro e w' ⟨rfl,rfl⟩)
    go_round
    case rel=>exact ⟨(m+n) / 2+1,n,by omega,M,by go_num,rfl,D.o,G.o⟩
    case measure=>simp [intOf];omega
   ·have u:t<=x:=by omega
    have C:Hid (∀ k,(m+n) / 2<=k->k<zs.length->t<=zs.getD k 0):=fun k hk hkl=>by
     rcases (show (m+n) / 2<k\/k=(m+n) / 2 from by omega) with h | h
     ·have:=Ye zs _ A.o ((m+n) / 2) k h hkl
      rw [g.o] at this;omega
     ·rw [h,g.o];exact u
    go_wp2_with (go_at_call 360;refine (Wp _ _ _).mono ?_;rintro e w' ⟨rfl,rfl⟩)
    go_round
    case rel=>exact ⟨m,(m+n) / 2,by omega,by omega,rfl,by go_num,H.o,C.o⟩
    case measure=>simp [intOf];omega
  ·have s:m=n:=by omega
   subst s;have B:Hid _:=Yl A.o H.o G.o
   by_cases hml:m<zs.length
   ·have r:(m:Int)<(zs.length:Int):=by omega
    have e1:=a m hml;obtain ⟨x,f⟩:∃ x,zs.getD m 0=x:=⟨_,rfl⟩;rw [f] at e1;have g:Hid _:=f;clear f a
    cases he:(x == t)
    ·have l:Hid (decide (t ∈ zs)=false):=decide_eq_false (fun hm=>by
       have:=(B.o.1 hm).2
       rw [g.o] at this;subst this;simp at he)
     go_wp2_with (go_at_call 361;refine (Xi _ _).mono ?_;rintro e w' ⟨rfl,rfl⟩)
     go_ret2;exact ⟨⟨m,Ji rfl l.o.symm⟩,rfl⟩
    ·have l:Hid (decide (t ∈ zs)=true):=decide_eq_true (B.o.2 ⟨hml,by rw [g.o];simpa using he⟩)
     go_wp2_with (go_at_call 361;refine (Xi _ _).mono ?_;rintro e w' ⟨rfl,rfl⟩)
     go_ret2;exact ⟨⟨m,Ji rfl l.o.symm⟩,rfl⟩
   ·have r:¬ (m:Int)<(zs.length:Int):=by omega
    have l:Hid (decide (t ∈ zs)=false):=decide_eq_false (fun hm=>hml (B.o.1 hm).1)
    clear a;go_wp2_with fail
    go_ret2;exact ⟨⟨m,Ji rfl l.o.symm⟩,rfl⟩
theorem Y6 (t:Int) (v:Option Addr) (c:Nat) (w:World) :
  Calls prog 359 #[.slice v 0 c,qzI t] w fun e w'=>(∃ i:Int,e=.returned (.tuple #[qzI i,.bool false]))/\w'=w:=by
 go_enter func359,ntmps359
 go_wp2;refine wp_loop_rounds 1 ?_;rw [rounds_succ];go_wp2;go_ret2;exact ⟨⟨0,Ji rfl rfl⟩,rfl⟩
theorem cI (d:Int) (v:Option Addr) (c:Nat) (zs:List Int) (w:World) (O:Aw w v zs) (F:zs.length<=400) (z:Er (-1) zs=true) :
  Calls prog 356 #[.slice v zs.length c,qzI d] w fun e w'=>e=.returned (.bool (decide (d ∈ zs)))/\w'=w:=by
 rcases O with rfl | ⟨b,off,rfl,hb,a⟩
 ·go_enter func356,ntmps356
  go_wp2_with fail
  refine (Y6 _ _ _ _).mono ?_;rintro e w' ⟨⟨i,rfl⟩,hw⟩;subst hw;go_wp2;go_ret
  exact ⟨Aa (by simp),rfl⟩
 ·go_enter func356,ntmps356
  go_wp2_with fail
  refine (bB _ _ _ _ zs _ a F z).mono ?_;rintro e w' ⟨⟨i,rfl⟩,hw⟩;subst hw;go_wp2;go_ret;exact ⟨rfl,rfl⟩
theorem Jv (x:Int) (w:World) (hd:Dn x=true) :
  Calls prog 355 #[qzI x] w fun e w'=>e=.returned (.bool (!decide ((x+5) % 7<5)))/\w'=w:=by
 have N:=Pt hd
 have J:Hid (decide (4<(x+5) % 7) = !decide ((x+5) % 7<5)):=by
  by_cases h:(x+5) % 7<5
  ·rw [Hid,decide_eq_true h,decide_eq_false (by omega)];rfl
  ·rw [Hid,decide_eq_false h,decide_eq_true (by omega)];rfl
 clear hd
 go_enter func355,ntmps355
 go_wp2_with (go_at_call 358;refine (Ur _ _).mono ?_;rintro e w' ⟨rfl,rfl⟩;rw [N])
 go_ret;exact ⟨Aa J.o,rfl⟩
end Go.Proofs.YtomiclakhjncbaaGreatDoor
namespace Go.Proofs.YtomiclakhjncbaaGreatDoor
open Go.RowKit Go.Shelf Go.Proofs.Tryz
def Il (N:Nat) (w:World) (q:Option Addr) (zs:List Int):Prop :=
 zs=[]\/∃ b off,q=some (qzA b off)/\b<N/\∀ i,i<zs.length->w.cell? (qzA b (off+i))=some (qzI (zs.getD i 0))
theorem Il.keep {N:Nat} {w w':World} {q:Option Addr} {zs:List Int} (h:Il N w q zs) (hb:Below N w w'):Il N w' q zs:=by
 rcases h with h | ⟨b,off,h1,h2,h3⟩
 ·exact .inl h
 ·exact .inr ⟨b,off,h1,h2,fun i hi=>(hb.cell (p:=(qzA b (off+i))) h2).trans (h3 i hi)⟩
theorem Il.at {N:Nat} {w:World} {q:Option Addr} {zs:List Int} (h:Il N w q zs) (R:N<=w.heap.size):Aw w q zs:=by
 rcases h with h | ⟨b,off,h1,h2,h3⟩
 ·exact .inl h
 ·exact .inr ⟨b,off,h1,by omega,h3⟩
theorem Aw.in {w:World} {q:Option Addr} {zs:List Int} (h:Aw w q zs):Il w.heap.size w q zs:=h
def Vu (N s:Nat) (W D:World):Prop:=Below N W D/\∀ v,W.cell? (qzA s 0)=some v->D.cell? (qzA s 0)=some v
theorem kS {N s:Nat} {A B C:World} (h:Vu N s A B) (k:Vu N s B C):Vu N s A C:=⟨h.1.trans k.1,fun v hv=>k.2 v (h.2 v hv)⟩
theorem rT {N s:Nat} {w:World} (S:N<=w.heap.size) (W:World) (l:Nat) (o o':Obj) (hl:w.heap.size<=l) (h:W.heap[l]?=some o) (hc:o.isCells=false) (hw:o.isWalk=false):Vu N s W (W.putObj l o') :=
 ⟨belowK_b S W l o o' hl h hc hw,fun _ hv=>cell_kept hv (grownBy_putObj' W l o') (fun r e=>by cases e;exact ⟨o,h,hc⟩)⟩
theorem G6 {k:IntKind} {a b:Int} (h:a=b):Value.int k a=Value.int k b:=by rw [h]
theorem rZ (zs:List Int) (y:Int):wk zs y=(decide ((y+5) % 7<5) && !decide (y ∈ zs)):=rfl
theorem fI (n:Nat) (S:1<=n) (l G s N c:Nat) (q:Option Addr) (zs:List Int) (d:Int) (hd:Dn d=true) (ho:Ct zs=true) (J X:List Int->World->Prop)
  (hY:∀ pre x W,J pre W->pre.length<(wd zs (80000 - d).toNat).length->YieldAt Fence.wide (n - 1) prog l #[qzI x] W fun e D =>
   (e=.returned (.bool true)/\J (pre++[x]) D/\Vu N s W D)\/(e=.returned (.bool false)/\X (pre++[x]) D))
  (W:World) (R:N<=W.heap.size) (cd:W.cell? (qzA G 0)=some (qzI d)) (co:W.cell? (qzA s 0)=some (.slice q zs.length c)) (hz:Il N W q zs) (h0:J [] W) :
  CallsIn Fence.wide n prog 354 #[.func (.yield l) #[] #[],.pointer (some (qzA G 0)),.pointer (some (qzA s 0))] W fun e D=>(∃ v,e=.returned v) /\
   ((∃ ys,ys=wd zs (80000 - d).toNat/\J ys D)\/(∃ pre,pre <+: wd zs (80000 - d).toNat/\X pre D)):=by
 have hb:=Ei hd;have HL:Hid _:=pF ho;have HA:Hid _:=pD ho;clear hd ho;refine callsIn_of_wp func354 rfl trivial ?_ rfl
 simp only [ntmps354,List.size_toArray,List.length_cons,List.length_nil,Nat.reduceAdd,Nat.reduceSub,Array.replicate_succ,Array.replicate_zero,List.push_toArray,List.append_toArray,List.nil_append,List.cons_append]
 gi_wp2
 gi_loopw [4] (fun p wr=>∃ (f:Nat) (pre:List Int),f<=80000/\p=qzI (80001 - f)/\pre++wd zs f=wd zs (80000 - d).toNat/\J pre wr/\Vu N s W wr) (fun p _=>(80001 - intOf p).toNat)
 case atStart=>exact ⟨(80000 - d).toNat,[],by omega,G6 (by omega),rfl,h0,bR,fun _ h=>h⟩
 case round =>
  obtain ⟨f,pre,hf,rfl,hx,F,L⟩:=hrel;have V:Hid _:=hx;clear hx;obtain ⟨y,hy⟩:∃ y:Int,80001 - (f:Int)=y:=⟨_,rfl⟩;rw [hy];have HY:Hid _:=hy
  by_cases hyl:y<=80000
  ·obtain ⟨g,rfl⟩:∃ g,f=g+1:=⟨f - 1,by omega⟩
   have U:80000 - (g:Int)=y:=by omega
   have I:Dn y=true:=Nq (by omega) hyl
   have z:Hid _:=U
   have b0:0<=y:=by omega
   clear hy U;have T:=rZ zs y;have Z:Hid _:=T;clear T;have a8:wr.cell? (qzA s 0)=some (.slice q zs.length c):=L.2 _ co;have HZ:Hid (Aw wr q zs):=(hz.keep L.1).at (Nat.le_trans R L.1.size);have a9:1<=n:=S
   by_cases h5:(y+5) % 7<5
   ·have j:decide ((y+5) % 7<5)=true:=decide_eq_true h5
    by_cases hin:y ∈ zs
    ·have u:decide (y ∈ zs)=true:=decide_eq_true hin
     have M:Hid (wk zs y=false):=by rw [Hid,Z.o,j,u];rfl
     clear h5 hin
     gi_wp2_with fail
     refine ⟨trivial,(callsIn_wide.2 (Jv _ _ I)).mono ?_⟩;rintro e Y ⟨rfl,t⟩;subst t;rw [j]
     gi_wp2_with fail
     refine ⟨trivial,(callsIn_wide.2 (cI _ _ _ zs _ HZ.o HL.o HA.o)).mono ?_⟩;rintro e Y ⟨rfl,t⟩;subst t;rw [u]
     gi_wp2
     go_roundw
     case rel=>exact ⟨g,pre,by omega,G6 (by have:=z.o;omega),by rw [<- V.o,kN (by rw [z.o];exact M.o)],F,L⟩
     case measure=>simp [intOf];have:=z.o;omega
    ·have u:decide (y ∈ zs)=false:=decide_eq_false hin
     have M:Hid (wk zs y=true):=by rw [Hid,Z.o,j,u];rfl
     have H:Hid (wd zs (80000 - d).toNat=(pre++[y])++wd zs g):=by rw [Hid,<- V.o,mN (by rw [z.o];exact M.o),z.o];simp
     clear h5 hin
     obtain ⟨fn,tmps,assign,body,b1,hR⟩:=hY pre y wr F (by rw [H.o];simp)
     gi_wp2_with fail
     refine ⟨trivial,(callsIn_wide.2 (Jv _ _ I)).mono ?_⟩;rintro e Y ⟨rfl,t⟩;subst t;rw [j]
     gi_wp2_with fail
     refine ⟨trivial,(callsIn_wide.2 (cI _ _ _ zs _ HZ.o HL.o HA.o)).mono ?_⟩;rintro e Y ⟨rfl,t⟩;subst t;rw [u]
     gi_wp2
     refine hR.mono ?_
     rintro e W3 (⟨rfl,a5,a7⟩ | ⟨rfl,O⟩)
     ·gi_wp2
      go_roundw
      case rel=>exact ⟨g,pre++[y],by omega,G6 (by have:=z.o;omega),H.o.symm,a5,kS L a7⟩
      case measure=>simp [intOf];have:=z.o;omega
     ·gi_wp2
      refine bodyPost_ret (results_none rfl _ _ _) rfl ?_;exact ⟨⟨_,rfl⟩,.inr ⟨pre++[y],⟨wd zs g,H.o.symm⟩,O⟩⟩
   ·have j:decide ((y+5) % 7<5)=false:=decide_eq_false h5
    have M:Hid (wk zs y=false):=by rw [Hid,Z.o,j];rfl
    clear h5
    gi_wp2_with fail
    refine ⟨trivial,(callsIn_wide.2 (Jv _ _ I)).mono ?_⟩;rintro e Y ⟨rfl,t⟩;subst t;rw [j]
    gi_wp2
    refine ⟨trivial,?_⟩
    gi_wp2
    go_roundw
    case rel=>exact ⟨g,pre,by omega,G6 (by have:=z.o;omega),by rw [<- V.o,kN (by rw [z.o];exact M.o)],F,L⟩
    case measure=>simp [intOf];have:=z.o;omega
  ·have a6:f=0:=by omega
   subst a6;clear hy
   gi_wp2
   go_end0
   exact ⟨⟨_,rfl⟩,.inl (by rw [<- V.o];simpa [wd] using F)⟩
theorem Un (n:Nat) (S:1<=n) (G s N c:Nat) (q:Option Addr) (zs:List Int) (d:Int) (w:World) (hd:Dn d=true) (ho:Ct zs=true) (a3:G<w.heap.size) (a4:s<w.heap.size) (R:N<=w.heap.size)
  (cd:w.cell? (qzA G 0)=some (qzI d)) (co:w.cell? (qzA s 0)=some (.slice q zs.length c)) (hz:Il N w q zs) :
  SeqStopsK Fence.wide n prog 354 #[.pointer (some (qzA G 0)),.pointer (some (qzA s 0))] (fun x:Int=>#[Value.int .i64 x]) (Vu N s)
   (fun ys=>ys=wd zs (80000 - d).toNat) (fun pre=>pre <+: wd zs (80000 - d).toNat) (wd zs (80000 - d).toNat).length w:=fun l J X W hW _ _ hY h0 =>
 fI n S l G s N c q zs d hd ho J X hY W (Nat.le_trans R hW.size) ((hW.cell (p:=(qzA G 0)) a3).trans cd) ((hW.cell (p:=(qzA s 0)) a4).trans co) (hz.keep (hW.mono R)) h0
theorem Re (q:Option Addr) (m c:Nat) (d:Int) (w:World) :
  Calls prog 348 #[.slice q m c,qzI d] w fun e w' =>
   e=.returned (.func (.func 354) #[] #[.pointer (some ⟨w.heap.size+1,0,none⟩),.pointer (some ⟨w.heap.size,0,none⟩)]) /\
   w'=(w.alloc (.cells #[.slice q m c] 120)).alloc (.cells #[qzI d] 3):=by
 go_enter func348,ntmps348
 go_wp2;go_ret;exact ⟨rfl,rfl⟩
theorem Ps {d n:Int} {zs:List Int} (h:Dn d=false\/n<0\/400<n\/Ct zs=false):Lh d n zs=none:=by
 unfold Lh;rw [if_neg];rintro ⟨a,b,c,e⟩
 rcases h with h | h | h | h
 ·rw [a] at h;cases h
 ·omega
 ·omega
 ·rw [e] at h;cases h
theorem V6 {d n:Int} {zs:List Int} (a:Dn d=true) (b:0<=n) (c:n<=400) (e:Ct zs=true):Lh d n zs=Pk zs (80000 - d).toNat n.toNat:=by
 unfold Lh;rw [if_pos ⟨a,b,c,e⟩]
theorem Si (w:World) (x:Int) (y:Bool):((w.alloc (.cells #[qzI x] 3)).alloc (.cells #[.bool y] 4)).cell? ⟨w.heap.size,0,none⟩=some (qzI x) /\
  ((w.alloc (.cells #[qzI x] 3)).alloc (.cells #[.bool y] 4)).cell? ⟨w.heap.size+1,0,none⟩=some (.bool y):=by
 refine ⟨?_,?_⟩
 ·rw [World.cell?_alloc_lt _ _ _ (by simp)];simp
 ·rw [<- World.size_alloc w (.cells #[qzI x] 3)];simp
theorem Hi (w:World) (o o':Obj):Below w.heap.size w ((w.alloc o).alloc o'):=((Below.refl _ w).alloc nL _).alloc (by simp) _
theorem oH (d n:Int) (g:Option Addr) (c:Nat) (zs:List Int) (w:World) (z:Aw w g zs) (H:zs.length<=1099511627776) (h:Dn d=false\/n<0\/400<n\/Ct zs=false) :
  Calls prog 338 #[qzI d,qzI n,.slice g zs.length c] w fun e w'=>e=.returned (.tuple #[qzI 0,.bool false])/\BW w w':=by
 have O:Hid (Aw w g zs):=z;clear z;have tc:=Si w 0 false;have L:Hid _:=Hi w (.cells #[qzI 0] 3) (.cells #[.bool false] 4)
 cases hd:Dn d
 ·go_enter func338,ntmps338
  go_wp2_with fail
  refine (Bm _ _).mono ?_;rintro e w' ⟨rfl,hw⟩;subst hw;go_wp2
  refine bodyPost_ret (v:=.tuple #[qzI 0,.bool false]) (by simp [results,Tryz.f338,go_sem]) rfl ⟨rfl,L.o⟩
 ·by_cases hn0:n<0
  ·go_enter func338,ntmps338
   go_wp2_with fail
   refine (Bm _ _).mono ?_;rintro e w' ⟨rfl,hw⟩;subst hw;go_wp2
   refine bodyPost_ret (v:=.tuple #[qzI 0,.bool false]) (by simp [results,Tryz.f338,go_sem]) rfl ⟨rfl,L.o⟩
  ·by_cases hn4:400<n
   ·go_enter func338,ntmps338
    go_wp2_with fail
    refine (Bm _ _).mono ?_;rintro e w' ⟨rfl,hw⟩;subst hw;go_wp2
    refine bodyPost_ret (v:=.tuple #[qzI 0,.bool false]) (by simp [results,Tryz.f338,go_sem]) rfl ⟨rfl,L.o⟩
   ·have ho:Ct zs=false:=by
      rcases h with h | h | h | h
      ·rw [hd] at h;cases h
      ·omega
      ·omega
      ·exact h
    clear h
    go_enter func338,ntmps338
    go_wp2_with fail
    refine (Bm _ _).mono ?_;rintro e w' ⟨rfl,hw⟩;subst hw;go_wp2_with fail
    refine (Pp _ _ zs _ (Aw.below O.o L.o) H).mono ?_;rintro e w' ⟨rfl,hw⟩;subst hw;go_wp2
    refine bodyPost_ret (v:=.tuple #[qzI 0,.bool false]) (by simp [results,Tryz.f338,go_sem]) rfl ⟨rfl,L.o⟩
theorem gN (d:Int) (g:Option Addr) (c:Nat) (zs:List Int) (w:World) (z:Aw w g zs) (H:zs.length<=1099511627776) (hd:Dn d=true) (ho:Ct zs=true) :
  Calls prog 338 #[qzI d,qzI 0,.slice g zs.length c] w fun e w'=>e=.returned (.tuple #[qzI d,.bool true])/\BW w w':=by
 have O:Hid (Aw w g zs):=z;clear z;have tc:=Si w d true;have a3:Hid _:=Hi w (.cells #[qzI 0] 3) (.cells #[.bool false] 4);have L:Hid _:=Hi w (.cells #[qzI d] 3) (.cells #[.bool true] 4)
 go_enter func338,ntmps338
 go_wp2_with fail
 refine (Bm _ _).mono ?_;rintro e w' ⟨rfl,hw⟩;subst hw;go_wp2_with fail
 refine (Pp _ _ zs _ (Aw.below O.o a3.o) H).mono ?_;rintro e w' ⟨rfl,hw⟩;subst hw;go_wp2
 refine bodyPost_ret (v:=.tuple #[qzI d,.bool true]) (by simp [results,Tryz.f338,go_sem]) rfl ⟨rfl,L.o⟩
def Cl (W:World) (k:Nat) (v:Value):Prop:=W.cell? (qzA k 0)=some v/\W.frozen? (qzA k 0)=false
theorem Cl.kept {W W':World} {row:Option Nat} {k:Nat} {v:Value} (h:Cl W k v) (hg:W.grownBy W' row) (J:∀ r,row=some r->∃ o:Obj,W.heap[r]?=some o/\o.isCells=false):Cl W' k v :=
 ⟨cell_kept h.1 hg J,(frozen_kept h.1 hg J).trans h.2⟩
theorem Cl.new (W:World) (v:Value) (t:TypeId):Cl (W.alloc (.cells #[v] t)) W.heap.size v:=by
 have h:=World.alloc_heap_new W (.cells #[v] t)
 constructor
 ·unfold World.cell?
  simp only [h]
  rfl
 ·unfold World.frozen?
  simp only [h]
  rfl
theorem Cl.alloc {W:World} {k:Nat} {v:Value} (h:Cl W k v) (o:Obj):Cl (W.alloc o) k v:=h.kept (World.grownBy_alloc W o none) (fun r e=>by cases e)
theorem Cl.other {W:World} {k j:Nat} {v u:Value} (h:Cl W k v) (S:j≠k):Cl (W.setCell (qzA j 0) u) k v:=by
 refine ⟨?_,by rw [World.frozen?_setCell];exact h.2⟩
 rw [World.cell?_setCell_other W (qzA j 0) u (b:=(qzA k 0)) (fun e=>by injection e with e1;exact S e1)];exact h.1
theorem Cl.same {W:World} {k:Nat} {v u:Value} (h:Cl W k v):Cl (W.setCell (qzA k 0) u) k u :=
 ⟨World.cell?_setCell_same W (qzA k 0) u h.1,by rw [World.frozen?_setCell];exact h.2⟩
theorem Cl.put {W:World} {k D:Nat} {v:Value} {o o':Obj} (h:Cl W k v) (hD:W.heap[D]?=some o) (ho:o.isCells=false):Cl (W.putObj D o') k v :=
 h.kept (grownBy_putObj' W D o') (fun r e=>by cases e;exact ⟨_,hD,ho⟩)
theorem Ld {N j:Nat} {w W:World} (h:Below N w W) (S:N<=j) (u:Value):Below N w (W.setCell (qzA j 0) u):=h.setCell (p:=(qzA j 0)) S u
theorem mF {N Bo j:Nat} (W:World) (u:Value) (hN:N<=j) (S:j≠Bo):Vu N Bo W (W.setCell (qzA j 0) u) :=
 ⟨(Below.refl N W).setCell (p:=(qzA j 0)) hN _,fun v V=>by
  rw [World.cell?_setCell_other W (qzA j 0) u (b:=(qzA Bo 0)) (fun e=>by injection e with e1;exact S e1)];exact V⟩
theorem mE {zs:List Int} {f m:Nat} (Y:1<=m) (h:(wd zs f).length<m):Pk zs f m=none:=by
 obtain ⟨k,rfl⟩:∃ k,m=k+1:=⟨m - 1,by omega⟩
 rw [Pk];exact List.getElem?_eq_none (by omega)
theorem nJ {zs:List Int} {f m:Nat} {pre:List Int} {x:Int} (hp:pre++[x] <+: wd zs f) (Y:(pre++[x]).length=m):Pk zs f m=some x:=by
 obtain ⟨t,ht⟩:=hp
 simp at Y
 subst Y
 rw [Pk,<- ht];simp
theorem tJ (w:World) (m:Nat) (g:Option Addr) (k c:Nat) (d:Int):∀ i,i=(((((w.alloc (.cells #[qzI 0] 3)).alloc (.cells #[.bool false] 4)).alloc (.cells #[qzI m] 3)).alloc (.cells #[.slice g k c] 120)).alloc (.cells #[qzI d] 3)) ->
  i.heap.size=w.heap.size+5/\BW w i/\Cl i w.heap.size (qzI 0)/\Cl i (w.heap.size+1) (.bool false)/\Cl i (w.heap.size+1+1) (qzI m)/\Cl i (w.heap.size+1+1+1) (.slice g k c)/\Cl i (w.heap.size+1+1+1+1) (qzI d):=by
 rintro _ rfl;have z1:=World.size_alloc w (.cells #[qzI 0] 3);have z2:=World.size_alloc (w.alloc (.cells #[qzI 0] 3)) (.cells #[.bool false] 4);have z3:=World.size_alloc ((w.alloc (.cells #[qzI 0] 3)).alloc (.cells #[.bool false] 4)) (.cells #[qzI m] 3);have z4:=World.size_alloc (((w.alloc (.cells #[qzI 0] 3)).alloc (.cells #[.bool false] 4)).alloc (.cells #[qzI m] 3)) (.cells #[.slice g k c] 120);have k1:=Cl.new w (qzI 0) 3;have Z:=Cl.new (w.alloc (.cells #[qzI 0] 3)) (.bool false) 4;have k3:=Cl.new ((w.alloc (.cells #[qzI 0] 3)).alloc (.cells #[.bool false] 4)) (qzI m) 3;have k4:=Cl.new (((w.alloc (.cells #[qzI 0] 3)).alloc (.cells #[.bool false] 4)).alloc (.cells #[qzI m] 3)) (.slice g k c) 120;have k5:=Cl.new ((((w.alloc (.cells #[qzI 0] 3)).alloc (.cells #[.bool false] 4)).alloc (.cells #[qzI m] 3)).alloc (.cells #[.slice g k c] 120)) (qzI d) 3;rw [z4,z3,z2,z1] at k5;rw [z3,z2,z1] at k4;rw [z2,z1] at k3;rw [z1] at Z;refine ⟨?_,?_,(((k1.alloc _).alloc _).alloc _).alloc _,((Z.alloc _).alloc _).alloc _,(k3.alloc _).alloc _,k4.alloc _,k5⟩
 ·rw [World.size_alloc,z4,z3,z2,z1]
 ·exact (((Hi w _ _).alloc (by rw [z2,z1];omega) _).alloc (by rw [z3,z2,z1];omega) _).alloc (by rw [z4,z3,z2,z1];omega) _
theorem gO (d:Int) (m:Nat) (g:Option Addr) (c:Nat) (zs:List Int) (w:World) (z:Aw w g zs) (H:zs.length<=1099511627776) (hd:Dn d=true) (ho:Ct zs=true) (a4:1<=m) (Y:m<=400) :
  CallsIn Fence.wide 6 prog 338 #[qzI d,qzI m,.slice g zs.length c] w fun e w'=>e=.returned (.tuple #[qzI ((Pk zs (80000 - d).toNat m).getD 0),.bool (Pk zs (80000 - d).toNat m).isSome])/\BW w w':=by
 have O:Hid (Aw w g zs):=z;clear z
 have b0:¬ (m:Int)<0:=by omega
 have b1:¬ (400:Int)<(m:Int):=by omega
 have b2:((m:Int) == 0)=false:=by simp;omega
 refine callsIn_of_wp_marks func338 rfl trivial ?_ rfl
 simp only [ntmps338,List.size_toArray,List.length_cons,List.length_nil,Nat.reduceAdd,Nat.reduceSub,Array.replicate_succ,Array.replicate_zero,List.push_toArray,List.append_toArray,List.nil_append,List.cons_append]
 gi_wp2_with fail
 refine ⟨trivial,(callsIn_wide.2 (Bm _ _)).mono ?_⟩;rintro e w1 ⟨rfl,C⟩;subst C
 gi_wp2_with fail
 refine ⟨trivial,(callsIn_wide.2 (Pp _ _ zs _ (Aw.below O.o (Hi w _ _)) H)).mono ?_⟩;rintro e w1 ⟨rfl,C⟩;subst C
 gi_wp2_with fail
 refine ⟨trivial,(callsIn_wide.2 (Re _ _ _ _ _)).mono ?_⟩;rintro e w1 ⟨rfl,C⟩;subst C
 gi_wp2_with fail
 obtain ⟨i,M⟩:∃ i,(((((w.alloc (.cells #[qzI 0] 3)).alloc (.cells #[.bool false] 4)).alloc (.cells #[qzI m] 3)).alloc (.cells #[.slice g zs.length c] 120)).alloc (.cells #[qzI d] 3))=i:=⟨_,rfl⟩;obtain ⟨b4,R,k1,Z,k3,k4,k5⟩:=tJ w m g zs.length c d i M.symm;rw [M];clear M;have HZ:Il w.heap.size i g zs:=(Aw.in O.o).keep R
 refine wpIn_rangeFunc_ownF (α:=Int) rfl (by omega) (gf:=354) (lb:=#[.pointer (some ⟨w.heap.size+1+1+1+1,0,none⟩),.pointer (some ⟨w.heap.size+1+1+1,0,none⟩)]) rfl trivial (enters_of func354 (by kernel_rfl) rfl)
  (Un 5 (by omega) (w.heap.size+1+1+1+1) (w.heap.size+1+1+1) w.heap.size c g zs d i hd ho (by omega) (by omega) (by omega) k5.1 k4.1 HZ) kS (rT (by omega)) bR (fun _=>rfl)
  (fun pre W=>(pre.length<m/\Cl W (w.heap.size+1+1) (qzI ((m:Int) - pre.length))/\Cl W w.heap.size (qzI 0)/\Cl W (w.heap.size+1) (.bool false))/\BW w W)
  (fun cd pre W=>(cd=.ret/\∃ (p:List Int) (x:Int),pre=p++[x]/\pre.length=m/\Cl W w.heap.size (qzI x)/\Cl W (w.heap.size+1) (.bool true))/\BW w W)
  (OwnFrom.and (Own.from (fun s A B row hs hg J=>⟨hs.1,hs.2.1.kept hg J,hs.2.2.1.kept hg J,hs.2.2.2.kept hg J⟩) _) (ownFrom_below nL (by omega)))
  (fun cd=>OwnFrom.and (Own.from (fun s A B row hs hg J=>by obtain ⟨e1,p,x,e2,e3,e4,e5⟩:=hs;exact ⟨e1,p,x,e2,e3,e4.kept hg J,e5.kept hg J⟩) _) (ownFrom_below nL (by omega)))
  ⟨⟨by simp;omega,by simpa using k3,k1,Z⟩,R⟩
  (fun x=>{ tmps:=#[qzI d,qzI m,.slice g zs.length c,undef,undef,undef,.pointer (some ⟨w.heap.size,0,none⟩),.pointer (some ⟨w.heap.size+1,0,none⟩),.slice g zs.length c,.pointer (some ⟨w.heap.size+1+1,0,none⟩),qzI x,.slice g zs.length c,qzI d,.bool true,.bool false,.bool false,qzI m,.bool (decide ((m:Int)<0)),.bool (decide ((m:Int)<0)),.bool (decide ((m:Int)<0)),qzI m,.bool (decide ((400:Int)<(m:Int))),.bool (decide ((m:Int)<0) || decide ((400:Int)<(m:Int))),.bool (decide ((m:Int)<0) || decide ((400:Int)<(m:Int))),.slice g zs.length c,.bool true,.bool false,.bool (decide ((m:Int)<0) || decide ((400:Int)<(m:Int))),qzI m,.bool false,undef,qzI m,.slice g zs.length c,qzI d,.func (.func 354) #[] #[.pointer (some ⟨w.heap.size+1+1+1+1,0,none⟩),.pointer (some ⟨w.heap.size+1+1+1,0,none⟩)],qzI x,undef,undef,undef,undef,undef],defers:=[] }) ?assign ?body ?done ?stop
 case assign =>
  intro l x W K hK;have U:=Oper.semAt_some
  gi_wp2
  exact hK
 case body =>
  rintro l pre x W ⟨⟨q,X,F,G⟩,hB⟩ _;obtain ⟨v,V⟩:∃ v:Int,(m:Int) - pre.length=v:=⟨_,rfl⟩;rw [V] at X
  have b5:1<=v:=by omega
  have b6:v<=400:=by omega
  have HV:Hid _:=V;have b8:=X.1;have b9:=X.2;have a5:=F.1;have a6:=F.2;have a7:=G.1;have a8:=G.2;clear V
  cases he:(v - 1 == 0)
  ·have b3:v≠1:=by intro h;subst h;simp at he
   have U:=Oper.semAt_some
   gi_wp2
   exact ⟨KeepsOthers.setCell _ _ _,mF W _ (by omega) (by omega),⟨by have:=HV.o;simp;omega,by rw [show (m:Int) - (pre++[x]).length=v - 1 from by have:=HV.o;simp;omega];exact X.same,F.other (by omega),G.other (by omega)⟩,Ld hB (by omega) _⟩
  ·have a9:v - 1=0:=by simpa using he
   have b7:v=1:=by omega
   have U:=Oper.semAt_some
   gi_wp2
   refine ⟨((KeepsOthers.setCell _ _ _).trans (KeepsOthers.setCell _ _ _)).trans (KeepsOthers.setCell _ _ _),⟨rfl,pre,x,rfl,by have:=HV.o;simp;omega,((F.other (by omega)).same).other (by omega),((G.other (by omega)).other (by omega)).same⟩,?_⟩
   exact Ld (Ld (Ld hB (by omega) _) nL _) (by omega) _
 case done =>
  rintro D ys W hD rfl ⟨⟨q,X,F,G⟩,hB⟩ hK;have HN:Hid _:=mE a4 q;have a5:=F.1;have a6:=F.2;have a7:=G.1;have a8:=G.2
  gi_wp2
  have I:=(KeepsOthers.setCell (W.setCell ⟨w.heap.size,0,none⟩ (qzI 0)) ⟨w.heap.size+1,0,none⟩ (.bool false)).same D _ ((KeepsOthers.setCell W ⟨w.heap.size,0,none⟩ (qzI 0)).same D _ hK rfl) rfl
  refine ⟨by simp,.inl ⟨_,_,rfl,run_takeDeferred I,?_⟩⟩
  have qa:=(((F.same (u:=qzI 0)).other (j:=w.heap.size+1) (u:=.bool false) (by omega)).put (o':=.deferred none) I rfl).1
  have qb:=(((G.other (j:=w.heap.size) (u:=qzI 0) (by omega)).same (u:=.bool false)).put (o':=.deferred none) I rfl).1
  refine ⟨.tuple #[qzI 0,.bool false],?_,by rw [HN.o];rfl,(Ld (Ld hB nL _) (by omega) _).trans (belowK_b (w:=w) nL _ D _ _ (by omega) I rfl rfl)⟩
  simp [results,Tryz.f338,go_sem,qa,qb]
 case stop =>
  rintro D cd pre W hD T ⟨⟨rfl,p,x,rfl,q,F,G⟩,hB⟩ hK;have HN:Hid _:=nJ T q
  gi_wp2
  refine ⟨by simp,.inl ⟨_,_,rfl,run_takeDeferred hK,?_⟩⟩
  have qa:=(F.put (o':=.deferred none) hK rfl).1;have qb:=(G.put (o':=.deferred none) hK rfl).1
  refine ⟨.tuple #[qzI x,.bool true],?_,by rw [HN.o];rfl,hB.trans (belowK_b (w:=w) nL W D _ _ (by omega) hK rfl rfl)⟩
  simp [results,Tryz.f338,go_sem,qa,qb]
theorem V1 (d n:Int) (g:Option Addr) (c:Nat) (zs:List Int) (w:World) (z:Aw w g zs) (H:zs.length<=1099511627776) :
  Calls prog 338 #[qzI d,qzI n,.slice g zs.length c] w fun e w'=>e=.returned (.tuple #[qzI ((Lh d n zs).getD 0),.bool (Lh d n zs).isSome])/\BW w w':=by
 by_cases h:Dn d=false\/n<0\/400<n\/Ct zs=false
 ·rw [Ps h];exact oH d n g c zs w z H h
 ·have hd:Dn d=true:=by cases e:Dn d;exact absurd (.inl e) h;rfl
  have ho:Ct zs=true:=by cases e:Ct zs;exact absurd (.inr (.inr (.inr e))) h;rfl
  obtain ⟨m,rfl⟩:=Int.eq_ofNat_of_zero_le (show 0<=n by omega)
  rw [V6 hd (by omega) (by omega) ho,show ((m:Int)).toNat=m from by omega]
  cases m with
  | zero =>
   have hb:=Ei hd
   rw [Wb,show 80000 - (((80000 - d).toNat:Nat):Int)=d from by omega]
   exact gN d g c zs w z H hd ho
  | succ m=>exact callsIn_wide.1 (gO d (m+1) g c zs w z H hd ho (by omega) (by omega))
theorem nP (w:World) (b:Int) (a:Option Addr) (k c:Nat) (d:Int):∀ W0,W0=((((w.alloc (.cells #[qzI b] 3)).alloc (.cells #[qzI 0] 3)).alloc (.cells #[.slice a k c] 120)).alloc (.cells #[qzI d] 3)) ->
  W0.heap.size=w.heap.size+4/\BW w W0/\Cl W0 w.heap.size (qzI b)/\Cl W0 (w.heap.size+1) (qzI 0)/\Cl W0 (w.heap.size+1+1) (.slice a k c)/\Cl W0 (w.heap.size+1+1+1) (qzI d):=by
 rintro _ rfl;have z1:=World.size_alloc w (.cells #[qzI b] 3);have z2:=World.size_alloc (w.alloc (.cells #[qzI b] 3)) (.cells #[qzI 0] 3);have z3:=World.size_alloc ((w.alloc (.cells #[qzI b] 3)).alloc (.cells #[qzI 0] 3)) (.cells #[.slice a k c] 120);have i:=Cl.new w (qzI b) 3;have f:=Cl.new (w.alloc (.cells #[qzI b] 3)) (qzI 0) 3;have g:=Cl.new ((w.alloc (.cells #[qzI b] 3)).alloc (.cells #[qzI 0] 3)) (.slice a k c) 120;have h:=Cl.new (((w.alloc (.cells #[qzI b] 3)).alloc (.cells #[qzI 0] 3)).alloc (.cells #[.slice a k c] 120)) (qzI d) 3;rw [z3,z2,z1] at h;rw [z2,z1] at g;rw [z1] at f;refine ⟨?_,?_,((i.alloc _).alloc _).alloc _,(f.alloc _).alloc _,g.alloc _,h⟩
 ·rw [World.size_alloc,z3,z2,z1]
 ·exact ((Hi w _ _).alloc (by rw [z2,z1];omega) _).alloc (by rw [z3,z2,z1];omega) _
end Go.Proofs.YtomiclakhjncbaaGreatDoor
namespace Go.Proofs.YtomiclakhjncbaaGreatDoor
open Go.RowKit Go.Proofs.Tryz
theorem V0 (d n:Int) (r:Option Addr) (c:Nat) (zs:List Int) (w:World) (A:Aw w r zs) (s:zs.length<=1099511627776) :
  Calls prog 264 #[qzI d,qzI n,.slice r zs.length c] w fun e w'=>e=.returned (.tuple #[qzI ((Lh d n zs).getD 0),.bool (Lh d n zs).isSome])/\BW w w':=by
 have u:Hid (Aw w r zs):=A;clear A
 cases hd:Dn d
 ·have a:Hid _:=Ps (n:=n) (zs:=zs) (.inl hd)
  go_enter func264,ntmps264
  go_wp2_with fail
  refine (A9 _ _).mono ?_;rintro e w' ⟨rfl,hw⟩;subst hw;go_wp2;go_ret2
  exact ⟨Ji (by rw [a.o];rfl) (by rw [a.o];rfl),bR⟩
 ·cases hn:Gk n 0 400
  ·have a:Hid (Lh d n zs=none):=by
     refine Ps ?_
     by_cases h0:n<0
     ·exact .inr (.inl h0)
     ·by_cases h4:400<n
      ·exact .inr (.inr (.inl h4))
      ·rw [Uh (by omega) (by omega)] at hn;cases hn
   go_enter func264,ntmps264
   go_wp2_with fail
   refine (A9 _ _).mono ?_;rintro e w' ⟨rfl,hw⟩;subst hw;go_wp2_with fail
   refine (Dl _ _ _ _).mono ?_;rintro e w' ⟨rfl,hw⟩;subst hw;go_wp2;go_ret2
   exact ⟨Ji (by rw [a.o];rfl) (by rw [a.o];rfl),bR⟩
  ·have j:0<=n/\n<=400:=by simpa [Gk] using hn
   cases ho:Ct zs
   ·have a:Hid _:=Ps (d:=d) (n:=n) (.inr (.inr (.inr ho)))
    go_enter func264,ntmps264
    go_wp2_with fail
    refine (A9 _ _).mono ?_;rintro e w' ⟨rfl,hw⟩;subst hw;go_wp2_with fail
    refine (Dl _ _ _ _).mono ?_;rintro e w' ⟨rfl,hw⟩;subst hw;go_wp2_with fail
    refine (Rk _ _ zs _ u.o s).mono ?_;rintro e B ⟨rfl,i⟩;go_wp2;go_ret2
    exact ⟨Ji (by rw [a.o];rfl) (by rw [a.o];rfl),i⟩
   ·have x:Hid _:=V6 hd j.1 j.2 ho
    have C:=Ei hd
    go_enter func264,ntmps264
    go_wp2_with fail
    refine (A9 _ _).mono ?_;rintro e w' ⟨rfl,hw⟩;subst hw;go_wp2_with fail
    refine (Dl _ _ _ _).mono ?_;rintro e w' ⟨rfl,hw⟩;subst hw;go_wp2_with fail
    refine (Rk _ _ zs _ u.o s).mono ?_;rintro e B ⟨rfl,i⟩;have h:Hid (Aw B r zs):=Aw.below u.o i;go_wp2
    go_loop [0,1] (fun p q=>∃ (f m:Nat),f<=80000/\m<=400/\p=qzI (80000 - f)/\q=qzI m/\Pk zs f m=Pk zs (80000 - d).toNat n.toNat) (fun p _=>(80000 - intOf p).toNat)
    case atStart=>exact ⟨(80000 - d).toNat,n.toNat,by omega,by omega,G6 (by omega),G6 (by omega),rfl⟩
    case round =>
     obtain ⟨f,m,J,D,rfl,rfl,z⟩:=hrel;have l:Hid _:=z;clear z;obtain ⟨y,hy⟩:∃ y:Int,80000 - (f:Int)=y:=⟨_,rfl⟩;rw [hy]
     have G:0<=y:=by omega
     have H:y<=80000:=by omega
     have I:Hid _:=hy
     cases m with
     | zero =>
      have g:Hid (Lh d n zs=some y):=by rw [Hid,x.o,<- l.o,Wb,hy]
      clear hy;go_wp2;go_ret2
      exact ⟨Ji (by rw [g.o];rfl) (by rw [g.o];rfl),i⟩
     | succ m =>
      have F:(0:Int)<((m+1:Nat):Int):=by omega
      cases f with
      | zero =>
       have v:y=80000:=by omega
       have g:Hid (Lh d n zs=none):=by rw [Hid,x.o,<- l.o,pC]
       have b:Dn (y+1)=false:=pI (by omega)
       clear hy;go_wp2_with fail
       refine (A9 _ _).mono ?_;rintro e w' ⟨rfl,hw⟩;subst hw;go_wp2;go_ret2
       exact ⟨Ji (by rw [g.o];rfl) (by rw [g.o];rfl),i⟩
      | succ f =>
       have k:Hid (80000 - (f:Int)=y+1):=by rw [Hid];omega
       have v:y<=79999:=by omega
       have b:Dn (y+1)=true:=Nq (by omega) (by omega)
       cases hw2:wk zs (y+1)
       ·have t:Hid (Pk zs f (m+1)=Pk zs (80000 - d).toNat n.toNat):=by rw [Hid,<- l.o,qO (by rw [k.o];exact hw2)]
        clear hy;go_wp2_with fail
        refine (A9 _ _).mono ?_;rintro e w' ⟨rfl,hw⟩;subst hw;go_wp2_with fail
        refine (Oh _ _ _ zs _ h.o s b).mono ?_;rintro e w' ⟨rfl,hw⟩;subst hw;go_wp2
        go_round
        case rel=>exact ⟨f,m+1,by omega,D,G6 k.o.symm,rfl,t.o⟩
        case measure=>simp [intOf];omega
       ·have t:Hid (Pk zs f m=Pk zs (80000 - d).toNat n.toNat):=by rw [Hid,<- l.o,oO (by rw [k.o];exact hw2)]
        clear hy;go_wp2_with fail
        refine (A9 _ _).mono ?_;rintro e w' ⟨rfl,hw⟩;subst hw;go_wp2_with fail
        refine (Oh _ _ _ zs _ h.o s b).mono ?_;rintro e w' ⟨rfl,hw⟩;subst hw;go_wp2
        go_round
        case rel=>exact ⟨f,m,by omega,by omega,G6 k.o.symm,G6 (by omega),t.o⟩
        case measure=>simp [intOf];omega
def C6 (d n:Int) (zs:List Int):Int:=(Lh d n zs).getD (-1)
theorem bO {d n:Int} {zs:List Int} (h:Lh d n zs=none):C6 d n zs = -1:=by rw [C6,h];rfl
theorem Vz {d n y:Int} {zs:List Int} (h:Lh d n zs=some y):C6 d n zs=y:=by rw [C6,h];rfl
theorem Wi (d n:Int) (a:Option Addr) (c:Nat) (zs:List Int) (w:World) (b:Aw w a zs) (k:zs.length<=1099511627776) :
  Calls prog 330 #[qzI d,qzI n,.slice a zs.length c] w fun e w'=>e=.returned (qzI (C6 d n zs))/\BW w w':=by
 cases h:Lh d n zs with
 | none =>
  have i:Hid _:=bO h
  have f:Hid (Calls prog 338 #[qzI d,qzI n,.slice a zs.length c] w fun e w'=>e=.returned (.tuple #[qzI 0,.bool false])/\BW w w'):=by
   have g:=V1 d n a c zs w b k;rw [h] at g;exact g
  clear b
  go_enter func330,ntmps330
  go_wp2_with fail
  refine Calls.mono f.o ?_;rintro e l ⟨rfl,j⟩;go_wp2;go_ret;exact ⟨Af i.o.symm,j⟩
 | some y =>
  have i:Hid _:=Vz h
  have f:Hid (Calls prog 338 #[qzI d,qzI n,.slice a zs.length c] w fun e w'=>e=.returned (.tuple #[qzI y,.bool true])/\BW w w'):=by
   have g:=V1 d n a c zs w b k;rw [h] at g;exact g
  clear b
  go_enter func330,ntmps330
  go_wp2_with fail
  refine Calls.mono f.o ?_;rintro e l ⟨rfl,j⟩;go_wp2;go_ret;exact ⟨Af i.o.symm,j⟩
theorem Ir (d n:Int) (a:Option Addr) (c:Nat) (zs:List Int) (w:World) (b:Aw w a zs) (k:zs.length<=1099511627776) :
  Calls prog 222 #[qzI d,qzI n,.slice a zs.length c] w fun e w'=>e=.returned (qzI (C6 d n zs))/\BW w w':=by
 cases h:Lh d n zs with
 | none =>
  have i:Hid _:=bO h
  have f:Hid (Calls prog 264 #[qzI d,qzI n,.slice a zs.length c] w fun e w'=>e=.returned (.tuple #[qzI 0,.bool false])/\BW w w'):=by
   have g:=V0 d n a c zs w b k;rw [h] at g;exact g
  clear b
  go_enter func222,ntmps222
  go_wp2_with fail
  refine Calls.mono f.o ?_;rintro e l ⟨rfl,j⟩;go_wp2;go_ret;exact ⟨Af i.o.symm,j⟩
 | some y =>
  have i:Hid _:=Vz h
  have f:Hid (Calls prog 264 #[qzI d,qzI n,.slice a zs.length c] w fun e w'=>e=.returned (.tuple #[qzI y,.bool true])/\BW w w'):=by
   have g:=V0 d n a c zs w b k;rw [h] at g;exact g
  clear b
  go_enter func222,ntmps222
  go_wp2_with fail
  refine Calls.mono f.o ?_;rintro e l ⟨rfl,j⟩;go_wp2;go_ret;exact ⟨Af i.o.symm,j⟩
end Go.Proofs.YtomiclakhjncbaaGreatDoor
namespace Go.Proofs.YtomiclakhjncbaaGreatDoor
open Go.Proofs.Tryz
def Bg (c:Cs) (x:Int):List En:=if x=0 then [] else [(c.acq,c.iss,c.cur,x)]
def Dw (c:Cs) (x:Int):List En:=if x=0 then [] else [(c.iss,c.acq,c.cur,x)]
def I5 (c:Cs) (x:Int):Cs:=⟨c.iss,c.acq,c.cur,c.am,7,c.rsn,0,c.bk+x,c.fee,c.cop,c.sta,-1⟩
def Oo (c:Cs) (x:Int):Int:=if c.cl<=2*x then c.acq else c.iss
def Es (c:Cs) (x:Int):Cs:=⟨c.iss,c.acq,c.cur,c.am,7,c.rsn,0,c.bk+x,c.fee+50000,c.cop,c.sta,-1⟩
def Dg (c:Cs) (x:Int):List En:=Bg c x++[(Oo c x,9999,c.cur,50000)]
def J9 (c:Cs):Cs:=⟨c.iss,c.acq,c.cur,c.am,2,c.rsn,c.cl,c.bk,c.fee,true,c.sta,-1⟩
def Dx (st k:Int):Bool :=
 if k=0 then decide (st=0) else if k=1 then decide (st=1) else if k=2 then decide (0<=st/\st<=2) else if k=3 then decide (st=3) else if k=4 then decide (st=4)
 else if k=5 then decide (st=5) else if k=6 then decide (st=5) else if k=7 then decide (st=6) else if k=8 then decide (st=1\/3<=st/\st<=6) else if k=9 then decide (st=0\/st=2) else false
theorem Jt {st k:Int} (h:Dx st k=true):(k=0/\st=0)\/(k=1/\st=1)\/(k=2/\(st=0\/st=1\/st=2))\/(k=3/\st=3)\/(k=4/\st=4)\/(k=5/\st=5)\/(k=6/\st=5)\/(k=7/\st=6)\/(k=8/\(st=1\/st=3\/st=4\/st=5\/st=6))\/(k=9/\(st=0\/st=2)):=by
 unfold Dx at h
 repeat' split at h
 all_goals simp at h
 all_goals omega
def E4 (c:Cs) (t:Int):Bool:=c.cop || (decide (c.st=1) && Bv t c.due)
def Bs (c:Cs) (a:Ac) (t:Int) (zs:List Int):Int :=
 if Oy a.rsn=false\/(E8 a.rsn=true/\E4 c t=false) then 3
 else if ¬ (1<=a.am/\a.am<=c.am)\/(a.am<c.am/\Gb a.rsn=false) then 2
 else if Bv t (C6 c.sta (Fs a.rsn) zs)=true then 4 else 0
def B4 (c:Cs) (a:Ac) (t:Int) (zs:List Int):Int :=
 if a.kind=2 then Bs c a t zs
 else if a.kind=1\/a.kind=6 then (if Bv t c.due=true then 4 else 0)
 else if a.kind=3\/a.kind=4 then (if Bv t c.due=true then 4 else if 1<=a.am/\a.am<=c.cl then 0 else 2)
 else if a.kind=7 then (if 0<=a.am/\a.am<=c.cl then 0 else 2)
 else if a.kind=8 then (if Bv t c.due=true then 0 else 4) else 0
def Cx (c:Cs):Cs:=if c.st=1 then J9 c else if c.st=5 then I5 c c.cl else if c.st=6 then Es c (c.cl / 2) else I5 c 0
def Ck (c:Cs):List En:=if c.st=1 then [] else if c.st=5 then Bg c c.cl else if c.st=6 then Dg c (c.cl / 2) else []
def Bx (c:Cs) (a:Ac) (t:Int) (zs:List Int):Cs :=
 if a.kind=0 then ⟨c.iss,c.acq,c.cur,c.am,1,c.rsn,c.cl,c.bk,c.fee,c.cop,c.sta,C6 t 20 zs⟩
 else if a.kind=1 then J9 c
 else if a.kind=2 then ⟨c.iss,c.acq,c.cur,c.am,3,a.rsn,a.am,a.am,c.fee,c.cop,c.sta,C6 t 30 zs⟩
 else if a.kind=3 then ⟨c.iss,c.acq,c.cur,c.am,4,c.rsn,a.am,c.bk - a.am,c.fee,c.cop,c.sta,C6 t 30 zs⟩
 else if a.kind=4 then ⟨c.iss,c.acq,c.cur,c.am,5,c.rsn,a.am,c.bk,c.fee,c.cop,c.sta,C6 t 15 zs⟩
 else if a.kind=5 then I5 c c.cl
 else if a.kind=6 then ⟨c.iss,c.acq,c.cur,c.am,6,c.rsn,c.cl,c.bk,c.fee,c.cop,c.sta,C6 t 60 zs⟩
 else if a.kind=7 then Es c a.am
 else if a.kind=8 then Cx c
 else ⟨c.iss,c.acq,c.cur,c.am,7,c.rsn,c.cl,c.bk,c.fee,c.cop,c.sta,-1⟩
def Bw (c:Cs) (a:Ac):List En :=
 if a.kind=2 then Bg c a.am else if a.kind=3 then Dw c a.am else if a.kind=5 then Bg c c.cl else if a.kind=7 then Dg c a.am else if a.kind=8 then Ck c else []
def D7 (c:Cs) (t:Int) (zs:List Int):Bool:=Ao c && (Dn t && (decide (c.sta<=t) && Ct zs))
def doV (c:Cs) (a:Ac) (t:Int) (zs:List Int):Int :=
 if D7 c t zs=false then 5 else if Dx c.st a.kind=false then 1 else if B4 c a t zs≠0 then B4 c a t zs else if Ao (Bx c a t zs)=true then 0 else 1
def doC (c:Cs) (a:Ac) (t:Int) (zs:List Int):Cs:=if doV c a t zs=0 then Bx c a t zs else c
def doE (c:Cs) (a:Ac) (t:Int) (zs:List Int):List En:=if doV c a t zs=0 then Bw c a else []
theorem Lc (c:Cs) (n:Int):(Bg c n).length<=1:=by unfold Bg;split <;> simp
theorem Xq (c:Cs) (n:Int):(Dw c n).length<=1:=by unfold Dw;split <;> simp
theorem S3 (c:Cs) (n:Int):(Dg c n).length<=2:=by
 have:=Lc c n
 unfold Dg;simp;omega
theorem Xb (c:Cs):(Ck c).length<=2:=by
 have b:=Lc c c.cl;have d:=S3 c (c.cl / 2);unfold Ck
 split
 ·simp
 ·split
  ·omega
  ·split
   ·omega
   ·simp
theorem dZ (c:Cs) (a:Ac):(Bw c a).length<=2:=by
 have b:=Lc c a.am;have d:=Xq c a.am;have f:=Lc c c.cl;have g:=S3 c a.am;have h5:=Xb c;unfold Bw
 split
 ·omega
 ·split
  ·omega
  ·split
   ·omega
   ·split
    ·omega
    ·split
     ·omega
     ·simp
theorem bM (c:Cs) (a:Ac) (t:Int) (zs:List Int):(doE c a t zs).length<=2:=by
 unfold doE;split
 ·exact dZ c a
 ·simp
def ofC (c:Cs) (x:Int):Prop:=x=c.iss\/x=c.acq\/x=9999
theorem uT {c:Cs} {n:Int} {e:En} (h:e ∈ Bg c n):ofC c e.1/\ofC c e.2.1:=by
 unfold Bg at h
 split at h
 ·cases h
 ·simp at h;subst h;exact ⟨.inr (.inl rfl),.inl rfl⟩
theorem zI {c:Cs} {n:Int} {e:En} (h:e ∈ Dw c n):ofC c e.1/\ofC c e.2.1:=by
 unfold Dw at h
 split at h
 ·cases h
 ·simp at h;subst h;exact ⟨.inl rfl,.inr (.inl rfl)⟩
theorem xC {c:Cs} {n:Int} {e:En} (h:e ∈ Dg c n):ofC c e.1/\ofC c e.2.1:=by
 unfold Dg at h
 rcases List.mem_append.1 h with h | h
 ·exact uT h
 ·simp at h;subst h
  refine ⟨?_,.inr (.inr rfl)⟩
  show ofC c (Oo c n)
  unfold Oo;split
  ·exact .inr (.inl rfl)
  ·exact .inl rfl
theorem zH {c:Cs} {e:En} (h:e ∈ Ck c):ofC c e.1/\ofC c e.2.1:=by
 unfold Ck at h
 split at h
 ·cases h
 ·split at h
  ·exact uT h
  ·split at h
   ·exact xC h
   ·cases h
theorem Ad9 {c:Cs} {a:Ac} {t:Int} {zs:List Int} {e:En} (h:e ∈ doE c a t zs):ofC c e.1/\ofC c e.2.1:=by
 unfold doE at h
 split at h
 ·unfold Bw at h
  split at h
  ·exact uT h
  ·split at h
   ·exact zI h
   ·split at h
    ·exact uT h
    ·split at h
     ·exact xC h
     ·split at h
      ·exact zH h
      ·cases h
 ·cases h
theorem yH (c:Cs):(Cx c).iss=c.iss/\(Cx c).acq=c.acq:=by
 unfold Cx
 split
 ·exact ⟨rfl,rfl⟩
 ·split
  ·exact ⟨rfl,rfl⟩
  ·split <;> exact ⟨rfl,rfl⟩
theorem Ab6 (c:Cs) (a:Ac) (t:Int) (zs:List Int):(doC c a t zs).iss=c.iss/\(doC c a t zs).acq=c.acq:=by
 unfold doC
 split
 ·unfold Bx
  by_cases h0:a.kind=0
  ·rw [if_pos h0];exact ⟨rfl,rfl⟩
  rw [if_neg h0]
  by_cases b:a.kind=1
  ·rw [if_pos b];exact ⟨rfl,rfl⟩
  rw [if_neg b]
  by_cases d:a.kind=2
  ·rw [if_pos d];exact ⟨rfl,rfl⟩
  rw [if_neg d]
  by_cases f:a.kind=3
  ·rw [if_pos f];exact ⟨rfl,rfl⟩
  rw [if_neg f]
  by_cases g:a.kind=4
  ·rw [if_pos g];exact ⟨rfl,rfl⟩
  rw [if_neg g]
  by_cases h5:a.kind=5
  ·rw [if_pos h5];exact ⟨rfl,rfl⟩
  rw [if_neg h5]
  by_cases h6:a.kind=6
  ·rw [if_pos h6];exact ⟨rfl,rfl⟩
  rw [if_neg h6]
  by_cases h7:a.kind=7
  ·rw [if_pos h7];exact ⟨rfl,rfl⟩
  rw [if_neg h7]
  by_cases h8:a.kind=8
  ·rw [if_pos h8];exact yH c
  rw [if_neg h8];exact ⟨rfl,rfl⟩
 ·exact ⟨rfl,rfl⟩
theorem Zn (c:Cs) (a:Ac) (t:Int) (zs:List Int):0<=Bs c a t zs/\Bs c a t zs<=4:=by
 unfold Bs
 split
 ·omega
 ·split
  ·omega
  ·split <;> omega
theorem iL (c:Cs) (a:Ac) (t:Int) (zs:List Int):0<=B4 c a t zs/\B4 c a t zs<=4:=by
 have h:=Zn c a t zs;unfold B4
 split
 ·exact h
 ·split
  ·split <;> omega
  ·split
   ·split
    ·omega
    ·split <;> omega
   ·split
    ·split <;> omega
    ·split
     ·split <;> omega
     ·omega
theorem kB (c:Cs) (a:Ac) (t:Int) (zs:List Int):0<=doV c a t zs/\doV c a t zs<=5:=by
 have h:=iL c a t zs;unfold doV
 split
 ·omega
 ·split
  ·omega
  ·split
   ·omega
   ·split <;> omega
abbrev Cd:=Int×Int
def Li (x y:Cd):Bool:=decide (x.1<y.1\/(x.1=y.1/\x.2<y.2))
theorem qL (x:Cd):Li x x=false:=by simp only [Li,decide_eq_false_iff_not];omega
theorem nC {x y:Cd} (h:Li x y=true):Li y x=false:=by simp only [Li,decide_eq_true_eq,decide_eq_false_iff_not] at *;omega
theorem V2 {x y z:Cd} (h:Li z y=false) (g:Li y x=false):Li z x=false:=by simp only [Li,decide_eq_false_iff_not] at *;omega
theorem kT {k p j:Cd} (h:Li k p=false) (g:Li j p=true):Li k j=false:=by simp only [Li,decide_eq_true_eq,decide_eq_false_iff_not] at *;omega
def par (j:Nat):Nat:=(j - 1) / 2
theorem J0 {j:Nat} (h:0<j):par j<j:=by unfold par;omega
def lT (f:Nat->Cd) (n:Nat):Prop:=∀ k,0<k->k<n->Li (f k) (f (par k))=false
def dH (f:Nat->Cd) (n j:Nat):Prop:=(∀ k,0<k->k<n->k≠j->Li (f k) (f (par k))=false)/\(0<j->∀ k,0<k->k<n->par k=j->Li (f k) (f (par j))=false)
def Me (f:Nat->Cd) (i k:Nat):Nat->Cd:=fun m=>if m=i then f k else if m=k then f i else f m
theorem Px (f:Nat->Cd) (i k:Nat):Me f i k i=f k:=if_pos rfl
theorem La (f:Nat->Cd) (i k:Nat):Me f i k k=f i:=by
 unfold Me
 by_cases h:k=i
 ·rw [if_pos h,h]
 ·rw [if_neg h,if_pos rfl]
theorem Gz (f:Nat->Cd) {i k m:Nat} (h:m≠i) (g:m≠k):Me f i k m=f m:=by unfold Me;rw [if_neg h,if_neg g]
theorem Tt {f:Nat->Cd} {n j:Nat} (h:dH f n j) (o:j=0\/Li (f j) (f (par j))=false):lT f n:=by
 intro k r d
 by_cases e:k=j
 ·subst e
  rcases o with rfl | o
  ·omega
  ·exact o
 ·exact h.1 k r d e
theorem dR {f:Nat->Cd} {n j:Nat} (h:dH f n j) (r:0<j) (o:j<n) (hl:Li (f j) (f (par j))=true):dH (Me f (par j) j) n (par j):=by
 have v:=J0 r
 refine ⟨fun k k0 kn kp=>?_,fun p0 k k0 kn kp=>?_⟩
 ·by_cases kj:k=j
  ·subst kj
   rw [La,Px];exact nC hl
  ·rw [Gz f kp kj]
   by_cases e1:par k=par j
   ·rw [e1,Px]
    have:=h.1 k k0 kn kj
    rw [e1] at this;exact kT this hl
   ·by_cases e2:par k=j
    ·rw [e2,La]
     exact h.2 r k k0 kn e2
    ·rw [Gz f e1 e2]
     exact h.1 k k0 kn kj
 ·have D:=J0 p0
  rw [Gz f (show par (par j)≠par j by omega) (show par (par j)≠j by omega)]
  have A:=h.1 (par j) p0 (by omega) (by omega)
  by_cases kj:k=j
  ·subst kj
   rw [La];exact A
  ·have B:=J0 k0
   rw [Gz f (show k≠par j by omega) kj]
   have:=h.1 k k0 kn kj
   rw [kp] at this;exact V2 this A
theorem iO {f:Nat->Cd} {n:Nat} (h:lT f n):∀ k,k<n->Li (f k) (f 0)=false:=by
 intro k
 induction k using Nat.strongRecOn with
 | _ k ih =>
  intro d
  by_cases k0:k=0
  ·subst k0;exact qL _
  ·have v:=J0 (show 0<k by omega)
   exact V2 (h k (by omega) d) (ih (par k) v (by omega))
def Bc (H:List Cd) (k:Nat):Cd:=H.getD k (0,0)
theorem Md {H:List Cd} {k:Nat} (h:k<H.length):Bc H k=H[k]:=by simp [Bc,List.getD_eq_getElem?_getD,h]
def F1 (H:List Cd):Prop:=lT (Bc H) H.length
def Qr (H:List Cd) (j:Nat):Prop:=dH (Bc H) H.length j
def Cu (H:List Cd) (i k:Nat):List Cd:=(H.set i (Bc H k)).set k (Bc H i)
theorem Hc (H:List Cd) (i k:Nat):(Cu H i k).length=H.length:=by simp [Cu]
theorem Fi {H:List Cd} {i k:Nat} (hi:i<H.length) (d:k<H.length) (m:Nat):Bc (Cu H i k) m=Me (Bc H) i k m:=by
 unfold Me Cu
 by_cases q:m<H.length
 ·rw [Md (by simp;exact q)]
  by_cases e2:m=k
  ·subst e2
   rw [List.getElem_set_self]
   by_cases e1:m=i
   ·rw [if_pos e1,e1]
   ·rw [if_neg e1,if_pos rfl]
  ·rw [List.getElem_set_ne (by omega)]
   by_cases e1:m=i
   ·subst e1
    rw [List.getElem_set_self,if_pos rfl]
   ·rw [List.getElem_set_ne (by omega),if_neg e1,if_neg e2,Md q]
 ·have e1:m≠i:=by omega
  have e2:m≠k:=by omega
  rw [if_neg e1,if_neg e2]
  simp [Bc,List.getD_eq_getElem?_getD,q]
theorem gP {H:List Cd} {i k:Nat} (hi:i<H.length) (d:k<H.length):Bc (Cu H i k)=Me (Bc H) i k:=funext (Fi hi d)
def Fv (H G:List Cd):Prop:=G.length=H.length/\(∀ i,i<H.length->∃ j,j<H.length/\Bc G i=Bc H j)/\(∀ j,j<H.length->∃ i,i<H.length/\Bc G i=Bc H j)
theorem Fv.refl (H:List Cd):Fv H H:=⟨rfl,fun i hi=>⟨i,hi,rfl⟩,fun j o=>⟨j,o,rfl⟩⟩
theorem Fv.trans {H G K:List Cd} (h:Fv H G) (g:Fv G K):Fv H K:=by
 refine ⟨g.1.trans h.1,fun i hi=>?_,fun j o=>?_⟩
 ·obtain ⟨a,u,e⟩:=g.2.1 i (by rw [h.1];exact hi)
  obtain ⟨b,hb,e'⟩:=h.2.1 a (by rw [h.1] at u;exact u)
  exact ⟨b,hb,e.trans e'⟩
 ·obtain ⟨a,u,e⟩:=h.2.2 j o
  obtain ⟨b,hb,e'⟩:=g.2.2 a (by rw [h.1];exact u)
  exact ⟨b,by rw [h.1] at hb;exact hb,e'.trans e⟩
theorem gQ {H:List Cd} {i k:Nat} (hi:i<H.length) (d:k<H.length):Fv H (Cu H i k):=by
 refine ⟨Hc H i k,fun m q=>?_,fun m q=>?_⟩
 ·rw [Fi hi d]
  by_cases e1:m=i
  ·exact ⟨k,d,by rw [e1,Px]⟩
  ·by_cases e2:m=k
   ·exact ⟨i,hi,by rw [e2,La]⟩
   ·exact ⟨m,q,Gz _ e1 e2⟩
 ·by_cases e1:m=i
  ·exact ⟨k,d,by rw [Fi hi d,La,e1]⟩
  ·by_cases e2:m=k
   ·exact ⟨i,hi,by rw [Fi hi d,Px,e2]⟩
   ·exact ⟨m,q,by rw [Fi hi d,Gz _ e1 e2]⟩
theorem Nn {H:List Cd} {x:Cd} {k:Nat} (h:k<H.length):Bc (H++[x]) k=Bc H k:=by
 rw [Md (by simp;omega),Md h,List.getElem_append_left h]
theorem S9 (H:List Cd) (x:Cd):Bc (H++[x]) H.length=x:=by
 rw [Md (by simp)];simp
theorem eK {H:List Cd} (h:F1 H) (x:Cd):Qr (H++[x]) H.length:=by
 refine ⟨fun k k0 kn kj=>?_,fun j0 k k0 kn kp=>?_⟩
 ·have d:k<H.length:=by simp at kn;omega
  have v:=J0 k0
  rw [Nn d,Nn (by omega)]
  exact h k k0 d
 ·have v:=J0 k0
  simp at kn
  omega
structure Gu (c:Nat->Int) (n:Nat) (H:List Cd):Prop where
 heap:F1 H
 only:∀ i,i<H.length->∃ m,m<n/\Bc H i=(c m,(m:Int))/\0<=c m
 all:∀ m,m<n->0<=c m->∃ i,i<H.length/\Bc H i=(c m,(m:Int))
 le:H.length<=n
theorem Gu.start (c:Nat->Int):Gu c 0 []:=⟨fun k _ h=>by simp at h,fun i h=>by simp at h,fun m h=>by omega,nL⟩
theorem Gu.skip {c:Nat->Int} {n:Nat} {H:List Cd} (h:Gu c n H) (hs:c n<0):Gu c (n+1) H:=by
 refine ⟨h.heap,fun i hi=>?_,fun m q r=>?_,Nat.le_succ_of_le h.le⟩
 ·obtain ⟨m,q,e⟩:=h.only i hi
  exact ⟨m,by omega,e⟩
 ·by_cases e:m=n
  ·subst e;omega
  ·exact h.all m (by omega) r
theorem Gu.push {c:Nat->Int} {n:Nat} {H G:List Cd} (h:Gu c n H) (hs:0<=c n) (hg:F1 G) (l:Fv (H++[(c n,(n:Int))]) G):Gu c (n+1) G:=by
 have hl:=l.1
 simp at hl
 have C:=h.le
 refine ⟨hg,fun i hi=>?_,fun m q r=>?_,by omega⟩
 ·obtain ⟨j,o,e⟩:=l.2.1 i (by simp;omega)
  rw [e]
  simp at o
  by_cases s:j=H.length
  ·subst s
   rw [S9]
   exact ⟨n,by omega,rfl,hs⟩
  ·rw [Nn (show j<H.length by omega)]
   obtain ⟨m,q,e2⟩:=h.only j (by omega)
   exact ⟨m,by omega,e2⟩
 ·by_cases e:m=n
  ·subst e
   obtain ⟨i,hi,e2⟩:=l.2.2 H.length (by simp)
   rw [S9] at e2
   exact ⟨i,by simp at hi;omega,e2⟩
  ·obtain ⟨j,o,e2⟩:=h.all m (by omega) r
   obtain ⟨i,hi,e3⟩:=l.2.2 j (by simp;omega)
   rw [Nn o] at e3
   exact ⟨i,by simp at hi;omega,e3.trans e2⟩
def Io (c:Nat->Int) (n:Nat) (x:Int):Prop:=(x = -1/\∀ k,k<n->c k<0)\/∃ i:Nat,i<n/\x=(i:Int)/\0<=c i/\∀ k,k<n->0<=c k->(c i<c k\/(c i=c k/\i<=k))
theorem kD {c:Nat->Int} {n:Nat} {x y:Int} (h:Io c n x) (g:Io c n y):x=y:=by
 rcases h with ⟨rfl,h⟩ | ⟨i,hi,rfl,hs,h⟩
 ·rcases g with ⟨rfl,_⟩ | ⟨k,d,rfl,w,_⟩
  ·rfl
  ·have:=h k d;omega
 ·rcases g with ⟨rfl,g⟩ | ⟨k,d,rfl,w,g⟩
  ·have:=g i hi;omega
  ·have t:=h k d w
   have F:=g i hi hs
   omega
theorem fB {c:Nat->Int} {n:Nat} {H:List Cd} (h:Gu c n H) (r:H.length=0):Io c n (-1):=by
 refine .inl ⟨rfl,fun k d=>?_⟩
 by_cases e:c k<0
 ·exact e
 ·obtain ⟨i,hi,_⟩:=h.all k d (by omega)
  omega
theorem eB {c:Nat->Int} {n:Nat} {H:List Cd} (h:Gu c n H) (r:0<H.length):Io c n (Bc H 0).2:=by
 obtain ⟨m,q,e,hs⟩:=h.only 0 r
 refine .inr ⟨m,q,by rw [e],hs,fun k d ks=>?_⟩
 obtain ⟨i,hi,e2⟩:=h.all k d ks
 have:=iO h.heap i hi
 rw [e,e2] at this
 simp only [Li,decide_eq_false_iff_not] at this
 omega
theorem gK {c:Nat->Int} {n:Nat} {x:Int} (h:Io c n x) (hs:c n<0):Io c (n+1) x:=by
 rcases h with ⟨rfl,h⟩ | ⟨i,hi,rfl,t,h⟩
 ·exact .inl ⟨rfl,fun k d=>by by_cases e:k=n;subst e;exact hs;exact h k (by omega)⟩
 ·exact .inr ⟨i,by omega,rfl,t,fun k d ks=>by by_cases e:k=n;subst e;omega;exact h k (by omega) ks⟩
theorem Yv {c:Nat->Int} {n:Nat} (h:Io c n (-1)) (hs:0<=c n):Io c (n+1) (n:Int):=by
 refine .inr ⟨n,by omega,rfl,hs,fun k d ks=>?_⟩
 rcases h with ⟨_,h⟩ | ⟨i,_,e,_⟩
 ·by_cases e:k=n
  ·subst e;omega
  ·have:=h k (by omega);omega
 ·omega
theorem mK {c:Nat->Int} {n i:Nat} (h:Io c n (i:Int)) (hs:0<=c n) (hl:c n<c i):Io c (n+1) (n:Int):=by
 refine .inr ⟨n,by omega,rfl,hs,fun k d ks=>?_⟩
 rcases h with ⟨e,_⟩ | ⟨j,o,e,_,h⟩
 ·omega
 ·have s:j=i:=by omega
  subst s
  by_cases e:k=n
  ·subst e;omega
  ·have:=h k (by omega) ks;omega
theorem jH {c:Nat->Int} {n i:Nat} (h:Io c n (i:Int)) (hl:¬ c n<c i):Io c (n+1) (i:Int):=by
 rcases h with ⟨e,_⟩ | ⟨j,o,e,t,h⟩
 ·omega
 ·have s:j=i:=by omega
  subst s
  exact .inr ⟨j,by omega,rfl,t,fun k d ks=>by by_cases e:k=n;subst e;omega;exact h k (by omega) ks⟩
end Go.Proofs.YtomiclakhjncbaaGreatDoor
namespace Go.Proofs.YtomiclakhjncbaaGreatDoor
open Go.RowKit Go.Proofs.Tryz
theorem dW (a:Int) (w:World) :
  Calls prog 147 #[qzI a] w fun e w'=>e=.returned (.bool (Cb a))/\w'=w:=by
 by_cases h1:1<=a
 ·by_cases h2:a<=9999
  ·have f:Hid (Cb a=true):=by simp [Hid,Cb,h1,h2]
   go_enter func147,ntmps147
   go_wp2;go_ret;exact ⟨Aa f.o.symm,rfl⟩
  ·have f:Hid (Cb a=false):=by simp [Hid,Cb,h1,h2]
   go_enter func147,ntmps147
   go_wp2;go_ret;exact ⟨Aa f.o.symm,rfl⟩
 ·have f:Hid (Cb a=false):=by simp [Hid,Cb];omega
  go_enter func147,ntmps147
  go_wp2;go_ret;exact ⟨Aa f.o.symm,rfl⟩
theorem C9 {a:Int} {q:Bool} (h:Cb a=q) (w:World):Calls prog 147 #[qzI a] w fun e w'=>e=.returned (.bool q)/\w'=w:=by rw [<- h];exact dW a w
theorem Rd {c:Int} (w:World) (d:Int) (h:Dc c=d) (k:(Lit.int .i64 c).wf=true):Calls prog 148 #[qzI c] w fun e w'=>e=.returned (qzI d)/\BW w w':=by rw [<- h];exact Eb c w k
theorem kH (a b c:Int) (w:World) :
  Calls prog 107 #[.agg #[qzI a,qzI b,qzI c]] w fun e w'=>e=.returned (.agg #[qzI a,qzI b])/\BW w w':=by
 go_enter func107,ntmps107
 go_wp2
 go_returns
 refine ⟨rfl,?_⟩
 go_grown
theorem Nm (a b c m:Int) (w:World) (k:(Lit.int .i64 c).wf=true) :
  Calls prog 313 #[.agg #[qzI a,qzI b,qzI c,qzI m]] w fun e w'=>e=.returned (.bool (Bt (a,b,c,m)))/\BW w w':=by
 have bel:Below w.heap.size w (w.alloc (.cells #[qzI a,qzI b,qzI c,qzI m] 269)):=by go_grown
 have x:Hid _:=k;clear k
 cases h1:Cb a
 ·have f:Hid (Bt (a,b,c,m)=false):=by simp [Hid,Bt,h1]
  have i:Hid _:=h1;clear h1
  go_enter func313,ntmps313
  go_wp2_with fail
  refine (C9 i.o _).mono ?_;rintro e s ⟨rfl,hw⟩;rw [hw];clear hw;go_wp2;go_ret;exact ⟨Aa f.o.symm,bel⟩
 have i:Hid _:=h1
 cases h2:Cb b
 ·have f:Hid (Bt (a,b,c,m)=false):=by simp [Hid,Bt,h2]
  have j:Hid _:=h2;clear h1 h2
  go_enter func313,ntmps313
  go_wp2_with fail
  refine (C9 i.o _).mono ?_;rintro e s ⟨rfl,hw⟩;rw [hw];clear hw;go_wp2_with fail
  refine (C9 j.o _).mono ?_;rintro e u ⟨rfl,hw⟩;rw [hw];clear hw;go_wp2;go_ret;exact ⟨Aa f.o.symm,bel⟩
 have j:Hid _:=h2
 by_cases h3:a=b
 ·have f:Hid (Bt (a,b,c,m)=false):=by simp [Hid,Bt,h3]
  have r:(a != b)=false:=by simpa using h3
  clear h1 h2 h3
  go_enter func313,ntmps313
  go_wp2_with fail
  refine (C9 i.o _).mono ?_;rintro e s ⟨rfl,hw⟩;rw [hw];clear hw;go_wp2_with fail
  refine (C9 j.o _).mono ?_;rintro e u ⟨rfl,hw⟩;rw [hw];clear hw;go_wp2;go_ret;exact ⟨Aa f.o.symm,bel⟩
 have r:(a != b)=true:=by simpa using h3
 have t:∀ q:Bool,(decide (0<=Dc c) && decide (1<=m/\m<=1000000000000))=q->Bt (a,b,c,m)=q:=by
  intro q z
  simp only [Bt,h1,h2,Bool.true_and,decide_eq_true h3]
  exact z
 obtain ⟨d,hd⟩:∃ d,Dc c=d:=⟨_,rfl⟩;have y:Hid _:=hd
 have f:Hid (Bt (a,b,c,m)=(decide (0<=d) && decide (1<=m/\m<=1000000000000))):=t _ (by rw [hd])
 clear t hd h3 h1 h2
 go_enter func313,ntmps313
 go_wp2_with fail
 refine (C9 i.o _).mono ?_;rintro e s ⟨rfl,hw⟩;rw [hw];clear hw;go_wp2_with fail
 refine (C9 j.o _).mono ?_;rintro e u ⟨rfl,hw⟩;rw [hw];clear hw;go_wp2_with fail
 refine (Rd _ d y.o x.o).mono ?_;rintro e A ⟨rfl,n⟩
 have B:=(n.cell (p:=⟨w.heap.size,3,none⟩) (by simp)).trans (show _=some (qzI m) by simp)
 have l:=bel.trans (n.mono bel.size);clear n bel
 by_cases h4:0<=d
 ·by_cases h5:1<=m
  ·by_cases h6:m<=1000000000000
   ·have g:Hid (Bt (a,b,c,m)=true):=by rw [Hid,f.o];simp [h4,h5,h6]
    clear f;go_wp2;go_ret;exact ⟨Aa g.o.symm,l⟩
   ·have g:Hid (Bt (a,b,c,m)=false):=by rw [Hid,f.o];simp [h6]
    have v:Hid (decide (m<=1000000000000)=false):=decide_eq_false h6;clear f;go_wp2;go_ret
    exact ⟨Aa (by rw [g.o,v.o]),l⟩
  ·have g:Hid (Bt (a,b,c,m)=false):=by rw [Hid,f.o];simp [h5]
   clear f;go_wp2;go_ret;exact ⟨Aa g.o.symm,l⟩
 ·have g:Hid (Bt (a,b,c,m)=false):=by rw [Hid,f.o];simp [h4]
  clear f;go_wp2;go_ret;exact ⟨Aa g.o.symm,l⟩
structure Jo (b:Nat) (a:Au) (u:World):Prop where
 c0:u.cell? (qzA b 0)=some (.string ⟨a.ref.toArray⟩)
 c1:u.cell? (qzA b 1)=some (qzI a.iss)
 c2:u.cell? (qzA b 2)=some (qzI a.cur)
 c3:u.cell? (qzA b 3)=some (qzI a.am)
 c4:u.cell? (qzA b 4)=some (qzI a.day)
 c5:u.cell? (qzA b 5)=some (.bool a.used)
theorem Jo.lt {b:Nat} {a:Au} {u:World} (x:Jo b a u):b<u.heap.size:=World.block_lt_of_cell? u _ x.c0
theorem Jo.below {b:Nat} {a:Au} {u c:World} (x:Jo b a u) (h:BW u c):Jo b a c:=by
 have l:=x.lt;exact ⟨(h.cell (p:=(qzA b 0)) l).trans x.c0,(h.cell (p:=(qzA b 1)) l).trans x.c1,(h.cell (p:=(qzA b 2)) l).trans x.c2,(h.cell (p:=(qzA b 3)) l).trans x.c3,(h.cell (p:=(qzA b 4)) l).trans x.c4,(h.cell (p:=(qzA b 5)) l).trans x.c5⟩
theorem Jo.new (w:World) (a:Au) (t:TypeId):Jo w.heap.size a (w.alloc (.cells #[.string ⟨a.ref.toArray⟩,qzI a.iss,qzI a.cur,qzI a.am,qzI a.day,.bool a.used] t)) :=
 ⟨by simp,by simp,by simp,by simp,by simp,by simp⟩
theorem T7 {x a b:Int} {q:Bool} (h:Gk x a b=q) (w:World):Calls prog 134 #[qzI x,qzI a,qzI b] w fun e w'=>e=.returned (.bool q)/\w'=w:=by rw [<- h];exact Dl x a b w
theorem Pe (a:Au) (w:World) (hl:a.ref.length<=1099511627776) :
  Calls prog 179 #[Fe a] w fun e w'=>e=.returned (.bool (Gy a))/\BW w w':=by
 obtain ⟨r,i,c,m,d,u⟩:=a
 simp only [Fe] at hl ⊢
 have v:Hid (Gy ⟨r,i,c,m,d,u⟩=((decide (r.length=12) && A6 33 126 r) && (Cb i && (decide (0<=Dc c) && (decide (1<=m/\m<=100000000000) && Dn d))))):=rfl;obtain ⟨W,t⟩:∃ W,w.alloc (.cells #[.string ⟨r.toArray⟩,qzI i,qzI c,qzI m,qzI d,.bool u] 107)=W:=⟨_,rfl⟩;have J:BW w W:=t ▸ bR.alloc nL _;have l:Hid (BW w W):=J
 have c0:W.cell? ⟨w.heap.size,0,none⟩=some (.string ⟨r.toArray⟩):=by rw [<- t];simp
 have c1:W.cell? ⟨w.heap.size,1,none⟩=some (qzI i):=by rw [<- t];simp
 have c2:W.cell? ⟨w.heap.size,2,none⟩=some (qzI c):=by rw [<- t];simp
 have c3:W.cell? ⟨w.heap.size,3,none⟩=some (qzI m):=by rw [<- t];simp
 have c4:W.cell? ⟨w.heap.size,4,none⟩=some (qzI d):=by rw [<- t];simp
 have L:w.heap.size<W.heap.size:=by rw [<- t];simp
 have I:Hid _:=t;clear t J
 go_enter func179,ntmps179
 go_wp2;rw [I.o];clear I
 go_loopw [3] (fun i wr=>∃ k:Nat,k<=r.length/\i=qzI k/\A6 33 126 r=A6 33 126 (r.drop k)/\wr=W) (fun i _=>r.length - (intOf i).toNat)
 case atStart=>exact ⟨0,Nat.zero_le _,rfl,rfl,rfl⟩
 case round =>
  obtain ⟨k,V,rfl,A,F⟩:=hrel;subst F
  by_cases hlt:k<r.length
  ·have R:(k:Int)<(r.length:Int):=by omega
   have hs:=Ic 33 126 r k hlt
   obtain ⟨b,hb⟩:∃ b,(⟨r.toArray⟩:ByteArray)[k]'(by rw [Fo];exact hlt)=b:=⟨_,rfl⟩
   rw [(Je r k hlt).trans hb,<- Uu b 33 126] at hs;have y:Hid _:=A.trans hs;have T:=Su b;clear hs A
   cases hin:Gk (b.toNat:Int) 33 126
   ·have N:Hid (A6 33 126 r=false):=by rw [Hid,y.o];simp [hin]
    clear y;go_wp2_with fail
    refine (T7 hin _).mono ?_;rintro e G ⟨rfl,j⟩;subst j;go_wp2;go_ret
    exact ⟨Aa (by rw [v.o,N.o];simp),l.o⟩
   ·have O:Hid (A6 33 126 r=A6 33 126 (r.drop (k+1))):=by rw [Hid,y.o];simp [hin]
    clear y;go_wp2_with fail
    refine (T7 hin _).mono ?_;rintro e G ⟨rfl,j⟩;subst j;go_wp2
    go_roundw
    case rel=>exact ⟨k+1,by omega,by go_num,O.o,trivial⟩
    case measure=>simp [intOf];omega
  ·have D:k=r.length:=by omega
   subst D
   have C:Hid (A6 33 126 r=true):=by rw [Hid,A,I9]
   clear A
   by_cases h12:r.length=12
   ·have S:((r.length:Int) == 12)=true:=by simp [h12]
    have f:Hid (Gy ⟨r,i,c,m,d,u⟩=(Cb i && (decide (0<=Dc c) && (decide (1<=m/\m<=100000000000) && Dn d)))):=by rw [Hid,v.o,C.o,decide_eq_true h12];rfl
    clear h12 v C
    cases hi:Cb i
    ·go_wp2_with fail
     refine (Do hi _).mono ?_;rintro e G ⟨rfl,j⟩;subst j;go_wp2;go_ret
     exact ⟨Aa (by rw [f.o,hi];rfl),l.o⟩
    ·go_wp2_with fail
     refine (Do hi _).mono ?_;rintro e G ⟨rfl,j⟩;subst j;go_wp2_with fail
     refine (Ga c _).mono ?_;rintro e H ⟨rfl,z⟩;have e3:H.cell? ⟨w.heap.size,3,none⟩=some (qzI m):=(z.cell (p:=⟨w.heap.size,3,none⟩) L).trans c3;have U:H.cell? ⟨w.heap.size,4,none⟩=some (qzI d):=(z.cell (p:=⟨w.heap.size,4,none⟩) L).trans c4;have B:Hid (BW w H):=l.o.trans (z.mono l.o.size);rw [hi] at f;clear c0 c1 c2 c3 c4 z l
     by_cases hd:0<=Dc c
     ·cases hin:Gk m 1 100000000000
      ·have n:Hid (Gy ⟨r,i,c,m,d,u⟩=false):=by
         have:decide (1<=m/\m<=100000000000)=false:=hin
         rw [Hid,f.o,decide_eq_true hd,this];rfl
       clear f
       generalize Dc c=g at hd
       go_wp2_with fail
       refine (T7 hin _).mono ?_;rintro e M ⟨rfl,s⟩;subst s;go_wp2;go_ret;exact ⟨Aa n.o.symm,B.o⟩
      ·have n:Hid (Gy ⟨r,i,c,m,d,u⟩=Dn d):=by
         have:decide (1<=m/\m<=100000000000)=true:=hin
         rw [Hid,f.o,decide_eq_true hd,this];rfl
       clear f
       generalize Dc c=g at hd
       go_wp2_with fail
       refine (T7 hin _).mono ?_;rintro e M ⟨rfl,s⟩;subst s;go_wp2_with fail
       refine (A9 d _).mono ?_;rintro e M ⟨rfl,s⟩;subst s
       generalize Dn d=q at n
       go_wp2;go_ret;exact ⟨Aa n.o.symm,B.o⟩
     ·have n:Hid (Gy ⟨r,i,c,m,d,u⟩=false):=by rw [Hid,f.o,decide_eq_false hd];rfl
      clear f
      generalize Dc c=g at hd
      go_wp2;go_ret;exact ⟨Aa n.o.symm,B.o⟩
   ·have S:((r.length:Int) == 12)=false:=by simp;omega
    have f:Hid (Gy ⟨r,i,c,m,d,u⟩=false):=by rw [Hid,v.o,decide_eq_false h12];rfl
    clear h12 v C;go_wp2;go_ret;exact ⟨Aa f.o.symm,l.o⟩
def txF:ByteArray:=⟨#[102,114,97,117,100]⟩
def txN:ByteArray:=⟨#[110,111,110,101]⟩
def txT:ByteArray:=⟨#[116,119,105,99,101]⟩
def txA:ByteArray:=⟨#[97,109,111,117,110,116]⟩
def txQ:ByteArray:=⟨#[113,117,97,108,105,116,121]⟩
def txC:ByteArray:=⟨#[99,97,110,99,101,108,108,101,100]⟩
def oB (x:Int):ByteArray:=if x=4837 then txF else if x=4855 then txN else if x=4834 then txT else if x=4831 then txA else if x=4853 then txQ else if x=4841 then txC else ⟨#[]⟩
def rD0 (x:Int):Int:=if x=4837 then 85 else if x=4855 then 65 else if x=4834 then 45 else if x=4831 then 45 else if x=4853 then 65 else if x=4841 then 45 else 0
theorem qQ {x:Int} (h:x≠4837/\x≠4855/\x≠4834/\x≠4831/\x≠4853/\x≠4841):rD0 x=0:=by simp [rD0,h]
theorem oK {x:Int} (h:x≠4837/\x≠4855/\x≠4834/\x≠4831/\x≠4853/\x≠4841):oB x=⟨#[]⟩:=by simp [oB,h]
theorem oT {x:Int} (h:Oy x=true):rD0 x=Fs x:=by
 rcases K7 x with rfl | rfl | rfl | rfl | rfl | rfl | g
 iterate 6 rfl
 rw [Up g] at h;cases h
theorem S4 {x:Int} (h:Oy x=false):Fs x = -1:=by
 rcases K7 x with rfl | rfl | rfl | rfl | rfl | rfl | g
 iterate 6 cases h
 exact jX g
theorem Ay {a b:Int} (h:a≠b):(a == b)=false:=by simpa using h
theorem Fn (x:Int) (w:World) :
  Calls prog 328 #[qzI x] w fun e w'=>e=.returned (.tuple #[.agg #[.string (oB x),qzI (rD0 x),.bool (Gb x),.bool (E8 x)],.bool (Oy x)])/\BW w w':=by
 rcases K7 x with rfl | rfl | rfl | rfl | rfl | rfl | h
 iterate 6
  ·go_enter func328,ntmps328
   go_wp2
   go_returns
   exact ⟨rfl,by go_grown⟩
 ·have f:Hid (Ending.returned (.tuple #[.agg #[.string (oB x),qzI (rD0 x),.bool (Gb x),.bool (E8 x)],.bool (Oy x)])=.returned (.tuple #[.agg #[.string ⟨#[]⟩,qzI 0,.bool false,.bool false],.bool false])):=by
    rw [Hid,oK h,qQ h,mD h,gS h,Up h]
  obtain ⟨t,u,y,z,h5,I⟩:=h;have O:=Ay t;have R:=Ay u;have S:=Ay y;have T:=Ay z;have U:=Ay h5;have V:=Ay I;clear t u y z h5 I
  go_enter func328,ntmps328
  go_wp2
  go_returns
  exact ⟨f.o.symm,by go_grown⟩
theorem Rg (x:Int) (w:World) :
  Calls prog 312 #[qzI x] w fun e w'=>e=.returned (.bool (Oy x))/\BW w w':=by
 go_enter func312,ntmps312
 go_wp2_with fail
 refine (Fn x _).mono ?_;rintro e l ⟨rfl,d⟩;go_wp2;go_ret;exact ⟨rfl,d.alloc d.size _⟩
theorem X7 (x:Int) (w:World) :
  Calls prog 335 #[qzI x] w fun e w'=>e=.returned (qzI (Fs x))/\BW w w':=by
 cases h:Oy x
 ·have f:Hid _:=S4 h
  go_enter func335,ntmps335
  go_wp2_with fail
  refine (Fn x _).mono ?_;rintro e l ⟨rfl,d⟩;go_wp2;go_ret;exact ⟨Af f.o.symm,d.alloc d.size _⟩
 ·have f:Hid _:=oT h
  go_enter func335,ntmps335
  go_wp2_with fail
  refine (Fn x _).mono ?_;rintro e l ⟨rfl,d⟩;go_wp2;go_ret;exact ⟨Af f.o,d.alloc d.size _⟩
theorem X0 (x:Int) (w:World) :
  Calls prog 334 #[qzI x] w fun e w'=>e=.returned (.bool (Gb x))/\BW w w':=by
 go_enter func334,ntmps334
 go_wp2_with fail
 refine (Fn x _).mono ?_;rintro e l ⟨rfl,d⟩;go_wp2;go_ret;exact ⟨rfl,d.alloc d.size _⟩
theorem Xc (x:Int) (w:World) :
  Calls prog 332 #[qzI x] w fun e w'=>e=.returned (.bool (E8 x))/\BW w w':=by
 go_enter func332,ntmps332
 go_wp2_with fail
 refine (Fn x _).mono ?_;rintro e l ⟨rfl,d⟩;go_wp2;go_ret;exact ⟨rfl,d.alloc d.size _⟩
def rL:List Int:=[4837,4855,4834,4831,4853,4841]
def pX (x:Int):Int:=if x=4837 then 0 else if x=4855 then 1 else if x=4834 then 2 else if x=4831 then 3 else if x=4853 then 4 else if x=4841 then 5 else -1
theorem X5 {x:Int} (h:x≠4837/\x≠4855/\x≠4834/\x≠4831/\x≠4853/\x≠4841):pX x = -1:=by simp [pX,h]
theorem rR (x:Int):decide (0<=pX x)=Oy x:=by
 rcases K7 x with rfl | rfl | rfl | rfl | rfl | rfl | g
 iterate 6 rfl
 rw [X5 g,Up g];rfl
theorem sU {x:Int} {k:Nat} (C:k<6) (h:rL.getD k 0=x):pX x=k:=by
 rcases (show k=0\/k=1\/k=2\/k=3\/k=4\/k=5 by omega) with rfl | rfl | rfl | rfl | rfl | rfl <;> (subst h;rfl)
theorem oX {x:Int} (h:∀ j,j<6->rL.getD j 0≠x):pX x = -1:=by
 have N:=h 0 (by omega)
 have t:=h 1 (by omega)
 have u:=h 2 (by omega)
 have y:=h 3 (by omega)
 have z:=h 4 (by omega)
 have h5:=h 5 (by omega)
 simp [rL] at N t u y z h5
 exact X5 ⟨by omega,by omega,by omega,by omega,by omega,by omega⟩
theorem Ud (x:Int) (w:World) :
  Calls prog 298 #[qzI x] w fun e w'=>e=.returned (qzI (pX x))/\BW w w':=by
 have n:∀ k,k<6->(w.alloc (.cells #[qzI 4837,qzI 4855,qzI 4834,qzI 4831,qzI 4853,qzI 4841] 3)).cell? ⟨w.heap.size,k,none⟩=some (qzI (rL.getD k 0)):=by
  intro k C
  rcases (show k=0\/k=1\/k=2\/k=3\/k=4\/k=5 by omega) with rfl | rfl | rfl | rfl | rfl | rfl <;> simp [rL]
 have m:Below w.heap.size w (w.alloc (.cells #[qzI 4837,qzI 4855,qzI 4834,qzI 4831,qzI 4853,qzI 4841] 3)):=bR.alloc nL _
 go_enter func298,ntmps298
 go_wp2
 go_loop [4] (fun i=>∃ k:Nat,k<=6/\i=qzI k/\∀ j,j<k->rL.getD j 0≠x) (fun i=>6 - (intOf i).toNat)
 case atStart=>exact ⟨0,by omega,rfl,fun j hj=>by omega⟩
 case round =>
  obtain ⟨k,C,rfl,s⟩:=hrel;have H:Hid (∀ j,j<k->rL.getD j 0≠x):=s;clear s
  by_cases hlt:k<6
  ·have a1:=n k hlt
   clear n;obtain ⟨c,r⟩:∃ c,rL.getD k 0=c:=⟨_,rfl⟩;rw [r] at a1;have G:Hid (rL.getD k 0=c):=r;clear r
   cases he:(c == x)
   ·have B:Hid (rL.getD k 0≠x):=by rw [G.o];simpa [Hid] using he
    go_wp2
    go_round
    case rel=>exact ⟨k+1,by omega,by go_num,fun j hj=>by rcases (show j<k\/j=k from by omega) with h | rfl;exact H.o j h;exact B.o⟩
    case measure=>simp [intOf];omega
   ·have B:Hid (rL.getD k 0=x):=by rw [G.o];simpa [Hid] using he
    go_wp2;go_ret;exact ⟨Af (sU hlt B.o).symm,m⟩
  ·have:k=6:=by omega
   subst this;clear n;go_wp2;go_ret;exact ⟨Af (oX H.o).symm,m⟩
theorem V7 (x:Int) (w:World) :
  Calls prog 259 #[qzI x] w fun e w'=>e=.returned (.bool (Oy x))/\BW w w':=by
 have f:Hid _:=rR x
 go_enter func259,ntmps259
 go_wp2_with fail
 refine (Ud x _).mono ?_;rintro e l ⟨rfl,d⟩;go_wp2;go_ret;exact ⟨Aa f.o,d⟩
theorem aT (x:Int) (w:World) :
  Calls prog 301 #[qzI x] w fun e w'=>e=.returned (.bool (Gb x))/\w'=w:=by
 obtain ⟨p,D⟩:∃ p,(x == 4831)=p:=⟨_,rfl⟩
 have f:Hid (Gb x=(p || x == 4853)):=by rw [Hid,Gb,D]
 cases p
 ·go_enter func301,ntmps301
  go_wp2;go_ret
  exact ⟨Aa (by rw [f.o];rfl),rfl⟩
 ·go_enter func301,ntmps301
  go_wp2;go_ret
  exact ⟨Aa (by rw [f.o];rfl),rfl⟩
theorem Wt (x:Int) (w:World) :
  Calls prog 300 #[qzI x] w fun e w'=>e=.returned (.bool (E8 x))/\w'=w:=by
 obtain ⟨p,D⟩:∃ p,(x == 4837)=p:=⟨_,rfl⟩
 have f:Hid (E8 x=(p || x == 4834)):=by rw [Hid,E8,D]
 cases p
 ·go_enter func300,ntmps300
  go_wp2;go_ret
  exact ⟨Aa (by rw [f.o];rfl),rfl⟩
 ·go_enter func300,ntmps300
  go_wp2;go_ret
  exact ⟨Aa (by rw [f.o];rfl),rfl⟩
theorem lA {x:Int} (h:Oy x=true):∃ k:Nat,k<6/\pX x=k/\Fs x=([85,65,45,45,65,45]:List Int).getD k 0:=by
 rcases K7 x with rfl | rfl | rfl | rfl | rfl | rfl | g
 ·exact ⟨0,by decide,rfl,rfl⟩
 ·exact ⟨1,by decide,rfl,rfl⟩
 ·exact ⟨2,by decide,rfl,rfl⟩
 ·exact ⟨3,by decide,rfl,rfl⟩
 ·exact ⟨4,by decide,rfl,rfl⟩
 ·exact ⟨5,by decide,rfl,rfl⟩
 ·rw [Up g] at h;cases h
theorem Xy (x:Int) (w:World) :
  Calls prog 302 #[qzI x] w fun e w'=>e=.returned (qzI (Fs x))/\BW w w':=by
 cases h:Oy x
 ·have f:Hid _:=S4 h
  have q:pX x = -1:=by
   rcases K7 x with rfl | rfl | rfl | rfl | rfl | rfl | g
   iterate 6 cases h
   exact X5 g
  have A:Hid _:=q;clear q
  go_enter func302,ntmps302
  go_wp2_with fail
  refine (Ud x _).mono ?_;rintro e l ⟨rfl,d⟩;rw [A.o];go_wp2;go_ret;exact ⟨Af f.o.symm,d⟩
 ·obtain ⟨k,C,q,J⟩:=lA h
  have A:Hid _:=q;have M:Hid _:=J;clear q J
  go_enter func302,ntmps302
  go_wp2_with fail
  refine (Ud x _).mono ?_;rintro e l ⟨rfl,d⟩;rw [A.o];have bel:Below w.heap.size w (l.alloc (.cells #[qzI 85,qzI 65,qzI 45,qzI 45,qzI 65,qzI 45] 3)):=d.alloc d.size _
  have r:(l.alloc (.cells #[qzI 85,qzI 65,qzI 45,qzI 45,qzI 65,qzI 45] 3)).cell? ⟨l.heap.size,k,none⟩=some (qzI (([85,65,45,45,65,45]:List Int).getD k 0)):=by
   rcases (show k=0\/k=1\/k=2\/k=3\/k=4\/k=5 by omega) with rfl | rfl | rfl | rfl | rfl | rfl <;> simp
  obtain ⟨v,F⟩:∃ v,([85,65,45,45,65,45]:List Int).getD k 0=v:=⟨_,rfl⟩;rw [F] at r;have f:Hid _:=F;have L:Hid _:=bel;clear F bel d h;go_wp2;go_ret
  exact ⟨Af (by rw [M.o,f.o]),L.o⟩
def Mt:List Int:=[30,30,15,60,20]
def Ki (x:Int):Int:=if 0<=x/\x<=4 then Mt.getD x.toNat 0 else -1
theorem Vp {x:Int} (h:x<0\/4<x):Ki x = -1:=if_neg (by omega)
theorem St {k:Nat} (h:k<5):Ki (k:Int)=Mt.getD k 0:=by rw [Ki,if_pos (by omega)];rfl
theorem Rm (x:Int):(x<0\/4<x)\/∃ k:Nat,k<5/\x=(k:Int):=by
 by_cases h:x<0\/4<x
 ·exact .inl h
 ·exact .inr ⟨x.toNat,by omega,by omega⟩
def Di (w : World) : Prop := Lib.TabIs prog w "loop.example/g00126/impl.stepDays" .i64 Mt
theorem Di.below {w w':World} (h:Di w) (hb:BW w w'):Di w':=Lib.tabBelow_of_tabIs h w' hb
theorem Di.cell {w:World} (h:Di w) (i:Nat) (hi:i<5):w.cell? (qzA 16 i)=some (qzI (Mt.getD i 0)) :=
 Lib.TabIs.cell h (by kernel_rfl) i hi
theorem dS (x:Int) (w:World) (g:Di w) :
  Calls prog 331 #[qzI x] w fun e w'=>e=.returned (qzI (Ki x))/\w'=w:=by
 rcases Rm x with h | ⟨k,c,rfl⟩
 ·have a:Hid _:=Vp h
  clear g
  rcases h with h | h
  ·go_enter func331,ntmps331
   go_wp2;go_ret;exact ⟨Af a.o.symm,rfl⟩
  ·go_enter func331,ntmps331
   go_wp2;go_ret;exact ⟨Af a.o.symm,rfl⟩
 ·have f:=g.cell k c
  have d:Hid _:=St c;obtain ⟨v,b⟩:∃ v,Mt.getD k 0=v:=⟨_,rfl⟩;rw [b] at f;have a:Hid _:=b;clear g b
  go_enter func331,ntmps331
  go_wp2;go_ret
  exact ⟨Af (by rw [d.o,a.o]),rfl⟩
theorem I1 (x:Int) (w:World) :
  Calls prog 223 #[qzI x] w fun e w'=>e=.returned (qzI (Ki x))/\BW w w':=by
 rcases Rm x with h | ⟨k,c,rfl⟩
 ·have a:Hid _:=Vp h
  have hi:Gk x 0 4=false:=bN h
  go_enter func223,ntmps223
  go_wp2_with (go_at_call 134;refine (Dl _ _ _ _).mono ?_;rintro e w' ⟨rfl,rfl⟩)
  go_ret;exact ⟨Af a.o.symm,bR⟩
 ·have hi:Gk (k:Int) 0 4=true:=Uh (by omega) (by omega)
  have j:Hid (Below w.heap.size w (w.alloc (.cells #[qzI 30,qzI 30,qzI 15,qzI 60,qzI 20] 3))):=bR.alloc nL _
  have f:(w.alloc (.cells #[qzI 30,qzI 30,qzI 15,qzI 60,qzI 20] 3)).cell? ⟨w.heap.size,k,none⟩=some (qzI (Mt.getD k 0)):=by
   rcases (show k=0\/k=1\/k=2\/k=3\/k=4 by omega) with rfl | rfl | rfl | rfl | rfl <;> simp [Mt]
  have d:Hid _:=St c;obtain ⟨v,b⟩:∃ v,Mt.getD k 0=v:=⟨_,rfl⟩;rw [b] at f;have a:Hid _:=b;clear b
  go_enter func223,ntmps223
  go_wp2_with (go_at_call 134;refine (Dl _ _ _ _).mono ?_;rintro e w' ⟨rfl,rfl⟩)
  go_ret
  exact ⟨Af (by rw [d.o,a.o]),j.o⟩
end Go.Proofs.YtomiclakhjncbaaGreatDoor
namespace Go.Proofs.YtomiclakhjncbaaGreatDoor
open Go.Proofs.Tryz
def Cf:List Ln->Int->Int->Option Int
 | [],_,_=>none
 | x::r,a,c=>if x.1=a/\x.2.1=c then some x.2.2 else Cf r a c
def iD (f:Int->Int->Option Int) (a c m:Int):Int->Int->Option Int:=fun a' c' =>
 if a'=a/\c'=c then (if (f a c).getD 0+m=0 then none else some ((f a c).getD 0+m)) else f a' c'
def Va (ls:List Ln):Prop:=ls.Pairwise (fun x y=>E3 x y=true)
def NZ (ls:List Ln):Prop:=∀ x ∈ ls,x.2.2≠0
theorem Ev {x y:Ln} : E3 x y=true ↔ x.1<y.1\/x.1=y.1/\x.2.1<y.2.1:=by simp [E3]
theorem Jj {x y z:Ln} (j:E3 x y=true) (n:E3 y z=true):E3 x z=true:=by
 rw [Ev] at *;omega
theorem N3 {ls:List Ln} {a c:Int} (h:∀ x ∈ ls,¬ (x.1=a/\x.2.1=c)):Cf ls a c=none:=by
 induction ls with
 | nil=>rfl
 | cons y r ih =>
  simp only [Cf]
  rw [if_neg (h y (List.mem_cons_self ..))]
  exact ih fun x b=>h x (List.mem_cons_of_mem _ b)
theorem Mr {ls:List Ln} {a c v:Int} (h:Cf ls a c=some v):(a,c,v) ∈ ls:=by
 induction ls with
 | nil=>simp [Cf] at h
 | cons y r ih =>
  simp only [Cf] at h
  split at h
  ·rename_i g
   obtain ⟨y1,y2,O⟩:=y
   simp at g h
   obtain ⟨rfl,rfl⟩:=g;subst h;exact List.mem_cons_self ..
  ·exact List.mem_cons_of_mem _ (ih h)
def cV (ls:List Ln):Prop:=ls.Pairwise (fun x y=>¬ (x.1=y.1/\x.2.1=y.2.1))
theorem Va.apart {ls:List Ln} (h:Va ls):cV ls:=h.imp fun {x y} t=>by rw [Ev] at t;omega
theorem Q3 {ls:List Ln} (h:cV ls) {a c v:Int} : (a,c,v) ∈ ls ↔ Cf ls a c=some v:=by
 refine ⟨fun l=>?_,Mr⟩
 induction ls with
 | nil=>cases l
 | cons y r ih =>
  obtain ⟨j,n⟩:=List.pairwise_cons.1 h
  rcases List.mem_cons.1 l with rfl | o
  ·simp [Cf]
  ·have g:=j _ o
   simp only at g
   simp only [Cf]
   rw [if_neg g];exact ih n o
theorem gE (ls:List Ln) (x:Ln) (a c:Int):Cf (ls++[x]) a c=match Cf ls a c with | some v=>some v | none=>if x.1=a/\x.2.1=c then some x.2.2 else none:=by
 induction ls with
 | nil=>simp [Cf]
 | cons y r ih =>
  simp only [List.cons_append,Cf]
  split
  ·rfl
  ·exact ih
theorem fN {ls:List Ln} (hs:Va ls) (d:NZ ls) {k:Nat} (g:k<ls.length):Cf (ls.take (k+1))=iD (Cf (ls.take k)) (Cg ls k).1 (Cg ls k).2.1 (Cg ls k).2.2:=by
 have D:Cf (ls.take k) (Cg ls k).1 (Cg ls k).2.1=none:=by
  refine N3 fun x b=>?_
  obtain ⟨i,hi,rfl⟩:=List.mem_iff_getElem.1 b
  simp only [List.length_take] at hi
  have A:=List.pairwise_iff_getElem.1 hs i k (by omega) g (by omega)
  rw [Ev] at A;rw [List.getElem_take,Pu g]
  omega
 have G:(Cg ls k).2.2≠0:=d _ (Ex g)
 funext a c
 rw [Kl ls k g,gE];unfold iD;rw [D]
 by_cases he:a=(Cg ls k).1/\c=(Cg ls k).2.1
 ·obtain ⟨rfl,rfl⟩:=he
  rw [D]
  simp [G]
 ·rw [if_neg he,if_neg (fun h=>he ⟨h.1.symm,h.2.symm⟩)]
  cases Cf (ls.take k) a c <;> rfl
theorem Wf {ls:List Ln} {a c m:Int} {x:Ln} (h:x ∈ Cr ls a c m):x ∈ ls\/x.1=a/\x.2.1=c:=by
 induction ls with
 | nil=>simp [Cr] at h;subst h;exact .inr ⟨rfl,rfl⟩
 | cons y r ih =>
  simp only [Cr] at h
  split at h
  ·split at h
   ·split at h
    ·rcases List.mem_cons.1 h with rfl | h
     ·exact .inr ⟨rfl,rfl⟩
     ·exact .inl (List.mem_cons_of_mem _ h)
    ·exact .inl (List.mem_cons_of_mem _ h)
   ·rcases List.mem_cons.1 h with rfl | h
    ·exact .inr ⟨rfl,rfl⟩
    ·exact .inl h
  ·rcases List.mem_cons.1 h with rfl | h
   ·exact .inl (List.mem_cons_self ..)
   ·exact (ih h).imp (List.mem_cons_of_mem _) id
theorem Kv {x:Ln} {a c:Int} : My x a c=true ↔ a<x.1\/x.1=a/\c<=x.2.1:=by simp [My]
theorem Rn {ls:List Ln} (hs:Va ls) (a c m:Int):Va (Cr ls a c m):=by
 induction ls with
 | nil=>simp [Cr,Va]
 | cons y r ih =>
  obtain ⟨j,n⟩:=List.pairwise_cons.1 hs
  simp only [Cr]
  split
  ·rename_i o
   rw [Kv] at o
   split
   ·rename_i he
    split
    ·refine List.pairwise_cons.2 ⟨fun z d=>?_,n⟩
     have:=j z d
     rw [Ev] at this ⊢
     simp only
     omega
    ·exact n
   ·rename_i he
    refine List.pairwise_cons.2 ⟨fun z d=>?_,hs⟩
    have hy:E3 (a,c,m) y=true:=by rw [Ev];simp only;omega
    rcases List.mem_cons.1 d with rfl | d
    ·exact hy
    ·exact Jj hy (j z d)
  ·rename_i o
   rw [Kv] at o
   refine List.pairwise_cons.2 ⟨fun z d=>?_,ih n⟩
   rcases Wf d with d | ⟨e1,e2⟩
   ·exact j z d
   ·rw [Ev];omega
theorem Tb {ls:List Ln} (hs:Va ls) (a c:Int) {m:Int} (l:m≠0):Cf (Cr ls a c m)=iD (Cf ls) a c m:=by
 induction ls with
 | nil =>
  funext a' c'
  simp only [Cr,Cf,iD,Option.getD_none,Int.zero_add,if_neg l]
  by_cases h:a'=a/\c'=c
  ·rw [if_pos h,if_pos ⟨h.1.symm,h.2.symm⟩]
  ·rw [if_neg h,if_neg (fun q=>h ⟨q.1.symm,q.2.symm⟩)]
 | cons y r ih =>
  obtain ⟨j,n⟩:=List.pairwise_cons.1 hs;have J:=ih n
  funext a' c'
  simp only [Cr]
  split
  ·rename_i o
   rw [Kv] at o
   split
   ·rename_i he
    have I:Cf r a c=none:=N3 fun x b g=>by
     have:=j x b
     rw [Ev] at this;omega
    have hl:Cf (y::r) a c=some y.2.2:=by simp [Cf,he]
    unfold iD;rw [hl]
    simp only [Option.getD_some]
    split
    ·rename_i G
     by_cases h:a'=a/\c'=c
     ·rw [if_pos h];simp [Cf,h.1,h.2]
     ·rw [if_neg h]
      have e1:¬ (a=a'/\c=c'):=fun q=>h ⟨q.1.symm,q.2.symm⟩
      simp only [Cf]
      rw [if_neg e1,if_neg (by rw [he.1,he.2];exact e1)]
    ·rename_i G
     have H:y.2.2+m=0:=by omega
     by_cases h:a'=a/\c'=c
     ·rw [if_pos h,if_pos H,h.1,h.2];exact I
     ·rw [if_neg h]
      have e1:¬ (a=a'/\c=c'):=fun q=>h ⟨q.1.symm,q.2.symm⟩
      simp only [Cf]
      rw [if_neg (by rw [he.1,he.2];exact e1)]
   ·rename_i he
    have D:Cf (y::r) a c=none:=N3 fun x b g=>by
     rcases List.mem_cons.1 b with rfl | b
     ·exact he g
     ·have:=j x b
      rw [Ev] at this;omega
    unfold iD;rw [D]
    simp only [Option.getD_none,Int.zero_add,if_neg l]
    by_cases h:a'=a/\c'=c
    ·rw [if_pos h];simp [Cf,h.1,h.2]
    ·have e1:¬ (a=a'/\c=c'):=fun q=>h ⟨q.1.symm,q.2.symm⟩
     rw [if_neg h];conv=>lhs;rw [Cf]
     rw [if_neg e1]
  ·rename_i o
   rw [Kv] at o
   have B:¬ (y.1=a/\y.2.1=c):=by omega
   have hl:Cf (y::r) a c=Cf r a c:=by simp only [Cf];rw [if_neg B]
   have b:=congrFun (congrFun J a') c'
   conv=>lhs;rw [Cf]
   unfold iD at b ⊢;rw [hl,b]
   by_cases h:a'=a/\c'=c
   ·rw [if_neg (by rw [h.1,h.2];exact B),if_pos h,if_pos h]
   ·rw [if_neg h,if_neg h];simp only [Cf]
theorem aQ {C w:List Ln} (j:Va C) (n:Va w) (h:∀ a c,Cf C a c=Cf w a c):C=w:=by
 have l:∀ x:Ln,x ∈ C ↔ x ∈ w:=fun ⟨a,c,v⟩=>by rw [Q3 j.apart,Q3 n.apart,h]
 clear h
 induction C generalizing w with
 | nil =>
  cases w with
  | nil=>rfl
  | cons y r=>exact absurd ((l y).2 (List.mem_cons_self ..)) (by simp)
 | cons x r ih =>
  cases w with
  | nil=>exact absurd ((l x).1 (List.mem_cons_self ..)) (by simp)
  | cons y s =>
   obtain ⟨L,p2⟩:=List.pairwise_cons.1 j;obtain ⟨M,N⟩:=List.pairwise_cons.1 n
   have u:∀ z:Ln,E3 z z=true->False:=fun z d=>by rw [Ev] at d;omega
   have t:x=y:=by
    rcases List.mem_cons.1 ((l x).1 (List.mem_cons_self ..)) with h | h
    ·exact h
    ·rcases List.mem_cons.1 ((l y).2 (List.mem_cons_self ..)) with F | F
     ·exact F.symm
     ·exact (u x (Jj (L y F) (M x h))).elim
   subst t
   refine congrArg (x::·) (ih p2 N fun z=>⟨fun d=>?_,fun d=>?_⟩)
   ·rcases List.mem_cons.1 ((l z).1 (List.mem_cons_of_mem _ d)) with rfl | h
    ·exact (u z (L z d)).elim
    ·exact h
   ·rcases List.mem_cons.1 ((l z).2 (List.mem_cons_of_mem _ d)) with rfl | h
    ·exact (u z (M z d)).elim
    ·exact h
theorem Qn {ls:List Ln} (h:Az none ls=true):Va ls:=by
 have key:∀ (r:List Ln) (p:Ln),Az (some p) r=true->(∀ x ∈ r,E3 p x=true)/\Va r:=by
  intro r
  induction r with
  | nil=>intro p _;exact ⟨(fun x b=>by cases b),List.Pairwise.nil⟩
  | cons y s ih =>
   intro p A
   simp only [Az,Bool.and_eq_true] at A
   obtain ⟨a1,a2⟩:=ih y A.2
   refine ⟨fun x b=>?_,List.pairwise_cons.2 ⟨a1,a2⟩⟩
   rcases List.mem_cons.1 b with rfl | b
   ·exact A.1.2
   ·exact Jj A.1.2 (a1 x b)
 cases ls with
 | nil=>exact List.Pairwise.nil
 | cons y s =>
  simp only [Az,Bool.and_eq_true] at h
  obtain ⟨a1,a2⟩:=key s y h.2;exact List.pairwise_cons.2 ⟨a1,a2⟩
theorem Rz {ls:List Ln} (h:Az none ls=true):NZ ls:=fun x b=>(Ig (Dv h x b)).2.2.2
theorem U2 {c:Int} (h:0<=Dc c):c ∈ Gi:=by
 unfold Dc at h
 simp only [Gi,List.mem_cons,List.not_mem_nil,or_false]
 repeat' split at h
 all_goals omega
theorem fR {c:Int} {ls:List Ln} (h:∀ x ∈ ls,x.2.1≠c):Ec c ls=0:=by
 induction ls with
 | nil=>rfl
 | cons y r ih =>
  have i:=h y (List.mem_cons_self ..)
  have g:=ih fun x d=>h x (List.mem_cons_of_mem _ d)
  simp only [Ec,List.map_cons,List.sum_cons] at g ⊢
  rw [if_neg i,g];rfl
theorem hH {ls:List Ln} (h:∀ x ∈ ls,0<=Dc x.2.1):Wo ls=true ↔ ∀ x ∈ ls,Ec x.2.1 ls=0:=by
 unfold Wo;rw [List.all_eq_true]
 constructor
 ·intro f x d
  simpa using f _ (U2 (h x d))
 ·intro f c _
  by_cases hc:∃ x ∈ ls,x.2.1=c
  ·obtain ⟨x,d,rfl⟩:=hc
   simpa using f x d
  ·have:=fR (c:=c) (ls:=ls) fun x d e=>hc ⟨x,d,e⟩
   simp [this]
def Qm (a b:Int):Int:=if a<b then -1 else if b<a then 1 else 0
def oL (x y:Int):Int:=if x≠0 then x else y
def Qh (x y:Ln):Int:=oL (Qm x.1 y.1) (Qm x.2.1 y.2.1)
theorem cY (x y:Ln):Qh x y<0 ↔ E3 x y=true:=by
 simp only [Qh,oL,Qm,E3,decide_eq_true_eq]
 repeat' split
 all_goals omega
end Go.Proofs.YtomiclakhjncbaaGreatDoor
namespace Go.Proofs.YtomiclakhjncbaaGreatDoor
open Go.RowKit Go.Proofs.Tryz
def Nj (x:Cd):List Value:=[qzI x.1,qzI x.2]
def Fj (H:List Cd):List Value:=H.flatMap Nj
theorem O0 (x:Cd) (r:List Cd):Fj (x::r)=qzI x.1::qzI x.2::Fj r:=rfl
theorem Sa (a b:List Cd):Fj (a++b)=Fj a++Fj b:=by simp [Fj]
theorem gH (H:List Cd):∀ k,k<H.length->(Fj H)[k*2]?=some (qzI (Bc H k).1)/\(Fj H)[k*2+1]?=some (qzI (Bc H k).2):=by
 induction H with
 | nil=>intro k h;simp at h
 | cons x r ih =>
  intro k h;rw [O0]
  cases k with
  | zero=>exact ⟨rfl,rfl⟩
  | succ k =>
   have:=ih k (by simpa using h)
   rw [show (k+1) * 2=k*2+1+1 by omega,List.getElem?_cons_succ,List.getElem?_cons_succ,List.getElem?_cons_succ,List.getElem?_cons_succ]
   exact this
theorem Yh (H:List Cd) (x:Cd):∀ k,k<H.length->((Fj H).set (k*2) (qzI x.1)).set (k*2+1) (qzI x.2)=Fj (H.set k x):=by
 induction H with
 | nil=>intro k h;simp at h
 | cons g r ih =>
  intro k h;rw [O0]
  cases k with
  | zero=>rfl
  | succ k =>
   have:=ih k (by simpa using h)
   rw [show (k+1) * 2=k*2+1+1 by omega,List.set_cons_succ,List.set_cons_succ,List.set_cons_succ,List.set_cons_succ,this]
   rfl
theorem Yu (H:List Cd):∀ u ∈ Fj H,u.oneCell'=true:=by
 intro u O;obtain ⟨a,_,h⟩:=List.mem_flatMap.1 O
 simp only [Nj,List.mem_cons,List.not_mem_nil,or_false] at h
 rcases h with rfl | rfl <;> rfl
theorem iP:(prog.info? 294).map (fun i=>(i.zero,i.size,i.bytes))=some (some (.agg #[qzI 0,qzI 0]),2,16):=by kernel_rfl
structure HP (q:Option (Nat×Obj)) (w:World) (H:List Cd) (d:Option Addr) (cap:Nat) (u:World):Prop where
 bel:BW w u
 box:u.cell? ⟨w.heap.size,0,none⟩=some (.slice d H.length cap)
 fz:u.frozen? ⟨w.heap.size,0,none⟩=false
 own:u.ownsRow (w.heap.size+1) 294 2 (.slice d H.length cap) H.length (Fj H)
 kp:∀ b o,q=some (b,o)->u.heap[b]?=some o/\w.heap.size<b/\∀ x,(Value.slice d H.length cap).ownBlock=some x->x≠b
theorem HP.lt {q:Option (Nat×Obj)} {w u:World} {H:List Cd} {d:Option Addr} {cap:Nat} (h:HP q w H d cap u):w.heap.size<u.heap.size:=World.block_lt_of_cell? u _ h.box
theorem pT {w w':World} {base n size:Nat} {t:TypeId} {v:Value} {G:List Value} (h:w.ownsRow base t size v n G) (hb:BW w w'):w'.ownsRow base t size v n G:=by
 obtain ⟨j,l⟩:=h;refine ⟨j,?_⟩
 rcases l with h | ⟨g,cap,C,y,hg,D,a1,a2,L,M⟩
 ·exact .inl h
 ·have A:g<w.heap.size:=(Array.getElem?_eq_some_iff.1 D).1
  exact .inr ⟨g,cap,C,y,hg,(hb.block g A).trans D,a1,a2,L,M⟩
theorem HP.below {q:Option (Nat×Obj)} {w u F:World} {H:List Cd} {d:Option Addr} {cap:Nat} (h:HP q w H d cap u) (b:BW u F):HP q w H d cap F :=
 ⟨h.bel.trans (b.mono h.bel.size),(b.cell (p:=⟨w.heap.size,0,none⟩) h.lt).trans h.box,(b.frozen (p:=⟨w.heap.size,0,none⟩) h.lt).trans h.fz,pT h.own b,fun x o e=>by
  obtain ⟨j,l,s⟩:=h.kp x o e;exact ⟨(b.block x (Array.getElem?_eq_some_iff.1 j).1).trans j,l,s⟩⟩
theorem HP.row {q:Option (Nat×Obj)} {w u:World} {H:List Cd} {d:Option Addr} {cap:Nat} (h:HP q w H d cap u) (S:0<H.length):∃ g,d=some (qzA g 0)/\w.heap.size<g/\g<u.heap.size:=by
 rcases h.own.2 with ⟨y,T⟩ | ⟨g,c,C,y,hg,_⟩
 ·omega
 ·obtain ⟨rfl,rfl⟩:d=some (qzA g 0)/\cap=c:=by simpa using y
  exact ⟨g,rfl,by omega,(h.own.lt g rfl).2⟩
theorem HP.at {q:Option (Nat×Obj)} {w u:World} {H:List Cd} {g:Nat} {cap:Nat} (h:HP q w H (some (qzA g 0)) cap u) {k:Nat} (z:k<H.length):u.cell? (qzA g (k*2))=some (qzI (Bc H k).1)/\u.cell? (qzA g (k*2+1))=some (qzI (Bc H k).2):=by
 have hl:=h.own.1
 rw [h.own.cellAt (k*2) (by omega),h.own.cellAt (k*2+1) (by omega)]
 exact gH H k z
theorem HP.apart {q:Option (Nat×Obj)} {w u:World} {H:List Cd} {d:Option Addr} {cap:Nat} (h:HP q w H d cap u):some w.heap.size≠(Value.slice d H.length cap).ownBlock:=fun e=>by have:=(h.own.lt _ e.symm).1;omega
theorem Qt {w:World} {g k f B:Nat} {v u:Value} (h:g≠f) (N:w.cell? (qzA f B)=some u):(w.setCell (qzA g k) v).cell? (qzA f B)=some u:=by
 rw [World.cell?_setCell_other w (qzA g k) v (b:=(qzA f B)) (fun e=>by injection e with e1 e2;exact h e1)];exact N
theorem HP.setAt {q:Option (Nat×Obj)} {w u:World} {H:List Cd} {g:Nat} {cap:Nat} (h:HP q w H (some (qzA g 0)) cap u) {k:Nat} (z:k<H.length) (x:Cd):HP q w (H.set k x) (some (qzA g 0)) cap ((u.setCell (qzA g (k*2)) (qzI x.1)).setCell (qzA g (k*2+1)) (qzI x.2)):=by
 obtain ⟨f,e,hg,_⟩:=h.row (by omega)
 obtain rfl:g=f:=by simpa using e
 have I:=h.own.stored (k*2) (qzI x.1);have J:=I.1.stored (k*2+1) (qzI x.2);have R:=J.1;rw [Yh H x k z] at R
 refine ⟨(h.bel.setCell (Nat.le_of_lt hg) _).setCell (Nat.le_of_lt hg) _,?_,?_,by rw [List.length_set];exact R,fun b o e=>?_⟩
 ·rw [List.length_set]
  exact Qt (by omega) (Qt (by omega) h.box)
 ·simp [h.fz]
 ·obtain ⟨j,l,s⟩:=h.kp b o e
  have m:g≠b:=s g rfl
  refine ⟨?_,l,by rw [List.length_set];exact s⟩
  rw [Below.heap_setCell _ _ _ _ (fun e=>m e.symm),Below.heap_setCell _ _ _ _ (fun e=>m e.symm)]
  exact j
theorem mQ (a : Value) (w : World) : (method 501 322 a "Push").run prog w = .ok (403, a) w := by kernel_rfl
theorem nV (a : Value) (w : World) : (method 501 322 a "Pop").run prog w = .ok (402, a) w := by kernel_rfl
theorem rN (a : Addr) (nm : String) (w : World) : (Builtin.ssaWrapNilChk_ #[322] 322 #[.pointer (some a), strVal "", strVal nm]).run prog w = .ok (.pointer (some a)) w := rfl
theorem Uq (nm:String) {a:Addr} {v:Value} {w:World} (h:w.cell? a=some v):(receiverAt 322 (.val (.pointer (some a))) false (some nm)).run prog w=.ok v w:=by
 simp [receiverAt,run_underlying underlying322,Place.get,rN,asAddr,loadVar,isAgg291,h]
theorem Lw {t:TypeId} {nm:String} {f:FuncId} (b:(prog.info? t).map (fun i=>(i.methods.find? (·.name == nm)).map fun m=>(m.path,m.func))=some (some (#[],some (f,false)))) (n:Nat) (x:Value) (w:World) {v:Value}
  (hr:∀ s,(receiverAt t (.val x) false (some s)).run prog w=.ok v w):(method (n+1) t x nm).run prog w=.ok (f,v) w:=by
 cases hq:prog.info? t with
 | none=>rw [hq] at b;cases b
 | some i =>
  rw [hq] at b
  cases hm:i.methods.find? (·.name == nm) with
  | none=>simp [hm] at b
  | some m =>
   simp [hm] at b
   obtain ⟨c,d⟩:=b;rw [method]
   simp [typeInfo,hq,hm,follow,c,d]
   rw [hr]
   rfl
theorem bC {a : Addr} {v : Value} {w : World} (h : w.cell? a = some v) : (method 501 322 (.pointer (some a)) "Len").run prog w = .ok (282, v) w :=
 Lw (by kernel_rfl) _ _ w (fun _=>Uq _ h)
theorem Fk {a : Addr} {v : Value} {w : World} (h : w.cell? a = some v) : (method 501 322 (.pointer (some a)) "Less").run prog w = .ok (400, v) w :=
 Lw (by kernel_rfl) _ _ w (fun _=>Uq _ h)
theorem Iv {a : Addr} {v : Value} {w : World} (h : w.cell? a = some v) : (method 501 322 (.pointer (some a)) "Swap").run prog w = .ok (401, v) w :=
 Lw (by kernel_rfl) _ _ w (fun _=>Uq _ h)
end Go.Proofs.YtomiclakhjncbaaGreatDoor
namespace Go.Proofs.YtomiclakhjncbaaGreatDoor
open Go.RowKit Go.Maps Go.Proofs.Tryz
def Dp (a c:Int):Lit:=.string (keyBytes [.int .i64 a,.int .i64 c])
section
variable {P:Program} {k:TypeId} {f0 f1:Field}
theorem gJ {n : Nat} (G : P.underlying k = some (.struct #[f0, f1])) (B : P.keyType k = true) (I : P.cellsOf k = 2) (N : f0.offset = 0) (O : f1.offset = 1) (n0 : (f0.name != "_") = true) (n1 : (f1.name != "_") = true)
  (c0:P.cellsOf f0.type=1) (c1:P.cellsOf f1.type=1) (F:P.underlying f0.type=some (.int .i64)) (u1:P.underlying f1.type=some (.int .i64)) (hn:P.types.size=n+1) {a c:Int} (z:Bf a) (A:Bf c):keyOf P k (.agg #[.int .i64 a,.int .i64 c])=some (Dp a c):=by
 have j:(Lit.int .i64 a).wf=true:=z;have o:(Lit.int .i64 c).wf=true:=A
 simp only [bne_iff_ne,ne_eq] at n0 n1
 simp [keyOf,G,B,Value.formed,I,hn,Program.keyLits,Value.cells,N,O,c0,c1,F,u1,n0,n1,j,o,Dp]
theorem Pg {d:Nat} {t:TypeId} (F:P.underlying t=some (.int .i64)) {u:Value} {l:List Lit} (h:P.keyLits (d+1) t [u]=some l):∃ x,u=.int .i64 x/\l=[.int .i64 x]/\Bf x:=by
 cases u <;> simp [Program.keyLits,F] at h
 obtain ⟨⟨rfl,hw⟩,rfl⟩:=h;exact ⟨_,rfl,rfl,hw⟩
theorem Zs {n:Nat} (G:P.underlying k=some (.struct #[f0,f1])) (B:P.keyType k=true) (I:P.cellsOf k=2) (N:f0.offset=0) (O:f1.offset=1)
  (c0:P.cellsOf f0.type=1) (c1:P.cellsOf f1.type=1) (F:P.underlying f0.type=some (.int .i64)) (u1:P.underlying f1.type=some (.int .i64)) (hn:P.types.size=n+1) {key:Value} {C:Lit} (h:keyOf P k key=some C) :
  ∃ a c,key=.agg #[.int .i64 a,.int .i64 c]/\C=Dp a c/\Bf a/\Bf c:=by
 cases key <;> simp [keyOf,G,B,Value.formed,I] at h
 rename_i cs
 obtain ⟨l⟩:=cs;obtain ⟨hl,ls,q,rfl⟩:=h
 match l,hl with
 | [u,v],_ =>
  rw [hn] at q;unfold Program.keyLits at q
  simp only [G] at q
  split at q
  ·simp only [List.mapM_cons,List.mapM_nil,N,O,c0,c1,List.drop_zero] at q
   have e1:(List.take 1 (Value.agg { toList:=[u,v] }).cells.toList)=[u]:=rfl;have e2:(List.take 1 (List.drop 1 (Value.agg { toList:=[u,v] }).cells.toList))=[v]:=rfl;rw [e1,e2] at q
   cases h0:P.keyLits (n+1) f0.type [u] with
   | none=>rw [h0] at q;cases q
   | some l0 =>
    cases s:P.keyLits (n+1) f1.type [v] with
    | none=>rw [h0,s] at q;cases q
    | some l1 =>
     rw [h0,s] at q
     have M:([l0,l1]:List (List Lit)).flatten=ls:=by simpa using q
     obtain ⟨x,rfl,rfl,S⟩:=Pg F h0;obtain ⟨y,rfl,rfl,hy⟩:=Pg u1 s
     exact ⟨x,y,rfl,by rw [<- M];rfl,S,hy⟩
  ·cases q
end
theorem Em:(128:TypeId)<prog.types.size:=of_decide_eq_true (by kernel_rfl)
theorem jF:prog.cellsOf 128=2:=by kernel_rfl
theorem pP:prog.keyType 128=true:=by kernel_rfl
theorem sB:(match prog.underlying 128 with | some (.array _ _) | some (.struct _)=>true | _=>false)=true:=by kernel_rfl
theorem jS:WideMaps.KeyLaw prog 128:=deep_law_laid Uc (m:=3) (by omega) Em (by kernel_rfl) sB
theorem Tx:Keyed prog 128:=Keyed.of_law jS
theorem Uf:prog.cellsOf 3=1:=by kernel_rfl
theorem jM:∃ n,prog.types.size=n+1:=⟨prog.types.size - 1,(Nat.succ_pred_eq_of_pos (Nat.lt_of_le_of_lt (Nat.zero_le _) Em)).symm⟩
theorem L9 {a c:Int} (z:Bf a) (A:Bf c):keyOf prog 128 (.agg #[.int .i64 a,.int .i64 c])=some (Dp a c) :=
 let ⟨_,hn⟩:=jM
 gJ underlying128 pP jF rfl rfl (by decide) (by decide) Uf Uf underlying3 underlying3 hn z A
theorem Sg {key:Value} {C:Lit} (h:keyOf prog 128 key=some C):∃ a c,key=.agg #[.int .i64 a,.int .i64 c]/\C=Dp a c/\Bf a/\Bf c :=
 let ⟨_,hn⟩:=jM
 Zs underlying128 pP jF rfl rfl Uf Uf underlying3 underlying3 hn h
theorem Rh {a c g i:Int} (z:Bf a) (A:Bf c) (j:Bf g) (o:Bf i) (h:Dp a c=Dp g i):a=g/\c=i:=by
 have:=Tx.inj (L9 z A) (h ▸ L9 j o)
 simpa using this
def F5 (w:World) (b n:Nat) (f:Int->Int->Option Int):Prop :=
 ∃ D:DataW Unit,w.ownsMap prog 128 (plainElem (H:=Unit) prog 3) b n D /\
  (∀ a c,Bf a->Bf c->Maps.has D (Dp a c)=(f a c).isSome/\D.atKey (Dp a c) (.lit (.int .i64 0))=.lit (.int .i64 ((f a c).getD 0)))/\∀ a c,f a c≠none->Bf a/\Bf c
theorem Nh (a c:Int):WideAt.IsKeyLit (Dp a c):=trivial
theorem fO {D:DataW Unit} {f:Int->Int->Option Int} (R:IsMap D) (h:∀ a c,Bf a->Bf c->Maps.has D (Dp a c)=(f a c).isSome/\D.atKey (Dp a c) (.lit (.int .i64 0))=.lit (.int .i64 ((f a c).getD 0))) {a c v:Int} (z:Bf a) (A:Bf c) :
  ∀ g i,Bf g->Bf i->Maps.has (D.put (Dp a c) (.lit (.int .i64 v))) (Dp g i)=(if g=a/\i=c then some v else f g i).isSome/\(D.put (Dp a c) (.lit (.int .i64 v))).atKey (Dp g i) (.lit (.int .i64 0))=.lit (.int .i64 ((if g=a/\i=c then some v else f g i).getD 0)):=by
 intro g i j o
 by_cases he:g=a/\i=c
 ·obtain ⟨rfl,rfl⟩:=he
  rw [if_pos ⟨rfl,rfl⟩,Maps.has_put_same R (Nh _ _),Maps.atKey_put_same R (Nh _ _)];exact ⟨rfl,rfl⟩
 ·have p:Dp g i≠Dp a c:=fun e=>he (Rh j o z A e)
  rw [if_neg he,Maps.has_put_other p,Maps.atKey_put_other p];exact h g i j o
theorem eN {D:DataW Unit} {f:Int->Int->Option Int} (h:∀ a c,Bf a->Bf c->Maps.has D (Dp a c)=(f a c).isSome/\D.atKey (Dp a c) (.lit (.int .i64 0))=.lit (.int .i64 ((f a c).getD 0))) {a c:Int} (z:Bf a) (A:Bf c) :
  ∀ g i,Bf g->Bf i->Maps.has (D.del (Dp a c)) (Dp g i)=(if g=a/\i=c then none else f g i).isSome/\(D.del (Dp a c)).atKey (Dp g i) (.lit (.int .i64 0))=.lit (.int .i64 ((if g=a/\i=c then none else f g i).getD 0)):=by
 intro g i j o
 by_cases he:g=a/\i=c
 ·obtain ⟨rfl,rfl⟩:=he
  rw [if_pos ⟨rfl,rfl⟩,Maps.has_del_same,Maps.atKey_del_same];exact ⟨rfl,rfl⟩
 ·have p:Dp g i≠Dp a c:=fun e=>he (Rh j o z A e)
  rw [if_neg he,Maps.has_del_other p,Maps.atKey_del_other p];exact h g i j o
theorem F5.kept {w w':World} {b n:Nat} {f:Int->Int->Option Int} {row:Option Nat} (h:F5 w b n f) (hg:w.grownBy w' row) (p:some b≠row):F5 w' b n f:=by
 obtain ⟨D,s,J,L⟩:=h;exact ⟨D,s.kept hg p,J,L⟩
theorem F5.lt {w:World} {b n:Nat} {f:Int->Int->Option Int} (h:F5 w b n f):b<w.heap.size:=by
 obtain ⟨D,s,_⟩:=h;exact s.lt
theorem F5.below {w w':World} {b n:Nat} {f:Int->Int->Option Int} (h:F5 w b n f) (hb:BW w w'):F5 w' b n f:=by
 have hl:=h.lt;obtain ⟨D,⟨es,clock,s,r⟩,J,L⟩:=h;exact ⟨D,⟨es,clock,(hb.block b hl).trans s,r⟩,J,L⟩
end Go.Proofs.YtomiclakhjncbaaGreatDoor
namespace Go.Proofs.YtomiclakhjncbaaGreatDoor
open Go.RowKit Go.Maps Go.MapKept Go.ChangeMaps Go.Proofs.Tryz
open Go.WideElems (Fit)
open Go.WideMaps (KeyLaw)
section
variable {H:Type} {P:Program} {w:World} {t k e:TypeId} {R:Value->Option (DataW H×List MemPlace)} {b:Nat} {es:Array MapEntry} {clock:Nat}
theorem Ob {α:Type} : ∀ (l:List α) (j:Nat) (x:α),l[j]?=some x->l.set j x=l
 | [],_,_,h=>by simp at h
 | y::r,0,x,h=>by simp at h;subst h;rfl
 | y::r,j+1,x,h=>by simp at h;simp [Ob r j x h]
theorem iU (K:KeyLaw P k) (S:P.underlying t=some (.map k e)) {z:Value} (hz:∀ u:World,(zeroValue e).run P u=.ok z u) (hb:w.heap[b]?=some (.map es clock)) (F:Fit P k R es clock) {key:Value} {kl:Lit} (d:keyOf P k key=some kl) :
  ∃ (Z:Value) (st:Nat) (q:Array MapEntry) (g:Nat),(Instr.mapEntry t (.map (some b)) key).run P w=.ok (.tuple #[Z,goInt st]) (setBlock w b (.map q g)) /\
   (Instr.mapUpdate t (.map (some b)) key Z).run P w=.ok () (setBlock w b (.map q g))/\(Instr.lookup t (.map (some b)) key false).run P w=.ok Z w:=by
 rcases K.find w d es.toList F.keys with ⟨L,O⟩ | ⟨j,e0,L,O,h3⟩
 ·refine ⟨z,clock,es.push ⟨key,z,clock⟩,clock+1,?_,?_,?_⟩
  ·simp [Instr.mapEntry,run_underlying S,MapKept.run_getObj_map hb,K.check w false d,L,hz,MapKept.run_setObj_map _ hb,Result.andThen,setBlock]
  ·simp [Instr.mapUpdate,run_underlying S,MapKept.run_getObj_map hb,K.check w false d,L,MapKept.run_setObj_map _ hb,Result.andThen,setBlock]
  ·simp [Instr.lookup,run_underlying S,MapKept.run_getObj_map hb,K.check w _ d,L,hz,Result.andThen]
 ·have hj:es[j]?=some e0:=by simpa using O
  have m1:es.modify j (fun e=>{ e with key:=key })=es:=by
   apply Array.ext'
   rw [Array.toList_modify,modify_eq_set _ _ _ _ O,show ({ e0 with key:=key } : MapEntry)=e0 by rw [<- h3]]
   exact Ob _ _ _ O
  have m2:es.modify j (fun e=>{ e with key:=key,val:=e0.val })=es:=by
   apply Array.ext'
   rw [Array.toList_modify,modify_eq_set _ _ _ _ O,show ({ e0 with key:=key,val:=e0.val } : MapEntry)=e0 by rw [<- h3]]
   exact Ob _ _ _ O
  refine ⟨e0.val,e0.born,es,clock,?_,?_,?_⟩
  ·simp [Instr.mapEntry,run_underlying S,MapKept.run_getObj_map hb,K.check w false d,L,hj,h3,K.stays w d,m1,MapKept.run_setObj_map _ hb,Result.andThen,setBlock]
  ·simp [Instr.mapUpdate,run_underlying S,MapKept.run_getObj_map hb,K.check w false d,L,hj,h3,K.stays w d,m2,MapKept.run_setObj_map _ hb,Result.andThen,setBlock]
  ·simp [Instr.lookup,run_underlying S,MapKept.run_getObj_map hb,K.check w _ d,L,Result.andThen]
end
theorem gM {W:World} {b n:Nat} {f:Int->Int->Option Int} (h:F5 W b n f) {a c v m:Int} (ha:Bf a) (hc:Bf c) (hv:(f a c).getD 0=v) (hw:Bf (v+m)) (hn:n<maxLen) :
  ∃ (st:Nat) (W1 W2:World),(Instr.mapEntry 338 (.map (some b)) (.agg #[.int .i64 a,.int .i64 c])).run prog W=.ok (.tuple #[.int .i64 v,.int .i64 st]) W1 /\
   (Instr.lookup 338 (.map (some b)) (.agg #[.int .i64 a,.int .i64 c]) false).run prog W=.ok (.int .i64 v) W /\
   (Instr.lookup 338 (.map (some b)) (.agg #[.int .i64 a,.int .i64 c]) false).run prog W1=.ok (.int .i64 v) W1 /\
   (Instr.entryStore 338 (.map (some b)) (.int .i64 st) (.int .i64 (v+m))).run prog W1=.ok () W2 /\
   (Instr.lookup 338 (.map (some b)) (.agg #[.int .i64 a,.int .i64 c]) false).run prog W2=.ok (.int .i64 (v+m)) W2 /\
   W.grownBy W1 (some b)/\W.grownBy W2 (some b)/\F5 W2 b (n+1) (fun a' c'=>if a'=a/\c'=c then some (v+m) else f a' c'):=by
 obtain ⟨D,i,A,b9⟩:=h;have d:=L9 ha hc;obtain ⟨es,clock,hb,F,hs,hD⟩:=i;have i:W.ownsMap prog 128 (plainElem (H:=Unit) prog 3) b n D:=⟨es,clock,hb,F,hs,hD⟩;obtain ⟨Z,st,q,g,hE,hU,hL⟩:=iU jS underlying338 Ox hb F d;obtain ⟨c0,T,a7,Y⟩:=i.lookup_int Tx underlying338 underlying3 (Ox _) d
 have X:c0=v:=by
  have e:=a7.symm.trans (A a c ha hc).2;rw [hv] at e
  injection e with e1;injection e1
 have b6:Z=.int .i64 v:=by
  rw [hL] at T;rw [<- X];injection T
 subst b6;rw [X] at Y;obtain ⟨w1,V,N,b3⟩:=i.update Tx underlying338 hn d (plainElem_int underlying3 Y)
 have b7:w1=setBlock W b (.map q g):=by
  rw [hU] at V
  injection V with _ e;exact e.symm
 subst b7;obtain ⟨c1,a4,G,_⟩:=N.lookup_int Tx underlying338 underlying3 (Ox _) d
 have b1:c1=v:=by
  rw [Maps.atKey_put_same i.isMap (Nh _ _)] at G
  injection G with e1;injection e1 with _ e2;exact e2.symm
 subst b1;obtain ⟨c9,c8,B,p,a3,_,hS⟩:=WideElems.entry_then_store jS underlying338 Ox hb F d;have M:=hE.symm.trans a3
 have b5:st=c8/\setBlock W b (.map q g)=setBlock W b (.map B p):=by
  simp only [Result.ok.injEq,Value.tuple.injEq,goInt] at M
  refine ⟨?_,M.2⟩
  have:=M.1
  simp at this
  exact Int.natCast_inj.1 this.2
 obtain ⟨rfl,b0⟩:=b5
 have a8:(setBlock W b (.map q g)).heap[b]?=some (.map B p):=by rw [b0];exact heap_setBlock_same hb _
 obtain ⟨J,o,U,a6⟩:=hS (setBlock W b (.map q g)) (.int .i64 (c1+m)) a8;obtain ⟨w2,C,s,b4⟩:=i.update Tx underlying338 hn d (plainElem_int underlying3 hw)
 have b8:w2=setBlock W b (.map J o):=by
  rw [a6] at C
  injection C with _ e;exact e.symm
 subst b8
 have a9:setBlock (setBlock W b (.map q g)) b (.map J o)=setBlock W b (.map J o):=by simp [setBlock]
 rw [a9] at U;obtain ⟨c2,a5,I,_⟩:=s.lookup_int Tx underlying338 underlying3 (Ox _) d
 have b2:c2=c1+m:=by
  rw [Maps.atKey_put_same i.isMap (Nh _ _)] at I
  injection I with e1;injection e1 with _ e2;exact e2.symm
 subst b2
 refine ⟨st,_,_,hE,hL,a4,U,a5,b3,b4,_,s,fO i.isMap A ha hc,fun a' c' hf=>?_⟩
 by_cases he:a'=a/\c'=c
 ·obtain ⟨rfl,rfl⟩:=he;exact ⟨ha,hc⟩
 ·simp only [if_neg he] at hf;exact b9 a' c' hf
end Go.Proofs.YtomiclakhjncbaaGreatDoor
namespace Go.Proofs.YtomiclakhjncbaaGreatDoor
open Go.RowKit Go.Maps Go.Proofs.Tryz
theorem iZ {f:Int->Int->Option Int} {a c m v:Int} (s:(f a c).getD 0=v) (l:v+m=0):iD f a c m=fun i j=>if i=a/\j=c then none else if i=a/\j=c then some (v+m) else f i j:=by
 funext i j
 unfold iD
 by_cases he:i=a/\j=c
 ·rw [if_pos he,if_pos he,s,if_pos l]
 ·rw [if_neg he,if_neg he,if_neg he]
theorem iG {f:Int->Int->Option Int} {a c m v:Int} (s:(f a c).getD 0=v) (l:v+m≠0):iD f a c m=fun i j=>if i=a/\j=c then some (v+m) else f i j:=by
 funext i j
 unfold iD
 by_cases he:i=a/\j=c
 ·rw [if_pos he,if_pos he,s,if_neg l]
 ·rw [if_neg he,if_neg he]
theorem U6 (b n:Nat) (f:Int->Int->Option Int) (a c m v:Int) (w:World) (h:F5 w b n f) (B:Bf a) (C:Bf c) (s:(f a c).getD 0=v) (a5:-9000000000000000000<=v+m/\v+m<=9000000000000000000) (hn:n<maxLen) :
  Calls prog 315 #[.map (some b),.agg #[qzI a,qzI c],qzI m] w fun e w'=>e=.returned (.tuple #[])/\F5 w' b (n+1) (iD f a c m)/\w.grownBy w' (some b):=by
 obtain ⟨p,d⟩:∃ p,p=w.alloc (.cells #[qzI a,qzI c] 128):=⟨_,rfl⟩;have a6:b<w.heap.size:=h.lt
 have V:p.cell? ⟨w.heap.size,0,none⟩=some (qzI a):=by rw [d];simp
 have W:p.cell? ⟨w.heap.size,1,none⟩=some (qzI c):=by rw [d];simp
 have q:w.heap.size<p.heap.size:=by rw [d];simp
 have M:w.grownBy p (some b):=by rw [d];exact World.grownBy_alloc w _ _
 have S:F5 p b n f:=by rw [d];exact h.kept (World.grownBy_alloc w _ none) (by simp)
 have T:F5 p.drew b n f:=S
 obtain ⟨st,W1,A,hE,hL,a3,hS,a4,u,g,U⟩:=gM (m:=m) T B C s (WalkArith.wf_i64 (by omega)) hn
 have a7:IntKind.i64.wrap (v+m)=v+m:=by simp [IntKind.wrap,IntKind.bits,IntKind.signed];omega
 have x0:=(u.cell_far ⟨w.heap.size,0,none⟩ q (by simp;omega)).trans V
 have x1:=(u.cell_far ⟨w.heap.size,1,none⟩ q (by simp;omega)).trans W
 have y0:=(g.cell_far ⟨w.heap.size,0,none⟩ q (by simp;omega)).trans V
 have y1:=(g.cell_far ⟨w.heap.size,1,none⟩ q (by simp;omega)).trans W
 have N:p.grownBy A (some b):=⟨g.os,g.tape,g.output,g.size,g.block⟩;have O:Hid (w.grownBy A (some b)):=M.trans N
 have R:Hid (F5 A b (n+1) (fun i j=>if i=a/\j=c then some (v+m) else f i j)):=U
 have G:Hid _:=L9 B C;have X:Hid (Bf a):=B;have Y:Hid (Bf c):=C;clear h S T U u g M N B C
 by_cases l:v+m=0
 ·have J:(v+m == 0)=true:=by simpa using l
  have z:Hid _:=iZ s l;clear l s
  go_enter func315,ntmps315
  go_upto_region 1 with fail
  rw [<- d];clear d
  go_region
  all_goals
   obtain ⟨D,t,k,y⟩:=R.o;have Z:Hid (A.ownsMap prog 128 (plainElem (H:=Unit) prog 3) b (n+1) D):=t;have HV:Hid _:=eN k X.o Y.o;have I:Hid _:=y;clear t k y
   go_wp2_with (at_delete;refine wpList_delete_own _ rfl _ _ 338 128 rfl 3 Tx underlying338 _ b (n+1) D rfl Z.o _ _ rfl G.o ?_;intro w3 x r)
   have L:=r.grown;go_end0;refine ⟨rfl,⟨_,x,?_,?_⟩,O.o.trans L⟩
   ·rw [z.o];exact HV.o
   ·rw [z.o]
    intro i j F
    by_cases he:i=a/\j=c
    ·simp only [if_pos he] at F;exact absurd rfl F
    ·simp only [if_neg he] at F
     exact I.o i j (by simp only [if_neg he];exact F)
 ·have J:(v+m == 0)=false:=by simpa using l
  have z:Hid _:=iG s l;clear l s
  go_enter func315,ntmps315
  go_upto_region 1 with fail
  rw [<- d];clear d
  go_region
  all_goals
   go_wp2;go_end0;refine ⟨rfl,?_,O.o⟩
   rw [z.o];exact R.o
theorem eZ (w:World):F5 (w.alloc (.map #[] 0)) w.heap.size 0 (Cf []) :=
 ⟨.map [],World.ownsMap_made w prog 128 (plainElem (H:=Unit) prog 3),fun _ _ _ _=>⟨rfl,rfl⟩,fun _ _ h=>absurd rfl h⟩
theorem tP {ls:List Ln} (h:∀ x ∈ ls,-1000000000000<=x.2.2/\x.2.2<=1000000000000) (a c:Int):-1000000000000<=(Cf ls a c).getD 0/\(Cf ls a c).getD 0<=1000000000000:=by
 cases hl:Cf ls a c with
 | none=>simp
 | some v=>have:=h _ (Mr hl);simpa using this
theorem Ut (C:Option Addr) (cap:Nat) (ls:List Ln) (w:World) (hz:Ai w C ls) (hn:ls.length<=400) (hs:Va ls) (R:NZ ls) (N:∀ x ∈ ls,-1000000000000<=x.2.2/\x.2.2<=1000000000000) (S:∀ x ∈ ls,Hw x) :
  Calls prog 314 #[.agg #[.slice C ls.length cap]] w fun e w'=>∃ g,e=.returned (.map (some g))/\w.heap.size<=g/\F5 w' g ls.length (Cf ls)/\BW w w':=by
 have b5:=@run_makeMap prog;obtain ⟨W,D⟩:∃ W,W=(w.alloc (.cells #[.slice C ls.length cap] 29)).alloc (.map #[] 0):=⟨_,rfl⟩
 have bW:BW w W:=by rw [D];go_grown
 have b3:W.heap.size=w.heap.size+2:=by rw [D];simp
 have k0:W.cell? ⟨w.heap.size,0,none⟩=some (.slice C ls.length cap):=by rw [D];simp [go_sem]
 have M0:F5 W (w.heap.size+1) 0 (Cf []):=by
  have:=eZ (w.alloc (.cells #[.slice C ls.length cap] 29))
  rw [D];simpa using this
 have HZ:Hid (Ai w C ls):=hz;have HS:Hid (Va ls):=hs;have a4:Hid (NZ ls):=R;have F:Hid (∀ x ∈ ls,-1000000000000<=x.2.2/\x.2.2<=1000000000000):=N;have a6:Hid (∀ x ∈ ls,Hw x):=S;have a5:Hid (BW w W):=bW;have I:Hid _:=M0;clear hz hs R N S bW M0
 go_enter func314,ntmps314
 go_wp2;rw [<- D];clear D
 go_loopw [10] (fun i wr=>∃ k:Nat,k<=ls.length/\i=qzI k/\F5 wr (w.heap.size+1) k (Cf (ls.take k))/\BW w wr) (fun i _=>ls.length - (intOf i).toNat)
 case atStart=>exact ⟨0,Nat.zero_le _,rfl,I.o,a5.o⟩
 case round =>
  obtain ⟨k,hk,rfl,hM,f⟩:=hrel;have Y:Hid (F5 wr (w.heap.size+1) k (Cf (ls.take k))):=hM;have a9:w.heap.size<=wr.heap.size:=f.size;have b0:w.heap.size+1<wr.heap.size:=hM.lt;clear hM I
  by_cases hlt:k<ls.length
  ·have a8:(k:Int)<(ls.length:Int):=by omega
   obtain ⟨b,off,rfl,b4,c1,c2,c3⟩:=(HZ.o.below f).at hlt;have m:=fN HS.o a4.o hlt;have A:=F.o _ (Ex hlt);have B:=a6.o _ (Ex hlt);obtain ⟨⟨x,y,z⟩,hx⟩:∃ x,Cg ls k=x:=⟨_,rfl⟩;rw [hx] at c1 c2 c3 m A B
   simp only at c1 c2 c3 m A
   have O:=tP (ls:=ls.take k) (fun q hq=>F.o q (List.mem_of_mem_take hq)) x y
   have X:Hid _:=m;have L:Hid (Bf x/\Bf y/\Bf z):=B;obtain ⟨V,s⟩:∃ V,V=wr.alloc (.cells #[qzI x,qzI y,qzI z] 113):=⟨_,rfl⟩
   have bV:BW w V:=by rw [s];exact f.alloc a9 _
   have b2:V.heap.size=wr.heap.size+1:=by rw [s];simp
   have MV:F5 V (w.heap.size+1) k (Cf (ls.take k)):=by rw [s];exact Y.o.kept (World.grownBy_alloc wr _ none) (by simp)
   have v0:V.cell? ⟨wr.heap.size,0,none⟩=some (qzI x):=by rw [s];simp
   have v1:V.cell? ⟨wr.heap.size,1,none⟩=some (qzI y):=by rw [s];simp
   have v2:V.cell? ⟨wr.heap.size,2,none⟩=some (qzI z):=by rw [s];simp
   obtain ⟨t,ht⟩:∃ t,(Cf (ls.take k) x y).getD 0=t:=⟨_,rfl⟩;rw [ht] at O;have HT:Hid _:=ht;have G:Hid (BW w V):=bV;have a3:Hid (F5 V (w.heap.size+1) k (Cf (ls.take k))):=MV;have J:Hid (w.heap.size<=V.heap.size):=bV.size
   have d:Hid (∀ u,BW V u->u.cell? ⟨wr.heap.size,0,none⟩=some (qzI x)/\u.cell? ⟨wr.heap.size,1,none⟩=some (qzI y)/\u.cell? ⟨wr.heap.size,2,none⟩=some (qzI z)):=fun u hu =>
    ⟨(hu.cell (p:=⟨wr.heap.size,0,none⟩) (by show wr.heap.size<V.heap.size;omega)).trans v0,(hu.cell (p:=⟨wr.heap.size,1,none⟩) (by show wr.heap.size<V.heap.size;omega)).trans v1,(hu.cell (p:=⟨wr.heap.size,2,none⟩) (by show wr.heap.size<V.heap.size;omega)).trans v2⟩
   have n:Hid (∀ u,BW V u->Calls prog 315 #[.map (some (w.heap.size+1)),.agg #[qzI x,qzI y],qzI z] u fun e u'=>e=.returned (.tuple #[])/\F5 u' (w.heap.size+1) (k+1) (Cf (ls.take (k+1)))/\u.grownBy u' (some (w.heap.size+1))):=fun u hu=>by
    rw [X.o]
    exact U6 (w.heap.size+1) k _ x y z t u (a3.o.below hu) L.o.1 L.o.2.1 HT.o ⟨by omega,by omega⟩ (by unfold maxLen;omega)
   clear m hx ht B A MV bV f O;go_upto_region 5 with fail
   rw [<- s];clear s c1 c2 c3
   go_region_held3 (fun u=>u.cell? ⟨wr.heap.size,0,none⟩=some (qzI x)/\u.cell? ⟨wr.heap.size,1,none⟩=some (qzI y)/\u.cell? ⟨wr.heap.size,2,none⟩=some (qzI z)) (first | exact ⟨v0,v1,v2⟩ | exact d.o _ l | exact r.o) ((first
    | (go_at_call 107;refine (kH _ _ _ _).mono ?_;rintro e T ⟨rfl,b1⟩;have l:BW V T:=bR.drew.trans b1)
    | (go_at_call 315;refine (n.o _ l).mono ?_;rintro e U ⟨rfl,m2,M⟩;have r:Hid (U.cell? ⟨wr.heap.size,0,none⟩=some (.int .i64 x)/\U.cell? ⟨wr.heap.size,1,none⟩=some (.int .i64 y)/\U.cell? ⟨wr.heap.size,2,none⟩=some (.int .i64 z)):=⟨(M.cell_far ⟨wr.heap.size,0,none⟩ (by have:=l.size;show wr.heap.size<T.heap.size;omega) (by simp;omega)).trans (d.o _ l).1,(M.cell_far ⟨wr.heap.size,1,none⟩ (by have:=l.size;show wr.heap.size<T.heap.size;omega) (by simp;omega)).trans (d.o _ l).2.1,(M.cell_far ⟨wr.heap.size,2,none⟩ (by have:=l.size;show wr.heap.size<T.heap.size;omega) (by simp;omega)).trans (d.o _ l).2.2⟩)))
   all_goals
    have Z:Hid _:=m2
    have q2:BW w U:=(G.o.trans (l.mono J.o)).grown M (G.o.trans (l.mono J.o)).size (fun j hj=>by cases hj;omega)
    clear m2 M l b1 d n r;go_wp2
    go_roundw
    case rel=>exact ⟨k+1,by omega,by go_num,Z.o,q2⟩
    case measure=>simp [intOf];omega
  ·have a7:k=ls.length:=by omega
   subst a7
   have a8:¬ (ls.length:Int)<(ls.length:Int):=by omega
   rw [List.take_length] at Y;go_wp2;go_ret
   exact ⟨w.heap.size+1,rfl,by omega,Y.o,f⟩
end Go.Proofs.YtomiclakhjncbaaGreatDoor
namespace Go.Proofs.YtomiclakhjncbaaGreatDoor
open Go.RowKit Go.Proofs.Tryz
def R2 (t:Int) (zs:List Int):Bool:=Dn t && Ct zs
def bsT (t:Int) (zs:List Int):Int:=if R2 t zs=true then t else 0
def bsL (t:Int) (zs:List Int):List Int:=if R2 t zs=true then zs else []
def bk0 (t:Int) (a:Option Addr) (n k:Nat):Value:=.agg #[qzI t,.slice a n k,.slice none 0 0,.slice none 0 0,.slice none 0 0,.slice none 0 0]
def BsR (w:World) (t:Int) (zs:List Int) (e:Ending) (w':World):Prop :=
 ∃ a k,e=.returned (.tuple #[bk0 (bsT t zs) a (bsL t zs).length k,.bool (R2 t zs)])/\w'.ownsRow w.heap.size 3 1 (.slice a (bsL t zs).length k) (bsL t zs).length ((bsL t zs).map (Value.int .i64))/\BW w w'
def put6 (u:World) (h:Nat) (a b c d e f:Value):World:=((((((u.setCell (qzA h 0) a).setCell (qzA h 1) b).setCell (qzA h 2) c).setCell (qzA h 3) d).setCell (qzA h 4) e).setCell (qzA h 5) f)
theorem _root_.Go.RowKit.Below.put6 {w u:World} (h:BW w u) (a b c d e f:Value):Below w.heap.size w (put6 u w.heap.size a b c d e f) :=
 (((((h.setCell nL _).setCell nL _).setCell nL _).setCell nL _).setCell nL _).setCell nL _
theorem zM {w u:World} {t:Int} {zs:List Int} (h:R2 t zs=false) (b:BW w u):BsR w t zs (.returned (.tuple #[bk0 0 none 0 0,.bool false])) u:=by
 have e1:bsT t zs=0:=by simp [bsT,h]
 have e2:bsL t zs=[]:=by simp [bsL,h]
 refine ⟨none,0,?_,?_,b⟩
 ·rw [e1,e2,h];rfl
 ·rw [e2];exact World.ownsRow_nil _ _ _ _
theorem Aa9 {w:World} {base base' n:Nat} {v:Value} {xs:List Value} (h:w.ownsRow base 3 1 v n xs) (hb:base'<=base):w.ownsRow base' 3 1 v n xs:=by
 obtain ⟨U,I⟩:=h;refine ⟨U,?_⟩
 rcases I with I | ⟨g,cap,cQ,e1,e2,e3⟩
 ·exact .inl I
 ·exact .inr ⟨g,cap,cQ,e1,Nat.le_trans hb e2,e3⟩
theorem yP (u:World) (h:Nat) (a b c d e f:Value):u.grownBy (put6 u h a b c d e f) (some h):=by
 have g:∀ (x:World) (k:Nat) (v:Value),x.grownBy (x.setCell (qzA h k) v) (some h):=fun x k v=>⟨rfl,rfl,rfl,by simp,fun j _ hj=>Below.heap_setCell _ _ _ _ (fun e=>hj (by rw [e]))⟩
 exact (((((g _ _ _).trans (g _ _ _)).trans (g _ _ _)).trans (g _ _ _)).trans (g _ _ _)).trans (g _ _ _)
theorem Abj {w u:World} {t:Int} {zs:List Int} {a:Option Addr} {k base:Nat} (h:R2 t zs=true) (o:u.ownsRow base 3 1 (.slice a zs.length k) zs.length (zs.map (Value.int .i64))) (hb:w.heap.size+1<=base) (b:BW w u) :
  BsR w t zs (.returned (.tuple #[bk0 t a zs.length k,.bool true])) (put6 u w.heap.size (qzI t) (.slice a zs.length k) (.slice none 0 0) (.slice none 0 0) (.slice none 0 0) (.slice none 0 0)):=by
 have e1:bsT t zs=t:=by simp [bsT,h]
 have e2:bsL t zs=zs:=by simp [bsL,h]
 refine ⟨a,k,?_,?_,b.put6 _ _ _ _ _ _⟩
 ·rw [e1,e2,h]
 ·rw [e2]
  exact Aa9 (o.kept (yP _ _ _ _ _ _ _ _) (.inr fun hh=>by have:=(o.lt _ hh).1;omega)) (by omega)
theorem vA (t:Int) (B:Option Addr) (c:Nat) (zs:List Int) (w:World) (Y:Aw w B zs) (hn:zs.length<=1048576) :
  Calls prog 44 #[qzI t,.slice B zs.length c] w (BsR w t zs):=by
 obtain ⟨W,s⟩:∃ W,W=w.alloc (.cells #[qzI 0,.slice none 0 0,.slice none 0 0,.slice none 0 0,.slice none 0 0,.slice none 0 0] 31):=⟨_,rfl⟩
 have c0:W.cell? ⟨w.heap.size,0,none⟩=some (qzI 0):=by rw [s];simp
 have z0:W.frozen? ⟨w.heap.size,0,none⟩=false:=by rw [s];simp [go_sem]
 have c1:W.cell? ⟨w.heap.size,1,none⟩=some (.slice none 0 0):=by rw [s];simp
 have z1:W.frozen? ⟨w.heap.size,1,none⟩=false:=by rw [s];simp [go_sem]
 have c2:W.cell? ⟨w.heap.size,2,none⟩=some (.slice none 0 0):=by rw [s];simp
 have z2:W.frozen? ⟨w.heap.size,2,none⟩=false:=by rw [s];simp [go_sem]
 have c3:W.cell? ⟨w.heap.size,3,none⟩=some (.slice none 0 0):=by rw [s];simp
 have z3:W.frozen? ⟨w.heap.size,3,none⟩=false:=by rw [s];simp [go_sem]
 have c4:W.cell? ⟨w.heap.size,4,none⟩=some (.slice none 0 0):=by rw [s];simp
 have z4:W.frozen? ⟨w.heap.size,4,none⟩=false:=by rw [s];simp [go_sem]
 have c5:W.cell? ⟨w.heap.size,5,none⟩=some (.slice none 0 0):=by rw [s];simp
 have z5:W.frozen? ⟨w.heap.size,5,none⟩=false:=by rw [s];simp [go_sem]
 have O:BW w W:=by rw [s];go_grown
 have H:W.heap.size=w.heap.size+1:=by rw [s];simp
 have M:Hid _:=s;have N:Hid (Aw W B zs):=Y.below O;have D:Hid (BW w W):=O;have i:Hid (W.heap.size=w.heap.size+1):=H;clear Y O H s
 have z:Hid (∀ u,Calls prog 99 #[qzI t] u fun e w'=>e=.returned (.bool (Dn t))/\w'=u):=fun u=>Bm t u
 have A:Hid (Calls prog 100 #[.slice B zs.length c] W fun e w'=>e=.returned (.bool (Ct zs))/\BW W w'):=(Pp B c zs W N.o (by omega)).mono fun _ _ ⟨h,I⟩=>⟨h,I ▸ bR⟩
 cases hd:Dn t
 ·have F:Hid (R2 t zs=false):=by simp [Hid,R2,hd]
  rw [hd] at z
  go_enter func44,ntmps44
  go_upto_region 1 with fail
  rw [<- M.o];go_wp2_with fail
  refine (z.o _).mono ?_;rintro e Z ⟨rfl,q⟩;replace q:=q.symm;subst q;go_wp2
  refine bodyPost_ret (by simp [results,results44,go_sem,c0,c1,c2,c3,c4,c5];try rfl) rfl ?_
  exact zM F.o (D.o.put6 _ _ _ _ _ _)
 ·rw [hd] at z
  cases ho:Ct zs
  ·have F:Hid (R2 t zs=false):=by simp [Hid,R2,ho]
   rw [ho] at A
   go_enter func44,ntmps44
   go_upto_region 1 with fail
   rw [<- M.o];go_wp2_with fail
   refine (z.o _).mono ?_;rintro e Z ⟨rfl,q⟩;replace q:=q.symm;subst q;go_wp2_with fail
   refine A.o.mono ?_;rintro e r ⟨rfl,l⟩
   replace c0:=(l.cell (p:=⟨w.heap.size,0,none⟩) (by have:=i.o;show w.heap.size<W.heap.size;omega)).trans c0
   replace z0:=(l.frozen (p:=⟨w.heap.size,0,none⟩) (by have:=i.o;show w.heap.size<W.heap.size;omega)).trans z0
   replace c1:=(l.cell (p:=⟨w.heap.size,1,none⟩) (by have:=i.o;show w.heap.size<W.heap.size;omega)).trans c1
   replace z1:=(l.frozen (p:=⟨w.heap.size,1,none⟩) (by have:=i.o;show w.heap.size<W.heap.size;omega)).trans z1
   replace c2:=(l.cell (p:=⟨w.heap.size,2,none⟩) (by have:=i.o;show w.heap.size<W.heap.size;omega)).trans c2
   replace z2:=(l.frozen (p:=⟨w.heap.size,2,none⟩) (by have:=i.o;show w.heap.size<W.heap.size;omega)).trans z2
   replace c3:=(l.cell (p:=⟨w.heap.size,3,none⟩) (by have:=i.o;show w.heap.size<W.heap.size;omega)).trans c3
   replace z3:=(l.frozen (p:=⟨w.heap.size,3,none⟩) (by have:=i.o;show w.heap.size<W.heap.size;omega)).trans z3
   replace c4:=(l.cell (p:=⟨w.heap.size,4,none⟩) (by have:=i.o;show w.heap.size<W.heap.size;omega)).trans c4
   replace z4:=(l.frozen (p:=⟨w.heap.size,4,none⟩) (by have:=i.o;show w.heap.size<W.heap.size;omega)).trans z4
   replace c5:=(l.cell (p:=⟨w.heap.size,5,none⟩) (by have:=i.o;show w.heap.size<W.heap.size;omega)).trans c5
   replace z5:=(l.frozen (p:=⟨w.heap.size,5,none⟩) (by have:=i.o;show w.heap.size<W.heap.size;omega)).trans z5
   have C:Hid (BW w r):=next D.o l;have G:Hid (Aw r B zs):=N.o.below l
   have m:Hid (w.heap.size+1<=r.heap.size):=by have U:=i.o;have I:=l.size;rw [Hid];omega
   clear l;go_wp2
   refine bodyPost_ret (by simp [results,results44,go_sem,c0,c1,c2,c3,c4,c5];try rfl) rfl ?_
   exact zM F.o (C.o.put6 _ _ _ _ _ _)
  ·have F:Hid (R2 t zs=true):=by simp [Hid,R2,ho,hd]
   rw [ho] at A
   go_enter func44,ntmps44
   go_upto_region 1 with fail
   rw [<- M.o];go_wp2_with fail
   refine (z.o _).mono ?_;rintro e Z ⟨rfl,q⟩;replace q:=q.symm;subst q;go_wp2_with fail
   refine A.o.mono ?_;rintro e r ⟨rfl,l⟩
   replace c0:=(l.cell (p:=⟨w.heap.size,0,none⟩) (by have:=i.o;show w.heap.size<W.heap.size;omega)).trans c0
   replace z0:=(l.frozen (p:=⟨w.heap.size,0,none⟩) (by have:=i.o;show w.heap.size<W.heap.size;omega)).trans z0
   replace c1:=(l.cell (p:=⟨w.heap.size,1,none⟩) (by have:=i.o;show w.heap.size<W.heap.size;omega)).trans c1
   replace z1:=(l.frozen (p:=⟨w.heap.size,1,none⟩) (by have:=i.o;show w.heap.size<W.heap.size;omega)).trans z1
   replace c2:=(l.cell (p:=⟨w.heap.size,2,none⟩) (by have:=i.o;show w.heap.size<W.heap.size;omega)).trans c2
   replace z2:=(l.frozen (p:=⟨w.heap.size,2,none⟩) (by have:=i.o;show w.heap.size<W.heap.size;omega)).trans z2
   replace c3:=(l.cell (p:=⟨w.heap.size,3,none⟩) (by have:=i.o;show w.heap.size<W.heap.size;omega)).trans c3
   replace z3:=(l.frozen (p:=⟨w.heap.size,3,none⟩) (by have:=i.o;show w.heap.size<W.heap.size;omega)).trans z3
   replace c4:=(l.cell (p:=⟨w.heap.size,4,none⟩) (by have:=i.o;show w.heap.size<W.heap.size;omega)).trans c4
   replace z4:=(l.frozen (p:=⟨w.heap.size,4,none⟩) (by have:=i.o;show w.heap.size<W.heap.size;omega)).trans z4
   replace c5:=(l.cell (p:=⟨w.heap.size,5,none⟩) (by have:=i.o;show w.heap.size<W.heap.size;omega)).trans c5
   replace z5:=(l.frozen (p:=⟨w.heap.size,5,none⟩) (by have:=i.o;show w.heap.size<W.heap.size;omega)).trans z5
   have C:Hid (BW w r):=next D.o l;have G:Hid (Aw r B zs):=N.o.below l
   have m:Hid (w.heap.size+1<=r.heap.size):=by have U:=i.o;have I:=l.size;rw [Hid];omega
   clear l;go_wp2_with fail
   refine (fC r.heap.size B c zs _ (by simp) (G.o.below (bR.alloc nL _)) (by omega)).mono ?_
   rintro e S ⟨a2,k2,rfl,R,b3⟩
   have y:BW r S:=(bR.alloc nL _).trans (b3.mono (by simp))
   replace c0:=(y.cell (p:=⟨w.heap.size,0,none⟩) (by have:=m.o;show w.heap.size<r.heap.size;omega)).trans c0
   replace z0:=(y.frozen (p:=⟨w.heap.size,0,none⟩) (by have:=m.o;show w.heap.size<r.heap.size;omega)).trans z0
   replace c1:=(y.cell (p:=⟨w.heap.size,1,none⟩) (by have:=m.o;show w.heap.size<r.heap.size;omega)).trans c1
   replace z1:=(y.frozen (p:=⟨w.heap.size,1,none⟩) (by have:=m.o;show w.heap.size<r.heap.size;omega)).trans z1
   replace c2:=(y.cell (p:=⟨w.heap.size,2,none⟩) (by have:=m.o;show w.heap.size<r.heap.size;omega)).trans c2
   replace z2:=(y.frozen (p:=⟨w.heap.size,2,none⟩) (by have:=m.o;show w.heap.size<r.heap.size;omega)).trans z2
   replace c3:=(y.cell (p:=⟨w.heap.size,3,none⟩) (by have:=m.o;show w.heap.size<r.heap.size;omega)).trans c3
   replace z3:=(y.frozen (p:=⟨w.heap.size,3,none⟩) (by have:=m.o;show w.heap.size<r.heap.size;omega)).trans z3
   replace c4:=(y.cell (p:=⟨w.heap.size,4,none⟩) (by have:=m.o;show w.heap.size<r.heap.size;omega)).trans c4
   replace z4:=(y.frozen (p:=⟨w.heap.size,4,none⟩) (by have:=m.o;show w.heap.size<r.heap.size;omega)).trans z4
   replace c5:=(y.cell (p:=⟨w.heap.size,5,none⟩) (by have:=m.o;show w.heap.size<r.heap.size;omega)).trans c5
   replace z5:=(y.frozen (p:=⟨w.heap.size,5,none⟩) (by have:=m.o;show w.heap.size<r.heap.size;omega)).trans z5
   have J:Hid (BW w S):=next C.o y
   have L:Hid (S.ownsRow (w.heap.size+1) 3 1 (.slice a2 zs.length k2) zs.length (zs.map (Value.int .i64))):=Aa9 R (by have:=m.o;simp;omega)
   clear y R b3;go_wp2
   refine bodyPost_ret (by simp [results,results44,go_sem,c0,c1,c2,c3,c4,c5];try rfl) rfl ?_
   exact Abj F.o L.o nL J.o
theorem vB (t:Int) (B:Option Addr) (c:Nat) (zs:List Int) (w:World) (Y:Aw w B zs) (hn:zs.length<=1048576) :
  Calls prog 45 #[qzI t,.slice B zs.length c] w (BsR w t zs):=by
 obtain ⟨W,s⟩:∃ W,W=w.alloc (.cells #[qzI 0,.slice none 0 0,.slice none 0 0,.slice none 0 0,.slice none 0 0,.slice none 0 0] 31):=⟨_,rfl⟩
 have c0:W.cell? ⟨w.heap.size,0,none⟩=some (qzI 0):=by rw [s];simp
 have z0:W.frozen? ⟨w.heap.size,0,none⟩=false:=by rw [s];simp [go_sem]
 have c1:W.cell? ⟨w.heap.size,1,none⟩=some (.slice none 0 0):=by rw [s];simp
 have z1:W.frozen? ⟨w.heap.size,1,none⟩=false:=by rw [s];simp [go_sem]
 have c2:W.cell? ⟨w.heap.size,2,none⟩=some (.slice none 0 0):=by rw [s];simp
 have z2:W.frozen? ⟨w.heap.size,2,none⟩=false:=by rw [s];simp [go_sem]
 have c3:W.cell? ⟨w.heap.size,3,none⟩=some (.slice none 0 0):=by rw [s];simp
 have z3:W.frozen? ⟨w.heap.size,3,none⟩=false:=by rw [s];simp [go_sem]
 have c4:W.cell? ⟨w.heap.size,4,none⟩=some (.slice none 0 0):=by rw [s];simp
 have z4:W.frozen? ⟨w.heap.size,4,none⟩=false:=by rw [s];simp [go_sem]
 have c5:W.cell? ⟨w.heap.size,5,none⟩=some (.slice none 0 0):=by rw [s];simp
 have z5:W.frozen? ⟨w.heap.size,5,none⟩=false:=by rw [s];simp [go_sem]
 have O:BW w W:=by rw [s];go_grown
 have H:W.heap.size=w.heap.size+1:=by rw [s];simp
 have M:Hid _:=s;have N:Hid (Aw W B zs):=Y.below O;have D:Hid (BW w W):=O;have i:Hid (W.heap.size=w.heap.size+1):=H;clear Y O H s
 have z:Hid (∀ u,Calls prog 102 #[qzI t] u fun e w'=>e=.returned (.bool (Dn t))/\w'=u):=fun u=>A9 t u
 have A:Hid (Calls prog 103 #[.slice B zs.length c] W fun e w'=>e=.returned (.bool (Ct zs))/\BW W w'):=Rk B c zs W N.o (by omega)
 cases hd:Dn t
 ·have F:Hid (R2 t zs=false):=by simp [Hid,R2,hd]
  rw [hd] at z
  go_enter func45,ntmps45
  go_upto_region 1 with fail
  rw [<- M.o];go_wp2_with fail
  refine (z.o _).mono ?_;rintro e Z ⟨rfl,q⟩;replace q:=q.symm;subst q;go_wp2
  refine bodyPost_ret (by simp [results,results45,go_sem,c0,c1,c2,c3,c4,c5];try rfl) rfl ?_
  exact zM F.o (D.o.put6 _ _ _ _ _ _)
 ·rw [hd] at z
  cases ho:Ct zs
  ·have F:Hid (R2 t zs=false):=by simp [Hid,R2,ho]
   rw [ho] at A
   go_enter func45,ntmps45
   go_upto_region 1 with fail
   rw [<- M.o];go_wp2_with fail
   refine (z.o _).mono ?_;rintro e Z ⟨rfl,q⟩;replace q:=q.symm;subst q;go_wp2_with fail
   refine A.o.mono ?_;rintro e r ⟨rfl,l⟩
   replace c0:=(l.cell (p:=⟨w.heap.size,0,none⟩) (by have:=i.o;show w.heap.size<W.heap.size;omega)).trans c0
   replace z0:=(l.frozen (p:=⟨w.heap.size,0,none⟩) (by have:=i.o;show w.heap.size<W.heap.size;omega)).trans z0
   replace c1:=(l.cell (p:=⟨w.heap.size,1,none⟩) (by have:=i.o;show w.heap.size<W.heap.size;omega)).trans c1
   replace z1:=(l.frozen (p:=⟨w.heap.size,1,none⟩) (by have:=i.o;show w.heap.size<W.heap.size;omega)).trans z1
   replace c2:=(l.cell (p:=⟨w.heap.size,2,none⟩) (by have:=i.o;show w.heap.size<W.heap.size;omega)).trans c2
   replace z2:=(l.frozen (p:=⟨w.heap.size,2,none⟩) (by have:=i.o;show w.heap.size<W.heap.size;omega)).trans z2
   replace c3:=(l.cell (p:=⟨w.heap.size,3,none⟩) (by have:=i.o;show w.heap.size<W.heap.size;omega)).trans c3
   replace z3:=(l.frozen (p:=⟨w.heap.size,3,none⟩) (by have:=i.o;show w.heap.size<W.heap.size;omega)).trans z3
   replace c4:=(l.cell (p:=⟨w.heap.size,4,none⟩) (by have:=i.o;show w.heap.size<W.heap.size;omega)).trans c4
   replace z4:=(l.frozen (p:=⟨w.heap.size,4,none⟩) (by have:=i.o;show w.heap.size<W.heap.size;omega)).trans z4
   replace c5:=(l.cell (p:=⟨w.heap.size,5,none⟩) (by have:=i.o;show w.heap.size<W.heap.size;omega)).trans c5
   replace z5:=(l.frozen (p:=⟨w.heap.size,5,none⟩) (by have:=i.o;show w.heap.size<W.heap.size;omega)).trans z5
   have C:Hid (BW w r):=next D.o l;have G:Hid (Aw r B zs):=N.o.below l
   have m:Hid (w.heap.size+1<=r.heap.size):=by have U:=i.o;have I:=l.size;rw [Hid];omega
   clear l;go_wp2
   refine bodyPost_ret (by simp [results,results45,go_sem,c0,c1,c2,c3,c4,c5];try rfl) rfl ?_
   exact zM F.o (C.o.put6 _ _ _ _ _ _)
  ·have F:Hid (R2 t zs=true):=by simp [Hid,R2,ho,hd]
   rw [ho] at A
   go_enter func45,ntmps45
   go_upto_region 1 with fail
   rw [<- M.o];go_wp2_with fail
   refine (z.o _).mono ?_;rintro e Z ⟨rfl,q⟩;replace q:=q.symm;subst q;go_wp2_with fail
   refine A.o.mono ?_;rintro e r ⟨rfl,l⟩
   replace c0:=(l.cell (p:=⟨w.heap.size,0,none⟩) (by have:=i.o;show w.heap.size<W.heap.size;omega)).trans c0
   replace z0:=(l.frozen (p:=⟨w.heap.size,0,none⟩) (by have:=i.o;show w.heap.size<W.heap.size;omega)).trans z0
   replace c1:=(l.cell (p:=⟨w.heap.size,1,none⟩) (by have:=i.o;show w.heap.size<W.heap.size;omega)).trans c1
   replace z1:=(l.frozen (p:=⟨w.heap.size,1,none⟩) (by have:=i.o;show w.heap.size<W.heap.size;omega)).trans z1
   replace c2:=(l.cell (p:=⟨w.heap.size,2,none⟩) (by have:=i.o;show w.heap.size<W.heap.size;omega)).trans c2
   replace z2:=(l.frozen (p:=⟨w.heap.size,2,none⟩) (by have:=i.o;show w.heap.size<W.heap.size;omega)).trans z2
   replace c3:=(l.cell (p:=⟨w.heap.size,3,none⟩) (by have:=i.o;show w.heap.size<W.heap.size;omega)).trans c3
   replace z3:=(l.frozen (p:=⟨w.heap.size,3,none⟩) (by have:=i.o;show w.heap.size<W.heap.size;omega)).trans z3
   replace c4:=(l.cell (p:=⟨w.heap.size,4,none⟩) (by have:=i.o;show w.heap.size<W.heap.size;omega)).trans c4
   replace z4:=(l.frozen (p:=⟨w.heap.size,4,none⟩) (by have:=i.o;show w.heap.size<W.heap.size;omega)).trans z4
   replace c5:=(l.cell (p:=⟨w.heap.size,5,none⟩) (by have:=i.o;show w.heap.size<W.heap.size;omega)).trans c5
   replace z5:=(l.frozen (p:=⟨w.heap.size,5,none⟩) (by have:=i.o;show w.heap.size<W.heap.size;omega)).trans z5
   have C:Hid (BW w r):=next D.o l;have G:Hid (Aw r B zs):=N.o.below l
   have m:Hid (w.heap.size+1<=r.heap.size):=by have U:=i.o;have I:=l.size;rw [Hid];omega
   clear l
   have T:Hid ((r.alloc (.cells #[] 3)).ownsRow (w.heap.size+1) 3 1 (.slice (some ⟨r.heap.size,0,none⟩) 0 0) 0 []):=World.ownsRow_lit r #[] 0 m.o (by unfold maxLen;omega) rfl
   go_wp2_with (at_builtin;refine Gf _ rfl (.tmp 16) (.tmp 17) rfl (w.heap.size+1) _ 0 [] rfl T.o B c zs rfl (G.o.below (bR.alloc nL _)) (by omega) (by have:=m.o;simp;omega) ?_;intro v3 S R g3;obtain ⟨a2,k2,X⟩:=Fz R;rw [Nat.zero_add] at X;subst X;rw [Nat.zero_add,List.nil_append] at R;have y:BW r S:=(bR.alloc nL _).grown g3 (by simp) (fun j hj=>by have V:some r.heap.size=some j:=hj;injection V with V;omega);replace c0:=(y.cell (p:=⟨w.heap.size,0,none⟩) (by have:=m.o;show w.heap.size<r.heap.size;omega)).trans c0;replace z0:=(y.frozen (p:=⟨w.heap.size,0,none⟩) (by have:=m.o;show w.heap.size<r.heap.size;omega)).trans z0;replace c1:=(y.cell (p:=⟨w.heap.size,1,none⟩) (by have:=m.o;show w.heap.size<r.heap.size;omega)).trans c1;replace z1:=(y.frozen (p:=⟨w.heap.size,1,none⟩) (by have:=m.o;show w.heap.size<r.heap.size;omega)).trans z1;replace c2:=(y.cell (p:=⟨w.heap.size,2,none⟩) (by have:=m.o;show w.heap.size<r.heap.size;omega)).trans c2;replace z2:=(y.frozen (p:=⟨w.heap.size,2,none⟩) (by have:=m.o;show w.heap.size<r.heap.size;omega)).trans z2;replace c3:=(y.cell (p:=⟨w.heap.size,3,none⟩) (by have:=m.o;show w.heap.size<r.heap.size;omega)).trans c3;replace z3:=(y.frozen (p:=⟨w.heap.size,3,none⟩) (by have:=m.o;show w.heap.size<r.heap.size;omega)).trans z3;replace c4:=(y.cell (p:=⟨w.heap.size,4,none⟩) (by have:=m.o;show w.heap.size<r.heap.size;omega)).trans c4;replace z4:=(y.frozen (p:=⟨w.heap.size,4,none⟩) (by have:=m.o;show w.heap.size<r.heap.size;omega)).trans z4;replace c5:=(y.cell (p:=⟨w.heap.size,5,none⟩) (by have:=m.o;show w.heap.size<r.heap.size;omega)).trans c5;replace z5:=(y.frozen (p:=⟨w.heap.size,5,none⟩) (by have:=m.o;show w.heap.size<r.heap.size;omega)).trans z5)
   have J:Hid (BW w S):=next C.o y;have L:Hid (S.ownsRow (w.heap.size+1) 3 1 (.slice a2 zs.length k2) zs.length (zs.map (Value.int .i64))):=R;clear y R g3 T;go_wp2
   refine bodyPost_ret (by simp [results,results45,go_sem,c0,c1,c2,c3,c4,c5];try rfl) rfl ?_
   exact Abj F.o L.o nL J.o
theorem G3 {w:World} {g k X Z:Nat} {v u:Value} (h:g=X->k≠Z) (d:w.cell? (qzA X Z)=some u):(w.setCell (qzA g k) v).cell? (qzA X Z)=some u:=by
 rw [World.cell?_setCell_other w (qzA g k) v (b:=(qzA X Z)) (fun e=>by injection e with e1 e2;exact h e1 e2)];exact d
theorem uN {w:World} {g k:Nat} {v u:Value} (d:w.cell? (qzA g k)=some u):(w.setCell (qzA g k) v).cell? (qzA g k)=some v:=World.cell?_setCell_same w (qzA g k) v d
theorem V8 {w:World} {a b:Addr} {v:Value} (h:w.frozen? b=false):(w.setCell a v).frozen? b=false:=by simp [h]
def uB (B:Nat) (w:World) (g:Nat) (l:Option Addr) (n:Nat):Prop :=
 n=0\/∃ b off,l=some (qzA b off)/\b≠g/\b<B/\∀ j,j<n->∃ v:Int,0<=v/\v<=255/\w.cell? (qzA b (off+j))=some (.int .u8 v)
def A2 (B:Nat) (w:World) (g:Nat):Prop :=
 ∃ (l:Option Addr) (n cap:Nat) (i h:Int),0<=i/\i<=n/\n<=1048576/\(g<B/\B<=w.heap.size)/\w.cell? (qzA g 0)=some (.slice l n cap)/\w.cell? (qzA g 1)=some (qzI i) /\
  w.cell? (qzA g 2)=some (qzI h)/\w.frozen? (qzA g 1)=false/\w.frozen? (qzA g 2)=false/\uB B w g l n
theorem yV (n:Nat) (h:n<=1073741823):IntKind.i64.wrap (n:Int)=n:=by
 simp [IntKind.wrap,IntKind.bits,IntKind.signed];omega
theorem Ab5 (a:Int) (m:Nat) (hm:m<=1073741823):0<=bits .and .i64 a (m:Int)/\bits .and .i64 a (m:Int)<=m:=by
 have h:(BitVec.ofInt 64 a &&& BitVec.ofInt 64 (m:Int)).toNat<=m:=by
  rw [BitVec.toNat_and];refine Nat.le_trans Nat.and_le_right ?_;rw [BitVec.toNat_ofInt]
  omega
 have e:bits .and .i64 a (m:Int)=IntKind.i64.wrap (((BitVec.ofInt 64 a &&& BitVec.ofInt 64 (m:Int)).toNat:Nat):Int):=rfl
 rw [e,yV _ (by omega)]
 omega
theorem wK (a:Int):0<=bits .and .i64 a 255/\bits .and .i64 a 255<=255:=Ab5 a 255 (by omega)
theorem uW (w:World) (g k:Nat) (v:Value):w.grownBy (w.setCell (qzA g k) v) (some g) :=
 ⟨rfl,rfl,rfl,by simp,fun j _ hj=>Below.heap_setCell _ _ _ _ (fun e=>hj (by rw [e]))⟩
theorem tZ {w w':World} {row:Option Nat} (h:w.grownBy w' row) (n:Nat):w.grownBy (w'.drewN n) row:=⟨h.os,h.tape,h.output,h.size,h.block⟩
theorem wG {B:Nat} {w:World} {g k n:Nat} {v:Value} {l:Option Addr} (h:uB B w g l n):uB B (w.setCell (qzA g k) v) g l n:=by
 rcases h with h | ⟨b,off,C,A,D,h4⟩
 ·exact .inl h
 ·refine .inr ⟨b,off,C,A,D,fun j hj=>?_⟩
  obtain ⟨x,G,I,T⟩:=h4 j hj
  exact ⟨x,G,I,G3 (fun e=>absurd e.symm A) T⟩
theorem xQ {B:Nat} {w:World} {g:Nat} (d:A2 B w g) (H:Int):A2 B (w.setCell (qzA g 2) (qzI H)) g:=by
 obtain ⟨l,n,cap,i,h,C,A,D,hg,c0,c1,c2,f1,f2,hb⟩:=d
 exact ⟨l,n,cap,i,H,C,A,D,by simpa using hg,G3 (by omega) c0,G3 (by omega) c1,uN c2,V8 f1,V8 f2,wG hb⟩
theorem Aby {B:Nat} {w:World} {g n cap:Nat} {l:Option Addr} (d:A2 B w g) (Y:w.cell? (qzA g 0)=some (.slice l n cap)) (j:Int) (j0:0<=j) (j1:j<=n):A2 B (w.setCell (qzA g 1) (qzI j)) g:=by
 obtain ⟨a3,n',N,i,h,C,A,D,hg,c0,c1,c2,f1,f2,hb⟩:=d;rw [Y] at c0
 obtain ⟨rfl,rfl,rfl⟩:l=a3/\n=n'/\cap=N:=by simpa using c0
 exact ⟨l,n,cap,j,h,j0,j1,D,by simpa using hg,G3 (by omega) Y,uN c1,G3 (by omega) c2,V8 f1,V8 f2,wG hb⟩
theorem L1 {B:Nat} {w w':World} {g:Nat} (d:A2 B w g) (hb:Below B w w'):A2 B w' g:=by
 obtain ⟨l,n,cap,i,h,C,A,D,hg,c0,c1,c2,f1,f2,hy⟩:=d;have hl:=hg.1;refine ⟨l,n,cap,i,h,C,A,D,⟨hg.1,Nat.le_trans hg.2 hb.size⟩,(hb.cell hl).trans c0,(hb.cell hl).trans c1,(hb.cell hl).trans c2,(hb.frozen hl).trans f1,(hb.frozen hl).trans f2,?_⟩
 rcases hy with hy | ⟨b,off,y1,y2,V,L⟩
 ·exact .inl hy
 ·refine .inr ⟨b,off,y1,y2,V,fun j hj=>?_⟩
  obtain ⟨x,G,I,T⟩:=L j hj;exact ⟨x,G,I,(hb.cell (p:=(qzA b (off+j))) V).trans T⟩
theorem L2 {B:Nat} {w:World} {g:Nat} (d:A2 B w g):g<B/\B<=w.heap.size:=by
 obtain ⟨_,_,_,_,_,_,_,_,hg,_⟩:=d;exact hg
theorem B9 {B:Nat} {w w':World} {g:Nat} (d:A2 B w g) (hb:BW w w'):A2 B w' g:=L1 d (hb.mono (L2 d).2)
theorem tR {B:Nat} (g:Nat) (w:World) (d:A2 B w g) :
  Calls prog 129 #[.pointer (some (qzA g 0))] w fun e w'=>∃ x:Int,e=.returned (qzI x)/\0<=x/\x<=255/\A2 B w' g/\w.grownBy w' (some g):=by
 have HC:Hid (A2 B w g):=d;obtain ⟨l,n,cap,i,h,C,A,D,hg,c0,c1,c2,f1,f2,hy⟩:=d
 by_cases s:i<n
 ·rcases hy with hy | ⟨b,off,rfl,y2,V,L⟩
  ·omega
  ·obtain ⟨v,v0,v1,cb⟩:=L i.toNat (by omega)
   clear L
   go_enter func129,ntmps129
   go_wp2
   generalize wrap64 (wrap64 (h*6364136223846793005)+1442695040888963407)=H
   obtain ⟨W,q⟩:∃ W,w.setCell (qzA g 2) (qzI H)=W:=⟨_,rfl⟩
   have d0:W.cell? (qzA g 0)=some (.slice (some (qzA b off)) n cap):=q ▸ G3 (by omega) c0
   have d1:W.cell? (qzA g 1)=some (qzI i):=q ▸ G3 (by omega) c1
   have d2:W.cell? (qzA g 2)=some (qzI H):=q ▸ uN c2
   have db:W.cell? (qzA b (off+i.toNat))=some (.int .u8 v):=q ▸ G3 (by omega) cb
   have e1:W.frozen? (qzA g 1)=false:=q ▸ V8 f1;have M:Hid (A2 B W g/\w.grownBy W (some g)):=q ▸ ⟨xQ HC.o H,uW w g 2 _⟩;rw [q];clear q c0 c1 c2 f1 f2 cb
   go_quiet (fail)
   go_wp2
   go_quiet (fail)
   go_wp2
   go_quiet (fail)
   go_wp2;go_ret
   exact ⟨_,rfl,(wK _).1,(wK _).2,Aby M.o.1 d0 _ (by omega) (by omega),tZ (M.o.2.trans (uW _ _ _ _)) _⟩
 ·go_enter func129,ntmps129
  go_wp2
  generalize wrap64 (wrap64 (h*6364136223846793005)+1442695040888963407)=H
  obtain ⟨W,q⟩:∃ W,w.setCell (qzA g 2) (qzI H)=W:=⟨_,rfl⟩
  have d0:W.cell? (qzA g 0)=some (.slice l n cap):=q ▸ G3 (by omega) c0
  have d1:W.cell? (qzA g 1)=some (qzI i):=q ▸ G3 (by omega) c1
  have d2:W.cell? (qzA g 2)=some (qzI H):=q ▸ uN c2;have M:Hid (A2 B W g/\w.grownBy W (some g)):=q ▸ ⟨xQ HC.o H,uW w g 2 _⟩;rw [q];clear q c0 c1 c2 f1 f2 hy
  go_quiet (fail)
  go_wp2
  go_quiet (fail)
  go_wp2;go_ret;exact ⟨_,rfl,(wK _).1,(wK _).2,M.o.1,tZ (tZ M.o.2 _) _⟩
theorem K8 {B:Nat} (g:Nat) (n:Int) (w:World) (d:A2 B w g) (F:n<=1099511627776) :
  Calls prog 79 #[.pointer (some (qzA g 0)),qzI n] w fun e w'=>∃ x:Int,e=.returned (qzI x)/\0<=x/\(1<=n->x<n)/\A2 B w' g/\w.grownBy w' (some g):=by
 by_cases C:n<=0
 ·go_enter func79,ntmps79
  go_wp2;go_ret
  exact ⟨0,rfl,by omega,by omega,d,World.grownBy.refl _ _⟩
 ·have a9:(n == 0)=false:=by simp;omega
  by_cases A:n<=256
  ·go_enter func79,ntmps79
   go_wp2_with fail
   refine (tR _ _ d).mono ?_;rintro e w1 ⟨x,rfl,G,I,c1,O⟩;go_wp2;go_ret
   exact ⟨_,rfl,Int.emod_nonneg _ (by omega),fun _=>Int.emod_lt_of_pos _ (by omega),c1,O⟩
  ·go_enter func79,ntmps79
   go_wp2_with fail
   refine (tR _ _ d).mono ?_;rintro e w1 ⟨x,rfl,G,I,c1,O⟩;go_wp2_with fail
   refine (tR _ _ c1).mono ?_;rintro e w2 ⟨y,rfl,y0,y1,c2,g2⟩;go_wp2_with fail
   refine (tR _ _ c2).mono ?_;rintro e w3 ⟨z,rfl,z0,z1,c3,g3⟩;go_wp2_with fail
   refine (tR _ _ c3).mono ?_;rintro e w4 ⟨u,rfl,u0,u1,c4,g4⟩;go_wp2;go_ret
   exact ⟨_,rfl,Int.emod_nonneg _ (by omega),fun _=>Int.emod_lt_of_pos _ (by omega),c4,((O.trans g2).trans g3).trans g4⟩
theorem tW {B:Nat} (g:Nat) (n:Int) (w:World) (d:A2 B w g) (F:n<=1099511627776) :
  Calls prog 97 #[.pointer (some (qzA g 0)),qzI n] w fun e w'=>∃ x:Bool,e=.returned (.bool x)/\A2 B w' g/\w.grownBy w' (some g):=by
 go_enter func97,ntmps97
 go_wp2_with fail
 refine (K8 _ _ _ d F).mono ?_;rintro e w1 ⟨x,rfl,G,I,c1,O⟩;go_wp2;go_ret;exact ⟨_,rfl,c1,O⟩
theorem wU {w:World} {a:Option Addr} {len cap g:Nat} {zs:List Int} (h:pZ .u8 w a len cap zs) (hg:w.heap.size<=g):uB g w g a len:=by
 rcases h with ⟨rfl,rfl,rfl,rfl⟩ | ⟨x,rfl,hl,hm,hz,r,a5⟩
 ·exact .inl rfl
 ·by_cases Y:len=0
  ·exact .inl Y
  ·obtain ⟨b,off,U⟩:=x
   have d:=r 0 (by omega)
   have J:U=none:=by simpa [Addr.add] using World.cell?_spot d
   subst J;have s:=World.block_lt_of_cell? w _ d
   refine .inr ⟨b,off,rfl,by simp [Addr.add] at s;omega,by simp [Addr.add] at s;omega,fun j hj=>?_⟩
   have S:=r j (by omega)
   have a4:=a5 (zs.getD j 0) (by
    have:j<zs.length:=by omega
    simp [List.getD_eq_getElem?_getD,this])
   have R:0<=zs.getD j 0/\zs.getD j 0<=255:=by simpa [Lit.wf,IntKind.min,IntKind.max,IntKind.signed,IntKind.bits] using a4
   refine ⟨zs.getD j 0,R.1,R.2,?_⟩
   by_cases e:j=0
   ·subst e;simpa [Addr.add] using S
   ·simpa [Addr.add,e] using S
theorem uI {w:World} {l:Option Addr} {n cap:Nat} (h:Int) (t:TypeId) (hb:uB w.heap.size w w.heap.size l n) (F:n<=1048576) :
  A2 (w.heap.size+1) (w.alloc (.cells #[.slice l n cap,qzI 0,qzI h] t)) w.heap.size:=by
 refine ⟨l,n,cap,0,h,by omega,by omega,F,⟨by omega,by simp⟩,by simp,by simp,by simp,by simp,by simp,?_⟩
 rcases hb with hb | ⟨b,off,y1,y2,V,L⟩
 ·exact .inl hb
 ·refine .inr ⟨b,off,y1,y2,by omega,fun j hj=>?_⟩
  obtain ⟨x,G,I,T⟩:=L j hj
  exact ⟨x,G,I,by rw [World.cell?_alloc_lt _ _ _ (by exact V)];exact T⟩
theorem Adn (a:Option Addr) (len cap:Nat) (zs:List Int) (w:World) (hr:pZ .u8 w a len cap zs) (F:len<=1048576) :
  Calls prog 77 #[.slice a len cap] w fun e w'=>e=.returned (.pointer (some ⟨w.heap.size,0,none⟩))/\A2 (w.heap.size+1) w' w.heap.size/\BW w w':=by
 have hb:=wU (g:=w.heap.size) hr nL;clear hr;have HB:Hid (uB w.heap.size w w.heap.size a len):=hb
 rcases hb with rfl | ⟨b,off,rfl,a6,a7,f⟩
 ·go_enter func77,ntmps77
  go_wp2;refine wp_loop_rounds 1 ?_;rw [rounds_succ];go_wp2;go_ret;exact ⟨rfl,uI _ _ HB.o F,bR.alloc nL _⟩
 ·go_enter func77,ntmps77
  go_wp2
  go_loop [3,4] (fun c i=>∃ (k:Nat) (H:Int),k<=len/\i=qzI k/\c=qzI H) (fun _ i=>len - (intOf i).toNat)
  case atStart=>exact ⟨0,_,Nat.zero_le _,rfl,rfl⟩
  case round =>
   obtain ⟨k,H,hk,rfl,rfl⟩:=hrel
   by_cases s:k<len
   ·have a8:(k:Int)<(len:Int):=by omega
    by_cases h4:(k:Int)<4000
    ·obtain ⟨v,v0,v1,cb⟩:=f k s
     clear f;go_wp2
     go_round
     case rel=>exact ⟨k+1,_,by omega,by go_num,rfl⟩
     case measure=>simp [intOf];omega
    ·clear f
     go_wp2;go_ret;exact ⟨rfl,uI _ _ HB.o F,bR.alloc nL _⟩
   ·clear f
    go_wp2;go_ret;exact ⟨rfl,uI _ _ HB.o F,bR.alloc nL _⟩
theorem uA (w:World) (zs:List Int) (arr:Array Value) (h:arr=(zs.map (Value.int .i64)).toArray) :
  ∀ i,i<zs.length->(w.alloc (.cells arr 3)).cell? ⟨w.heap.size,i,none⟩=some (qzI (zs.getD i 0)):=by
 intro i hi;subst h
 simp [List.getD_eq_getElem?_getD,hi]
theorem hF {B:Nat} {w:World} {g:Nat} (c:A2 B w g):w.heap.size≠g:=by
 have:=L2 c;omega
theorem A3 {B:Nat} {w:World} {g:Nat} (c:A2 B w g) (o:Obj):A2 B (w.alloc o) g:=B9 c (bR.alloc nL _)
theorem W8 {B:Nat} (g b cap:Nat) (zs:List Int) (w:World) (c:A2 B w g) (d:b≠g) (m:∀ i,i<zs.length->w.cell? (qzA b i)=some (qzI (zs.getD i 0))) (r:1<=zs.length) (s:zs.length<=1000) :
  Calls prog 131 #[.pointer (some (qzA g 0)),.slice (some (qzA b 0)) zs.length cap] w fun e w'=>∃ x:Int,e=.returned (qzI x)/\x ∈ zs/\A2 B w' g/\w.grownBy w' (some g):=by
 go_enter func131,ntmps131
 go_wp2_with fail
 refine (K8 _ _ _ c (by omega)).mono ?_
 rintro e p ⟨x,rfl,q,n,c1,f⟩
 have t:=n (by omega)
 obtain ⟨k,rfl⟩:=Int.eq_ofNat_of_zero_le q
 have j:k<zs.length:=by omega
 have cb:p.cell? (qzA b k)=some (qzI (zs.getD k 0)):=f.cell (a:=(qzA b k)) (m k j) (by simpa using d)
 have l:zs.getD k 0 ∈ zs:=by simp [List.getD_eq_getElem?_getD,j]
 generalize zs.getD k 0=z at cb l
 clear m n;go_wp2;go_ret;exact ⟨z,rfl,l,c1,f⟩
theorem Aa5 {k:IntKind} {w w':World} {a:Option Addr} {len cap:Nat} {zs:List Int} (h:pZ k w a len cap zs) (hb:BW w w'):pZ k w' a len cap zs:=by
 rcases h with h | ⟨x,b,c,d,f,h5,g⟩
 ·exact .inl h
 ·exact .inr ⟨x,b,c,d,f,fun i hi=>(hb.cell (World.block_lt_of_cell? w _ (h5 i hi))).trans (h5 i hi),g⟩
theorem zY (a:Option Addr) (len cap:Nat) (w:World) :
  Calls prog 28 #[.slice a len cap] w fun e w'=>e=.returned (.bool (decide ((1048576:Int)<(len:Int))))/\w'=w:=by
 go_enter func28,ntmps28
 go_wp2;go_ret;exact ⟨rfl,rfl⟩
theorem yY {w w1 t:World} {g:Nat} {row:Option Nat} (h:w.grownBy w1 (some g)) (r:w1.grownBy t row) (hr:∀ j,row=some j->w.heap.size<=j):w.grownBy t (some g) :=
 ⟨r.os.trans h.os,r.tape.trans h.tape,r.output.trans h.output,Nat.le_trans h.size r.size,fun k H hne=>(r.block k (Nat.lt_of_lt_of_le H h.size) (fun e=>by have:=hr k e.symm;omega)).trans (h.block k H hne)⟩
theorem Aao {B:Nat} (g:Nat) (w:World) (q:A2 B w g) :
  Calls prog 98 #[.pointer (some (qzA g 0))] w fun e w'=>∃ (u:Option Addr) (c:Nat) (b:List Int),e=.returned (.slice u b.length c)/\b.length<=6/\w'.ownsRow w.heap.size 3 1 (.slice u b.length c) b.length (b.map (Value.int .i64))/\A2 B w' g/\w.grownBy w' (some g)/\w.heap.size<=w'.heap.size:=by
 obtain ⟨i0,hi,R,S,T⟩:=info_parts pQ;have cb:=L2 q
 have a:(w.alloc (.cells #[] 3)).ownsRow w.heap.size 3 1 (.slice (some ⟨w.heap.size,0,none⟩) 0 0) 0 []:=World.ownsRow_lit w #[] 0 nL (by unfold maxLen;omega) rfl
 go_enter func98,ntmps98
 go_wp2_with fail
 refine (K8 _ _ _ (A3 q _) (by omega)).mono ?_
 rintro e t ⟨n,rfl,n0,n1,c2,x⟩
 have a3:=n1 (by omega)
 obtain ⟨m,rfl⟩:=Int.eq_ofNat_of_zero_le n0
 have f:=a.kept x (Ady a (by omega))
 have Y:w.grownBy t (some g):=(World.grownBy_alloc w _ _).trans x
 have Z:w.heap.size<=t.heap.size:=by have:=x.size;simp at this;omega
 clear a n1 x q;go_wp2
 go_loopw [3,4,6] (fun v p i wr=>∃ (k:Nat) (y:Int) (b:List Int),k<=m/\i=qzI k/\p=qzI y/\(0<=y/\y<=9000+60*k)/\b.length=k/\wr.ownsRow w.heap.size 3 1 v k (b.map (Value.int .i64))/\A2 B wr g/\w.grownBy wr (some g)/\w.heap.size<=wr.heap.size) (fun _ _ i _=>m - (intOf i).toNat)
 case atStart=>exact ⟨0,9000,[],Nat.zero_le _,rfl,rfl,by omega,rfl,f,c2,Y,Z⟩
 case round =>
  obtain ⟨k,y,b,H,rfl,rfl,hy,l,ho,q,s,O⟩:=hrel;clear f c2 Y Z
  by_cases hlt:k<m
  ·have I:(k:Int)<(m:Int):=by omega
   have C:Hid _:=l;clear l
   go_wp2_with (first | (go_at_call 79;refine (K8 _ _ _ q (by omega)).mono ?_;rintro e A ⟨z,rfl,a5,W,c3,D⟩;have a4:=W (by omega);have U:=ho.kept D (Ady ho (by omega));have b3:w.grownBy A (some g):=s.trans D;have s3:=D.size) | (at_builtin;refine wpList_append_own _ rfl (.tmp 20) (.tmp 22) 22 rfl w.heap.size 3 i0 (qzI 0) 1 8 underlying22 hi R S T rfl (by decide) _ _ _ rfl (U.alloc _) ⟨A.heap.size,0,none⟩ 1 1 [qzI (y+1+z)] rfl rfl (cell_one_new _ _ _) (ints_oneCell .i64 [y+1+z]) (by unfold maxLen;omega) (by omega) (by simp;omega) ?_;intro v' V M d L))
   have F:w.grownBy V (some g):=yY (b3.trans (World.grownBy_alloc A _ _)) d (fun j hj=>by have:=(U.lt j hj).1;omega)
   have G:A2 B V g:=L1 c3 (((Below.refl _ A).alloc (by omega) _).grown d (by simp;omega) (fun j hj=>by have:=(U.lt j hj).1;omega))
   have N:w.heap.size<=V.heap.size:=by have:=d.size;simp at this;omega
   clear d L ho;go_wp2
   go_roundw
   case rel=>exact ⟨k+1,y+1+z,b++[y+1+z],by omega,by go_num,rfl,by omega,by have:=C.o;simp;omega,by rw [List.map_append];exact M,G,F,N⟩
   case measure=>simp [intOf];omega
  ·have J:k=m:=by omega
   subst J;have X:Hid _:=ho
   have I:¬ (k:Int)<(k:Int):=by omega
   clear ho;go_wp2;go_ret;obtain ⟨u,c,hv⟩:=Fz X.o;subst hv;subst l
   exact ⟨u,c,b,rfl,by omega,X.o,q,s,O⟩
end Go.Proofs.YtomiclakhjncbaaGreatDoor
