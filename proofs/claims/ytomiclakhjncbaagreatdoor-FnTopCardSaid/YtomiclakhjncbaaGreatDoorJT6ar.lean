import Derived.Test.YtomiclakhjncbaaGreatDoorJT2ar
import Derived.Test.YtomiclakhjncbaaGreatDoorKTSDo6
import Derived.Test.YtomiclakhjncbaaGreatDoorKTBkPayS
import Derived.Test.YtomiclakhjncbaaGreatDoorJT1b
set_option maxRecDepth 100000
set_option maxHeartbeats 12800000
namespace Go.Proofs.YtomiclakhjncbaaGreatDoor
open Go.RowKit Go.Proofs.Tryz
def F0:Ff where
 prune:=E5
 use:=M7
 useOk:=useOk
 add:=Hp
 addOk:=addOk
 best:=Gm
 stC:=Jh
 stE:=Ft
 stOk:=fun d f b am day=>Ao (Ci d f b am day)
 doC:=doC
 doE:=doE
 doV:=doV
 all:=Hv
 allOk:=allOk
theorem Ra (d f b am day:Int):(Ft d f b am day).length<=1:=by unfold Ft;split <;> simp
theorem Yz:Nc F0 where
 prune:=fun ao cap az t w h hn=>Zi ao cap az t w h (by omega)
 use:=fun ao cap az i w h hn=>kZ ao cap az i w h (by omega)
 add:=fun ao cap az a w h hn hl=>Yb ao cap az a w h hn (by omega)
 best:=fun ao cap az d b am day w h hn hd w3 w4=>eR ao cap az d b am day w h hn (fun a ha=>by have:=hd a ha;omega) w3 w4
 start:=fun d f b am day w=>X3 d f b am day w
 small:=fun d f b am day=>by have:=Ra d f b am day;show (Ft d f b am day).length<=1048576;omega
 act:=fun c a t ao cp zs w h hn=>oC c a t ao cp zs w h (by omega)
 few:=fun c a t zs=>by have:=bM c a t zs;show (doE c a t zs).length<=1048576;omega
 code:=fun c a t zs=>by have:=kB c a t zs;show 0<=doV c a t zs/\doV c a t zs<=1000;omega
 post:=fun ao cap ls eo ec es w h hn hy hm=>U3 ao cap ls eo ec es w h hn hy hm
theorem vZ {ls:List Ln} {a c m:Int} {x:Ln} (h:x ∈ Cr ls a c m):x.1=a\/∃ y ∈ ls,y.1=x.1:=by
 induction ls with
 | nil=>simp [Cr] at h;subst h;exact .inl rfl
 | cons y r ih =>
  unfold Cr at h
  split at h
  ·split at h
   ·split at h
    ·rcases List.mem_cons.1 h with rfl | h
     ·exact .inl rfl
     ·exact .inr ⟨x,List.mem_cons_of_mem _ h,rfl⟩
    ·exact .inr ⟨x,List.mem_cons_of_mem _ h,rfl⟩
   ·rcases List.mem_cons.1 h with rfl | h
    ·exact .inl rfl
    ·exact .inr ⟨x,h,rfl⟩
  ·rcases List.mem_cons.1 h with rfl | h
   ·exact .inr ⟨x,List.mem_cons_self ..,rfl⟩
   ·rcases ih h with h | ⟨z,D,f⟩
    ·exact .inl h
    ·exact .inr ⟨z,List.mem_cons_of_mem _ D,f⟩
theorem wA (ls:List Ln) (a c m:Int):(Cr ls a c m).length<=ls.length+1:=by
 induction ls with
 | nil=>simp [Cr]
 | cons y r ih =>
  unfold Cr
  split
  ·split
   ·split
    ·simp
    ·simp;omega
   ·simp
  ·simp;omega
theorem xX {ls:List Ln} {e:En} {x:Ln} (h:x ∈ G5 ls e):x.1=e.1\/x.1=e.2.1\/∃ y ∈ ls,y.1=x.1:=by
 unfold G5 at h
 rcases vZ h with h | ⟨y,hy,f⟩
 ·exact .inr (.inl h)
 ·rcases vZ hy with h | ⟨z,D,t⟩
  ·exact .inl (f ▸ h)
  ·exact .inr (.inr ⟨z,D,t.trans f⟩)
theorem yB (ls:List Ln) (e:En):(G5 ls e).length<=ls.length+2:=by
 unfold G5;have g:=wA (Cr ls e.1 e.2.2.1 (-e.2.2.2)) e.2.1 e.2.2.1 e.2.2.2;have F:=wA ls e.1 e.2.2.1 (-e.2.2.2)
 omega
theorem zF {es:List En} : ∀ {ls u:List Ln},Ch ls es=some u->∀ x ∈ u,(∃ e ∈ es,x.1=e.1\/x.1=e.2.1)\/∃ y ∈ ls,y.1=x.1:=by
 induction es with
 | nil=>intro ls u h x f;simp [Ch] at h;subst h;exact .inr ⟨x,f,rfl⟩
 | cons e r ih =>
  intro ls u h x f
  simp only [Ch] at h
  split at h
  ·rcases ih h x f with ⟨e',v,t⟩ | ⟨y,hy,t⟩
   ·exact .inl ⟨e',List.mem_cons_of_mem _ v,t⟩
   ·rcases xX hy with g | g | ⟨z,D,g⟩
    ·exact .inl ⟨e,List.mem_cons_self ..,.inl (t ▸ g)⟩
    ·exact .inl ⟨e,List.mem_cons_self ..,.inr (t ▸ g)⟩
    ·exact .inr ⟨z,D,g.trans t⟩
  ·cases h
theorem zC {es:List En} : ∀ {ls u:List Ln},Ch ls es=some u->u.length<=ls.length+2*es.length:=by
 induction es with
 | nil=>intro ls u h;simp [Ch] at h;subst h;simp
 | cons e r ih =>
  intro ls u h
  simp only [Ch] at h
  split at h
  ·have g:=ih h
   have F:=yB ls e
   simp;omega
  ·cases h
theorem xD {ls:List Ln} {es:List En} : ∀ x ∈ Hv ls es,(∃ e ∈ es,x.1=e.1\/x.1=e.2.1)\/∃ y ∈ ls,y.1=x.1:=by
 intro x f;unfold Hv at f
 cases h:Ch ls es with
 | none=>rw [h] at f;exact .inr ⟨x,f,rfl⟩
 | some u=>rw [h] at f;exact zF h x f
theorem xT (ls:List Ln) (es:List En):(Hv ls es).length<=ls.length+2*es.length:=by
 unfold Hv
 cases h:Ch ls es with
 | none=>simp
 | some u=>simpa using zC h
structure Inv (k:Nat) (b:Bk):Prop where
 off:b.off.length<=10
 az:b.az.length<=k
 cs:b.cs.length<=k
 ls:b.ls.length<=4*k
 log:b.log.length<=k
 ref:∀ a ∈ b.az,a.ref.length<=1000
 day:Dn b.today=true
 own:∀ l ∈ b.ls,l.1=9999\/∃ c ∈ b.cs,c.iss=l.1\/c.acq=l.1
theorem Inv.mono {k n:Nat} {b:Bk} (h:Inv k b) (N:k<=n):Inv n b:=⟨h.off,by have:=h.az;omega,by have:=h.cs;omega,by have:=h.ls;omega,by have:=h.log;omega,h.ref,h.day,h.own⟩
def sG (b:Bk) (n0 n1 n2 n3:Int) (r:Bk×Int):Prop:=∃ x,Gm b.az n0 n2 n3 b.today x/\r=Jk F0 b n0 n1 n2 n3 x
def Fu:Bk->List UInt8->Bk×Int->Prop:=Db F0 sG (Ja F0)
theorem Ade {k:Nat} {b:Bk} (h:Inv k b) (n:Int):Inv k (Fr F0 b n).1:=by
 unfold Fr
 split
 ·rename_i hd
  refine ⟨h.off,Nat.le_trans (Yp b.az n) h.az,h.cs,h.ls,h.log,fun a w=>?_,hd.1,h.own⟩
  have o:a ∈ E5 b.az n:=w;unfold E5 at o
  split at o
  ·exact h.ref a (List.mem_filter.1 o).1
  ·cases o
 ·exact h
theorem Abd {k:Nat} {b:Bk} (h:Inv k b) {ref:List UInt8} (q:ref.length<=1000) (n0 n1 n2:Int):Inv (k+1) (Fq F0 b ref n0 n1 n2).1:=by
 unfold Fq
 split
 ·have hl:=jO b.az ⟨ref,n0,n1,n2,b.today,false⟩
  refine ⟨h.off,Nat.le_trans hl (by have:=h.az;omega),by have:=h.cs;show b.cs.length<=_;omega,by have:=h.ls;show b.ls.length<=_;omega,by have:=h.log;show b.log.length<=_;omega,fun a w=>?_,h.day,h.own⟩
  have o:a ∈ Hp b.az ⟨ref,n0,n1,n2,b.today,false⟩:=w;unfold Hp at o
  split at o
  ·rcases List.mem_append.1 o with o | o
   ·exact h.ref a o
   ·simp at o;subst o;exact q
  ·exact h.ref a o
 ·exact h.mono (by omega)
theorem Abf {az:List Au} {x:Int} {a:Au} (h:a ∈ M7 az x):∃ b ∈ az,b.ref=a.ref:=by
 unfold M7 at h
 split at h
 ·rename_i L
  have hi:x.toNat<az.length:=by
   simp [useOk] at L;omega
  rcases List.mem_or_eq_of_mem_set h with h | h
  ·exact ⟨a,h,rfl⟩
  ·subst h
   exact ⟨Ak az x.toNat,by rw [Gw hi];exact List.getElem_mem hi,rfl⟩
 ·exact ⟨a,h,rfl⟩
theorem Adl {k:Nat} {b:Bk} (h:Inv k b) {n0 n1 n2 n3:Int} {r:Bk×Int} (J:sG b n0 n1 n2 n3 r):Inv (k+1) r.1:=by
 obtain ⟨x,-,rfl⟩:=J;unfold Jk
 split
 ·exact h.mono (by omega)
 split
 ·exact h.mono (by omega)
 split
 ·exact h.mono (by omega)
 rename_i H
 split
 ·exact h.mono (by omega)
 have A:Ao (Ci n0 n1 n2 n3 b.today)=true:=by
  have g:F0.stOk n0 n1 n2 n3 b.today=true:=by simpa using H
  exact g
 have e1:Jh n0 n1 n2 n3 b.today=Ci n0 n1 n2 n3 b.today:=if_pos A;have e2:Ft n0 n1 n2 n3 b.today=[(n0,n1,n2,n3)]:=if_pos A;have hl:=xT b.ls (Ft n0 n1 n2 n3 b.today);have G:=Ra n0 n1 n2 n3 b.today
 refine ⟨h.off,?_,?_,?_,by have:=h.log;show b.log.length<=_;omega,fun a w=>?_,h.day,fun l hl=>?_⟩
 ·show (M7 b.az x).length<=k+1
  rw [jC];have:=h.az;omega
 ·show (b.cs++[_]).length<=k+1
  have:=h.cs;simp;omega
 ·show (Hv b.ls (Ft n0 n1 n2 n3 b.today)).length<=4 * (k+1)
  have:=h.ls;omega
 ·obtain ⟨y,hy,e⟩:=Abf (x:=x) (az:=b.az) w
  rw [<- e];exact h.ref y hy
 ·show l.1=9999\/∃ c ∈ b.cs++[Jh n0 n1 n2 n3 b.today],c.iss=l.1\/c.acq=l.1
  rcases xD l hl with ⟨e,he,f⟩ | ⟨y,hy,f⟩
  ·have v:e ∈ Ft n0 n1 n2 n3 b.today:=he
   rw [e2] at v
   simp at v;subst v
   refine .inr ⟨Jh n0 n1 n2 n3 b.today,by simp,?_⟩
   rw [e1]
   rcases f with f | f
   ·exact .inl f.symm
   ·exact .inr f.symm
  ·rcases h.own y hy with g | ⟨c,C,g⟩
   ·exact .inl (f ▸ g)
   ·exact .inr ⟨c,by simp [C],f ▸ g⟩
theorem wY {cs:List Cs} {i:Nat} {d:Cs} (hi:i<cs.length) (g:d.iss=(A8 cs i).iss) (F:d.acq=(A8 cs i).acq) {a:Int} (h:∃ c ∈ cs,c.iss=a\/c.acq=a):∃ c ∈ cs.set i d,c.iss=a\/c.acq=a:=by
 obtain ⟨c,C,f⟩:=h;obtain ⟨j,I,rfl⟩:=List.getElem_of_mem C
 by_cases e:i=j
 ·subst e
  rw [bT hi] at g F
  refine ⟨d,?_,by rw [g,F];exact f⟩
  exact List.mem_iff_getElem.2 ⟨i,by simpa using hi,by simp⟩
 ·refine ⟨cs[j],?_,f⟩
  exact List.mem_iff_getElem.2 ⟨j,by simpa using I,by simp [e]⟩
theorem Ac3 {k:Nat} {b:Bk} (h:Inv k b) (i:Int) (x:Ac):Inv (k+1) (Ja F0 b i x).1:=by
 unfold Ja
 split
 ·exact h.mono (by omega)
 rename_i hi
 split
 ·exact h.mono (by omega)
 split
 ·exact h.mono (by omega)
 have B:i.toNat<b.cs.length:=by
  have:0<=i/\i<=(b.cs.length:Int) - 1:=Classical.not_not.1 hi
  omega
 have hl:=xT b.ls (doE (A8 b.cs i.toNat) x b.today b.off);have G:=bM (A8 b.cs i.toNat) x b.today b.off;obtain ⟨M,p2⟩:=Ab6 (A8 b.cs i.toNat) x b.today b.off
 refine ⟨h.off,by have:=h.az;show b.az.length<=_;omega,?_,?_,by have:=h.log;show b.log.length<=_;omega,h.ref,h.day,fun l hl=>?_⟩
 ·show (b.cs.set _ _).length<=k+1
  have:=h.cs;simp;omega
 ·show (Hv b.ls (doE (A8 b.cs i.toNat) x b.today b.off)).length<=4 * (k+1)
  have:=h.ls;omega
 ·show l.1=9999\/∃ c ∈ b.cs.set i.toNat (doC (A8 b.cs i.toNat) x b.today b.off),c.iss=l.1\/c.acq=l.1
  have key:l.1=9999\/∃ c ∈ b.cs,c.iss=l.1\/c.acq=l.1:=by
   rcases xD l hl with ⟨e,he,f⟩ | ⟨y,hy,f⟩
   ·obtain ⟨O,R⟩:=Ad9 he
    have:ofC (A8 b.cs i.toNat) l.1:=by rcases f with f | f <;> rw [f] <;> assumption
    rcases this with g | g | g
    ·exact .inr ⟨_,Xg B,.inl g.symm⟩
    ·exact .inr ⟨_,Xg B,.inr g.symm⟩
    ·exact .inl g
   ·rcases h.own y hy with g | ⟨c,C,g⟩
    ·exact .inl (f ▸ g)
    ·exact .inr ⟨c,C,f ▸ g⟩
  rcases key with g | g
  ·exact .inl g
  ·exact .inr (wY B M p2 g)
theorem Ab7 {k:Nat} {b:Bk} (h:Inv k b) {p:List UInt8} (hl:p.length<=1000) {r:Bk×Int} (q:Fu b p r):Inv (k+1) r.1:=by
 unfold Fu Db at q
 have hb:r=(b,1)->Inv (k+1) r.1:=fun e=>by rw [e];exact h.mono (by omega)
 split at q
 ·rw [q];exact (Ade h _).mono (by omega)
 split at q
 ·rename_i w
  split at q
  ·rw [q]
   refine Abd h ?_ _ _ _
   have h5:(Ab p).length=5:=by simp [Bq] at w;exact w.2
   have:=Ee p _ (F7 (rs:=Ab p) (k:=1) (by omega))
   omega
  ·exact hb q
 split at q
 ·split at q
  ·exact Adl h q
  ·exact hb q
 split at q
 ·split at q
  ·rw [q];exact Ac3 h _ _
  ·exact hb q
 ·exact hb q
theorem Aea {k:Nat} {b:Bk} (h:Inv k b) {p:List UInt8} (hl:p.length<=1000) {r:Bk×Int} (q:Fg Fu b p r):Inv (k+1) r.1:=by
 rcases q with ⟨-,rfl⟩ | ⟨-,s,hs,⟨-,rfl⟩ | ⟨-,rfl⟩⟩
 ·exact h.mono (by omega)
 ·exact h.mono (by omega)
 ·have:=Ab7 h hl hs
  exact ⟨this.off,this.az,this.cs,this.ls,by have:=h.log;simp;omega,this.ref,this.day,this.own⟩
namespace Kb
theorem fG {ws:Be} (h:(ws.drop 1).length=1):∃ a c,ws=[a,c]:=by
 match ws,h with
 | [a,c],_=>exact ⟨a,c,rfl⟩
theorem L5 {ws:Be} (h:(ws.drop 1).length=4):∃ a c d e f,ws=[a,c,d,e,f]:=by
 match ws,h with
 | [a,c,d,e,f],_=>exact ⟨a,c,d,e,f,rfl⟩
theorem M9 {ws:Be} (h:ws.length=5):∃ a c d e f,ws=[a,c,d,e,f]:=by
 match ws,h with
 | [a,c,d,e,f],_=>exact ⟨a,c,d,e,f,rfl⟩
theorem nR {ws:Be} (h:ws.length=2):∃ a c,ws=[a,c]:=by
 match ws,h with
 | [a,c],_=>exact ⟨a,c,rfl⟩
def jE (ws:Be):Prop:=Bq ws=true/\Al ws 1=[]
theorem qZ {az:List Au} {n0 n1 n2 t:Int} : addOk az ⟨[],n0,n1,n2,t,false⟩=false:=by
 simp [addOk,Gy,Kk]
theorem iK {ws:Be} {t:List UInt8} (h:Al ws 0=t):(t≠Eo->Ca ws=false)/\(t≠Dy->Bq ws=false)/\(t≠I7->Da ws=false)/\(t≠Nz->Fl ws=false):=by
 refine ⟨fun e=>?_,fun e=>?_,fun e=>?_,fun e=>?_⟩
 ·rw [Ca,h,decide_eq_false e];rfl
 ·rw [Bq,h,decide_eq_false e];rfl
 ·rw [Da,h,decide_eq_false e];rfl
 ·rw [Fl,h,decide_eq_false e];rfl
def Agr (ws:Be) (r l:Bk×Int):Prop:=r.1=l.1/\(r.2=l.2\/(r.2=1/\l.2=3/\jE ws))
theorem Fm {ws:Be} {r l:Bk×Int} (h:r=l):Agr ws r l:=by rw [h];exact ⟨rfl,.inl rfl⟩
theorem pS {c:List UInt8} : Ap [c]=decide (0<=Ae c):=by simp [Ap]
theorem Vo {b:Bk} {i:List UInt8} {r l:Bk×Int} (h:D6 F0 b (Ab i) r) (g:Fu b i l):Agr (Ab i) r l:=by
 unfold Fu Db at g;unfold D6 at h
 generalize Ab i=ws at h g ⊢
 by_cases h1:Al ws 0=Eo
 ·rw [if_pos h1] at h
  obtain ⟨-,z,n,k⟩:=iK h1
  have z:=z (by decide)
  have n:=n (by decide)
  have k:=k (by decide)
  by_cases hd:Ca ws=true
  ·rw [if_pos hd] at g
   have v:=hd
   simp only [Ca,Bool.and_eq_true,decide_eq_true_eq] at v
   obtain ⟨-,p,q⟩:=v;obtain ⟨a,c,rfl⟩:=nR p
   have e:N8 F0 b ([a,c].drop 1)=Fr F0 b (Ae c):=if_pos ⟨by show Ap [c]=true;rw [pS];exact decide_eq_true q,rfl⟩
   rw [e] at h;exact Fm (h.trans g.symm)
  ·rw [if_neg hd,if_neg (by rw [z];decide),if_neg (by rw [n];decide),if_neg (by rw [k];decide)] at g
   have e:N8 F0 b (ws.drop 1)=(b,1):=if_neg (fun ⟨e1,e2⟩=>hd (by
    obtain ⟨a,c,rfl⟩:=fG e2;have e3:Ap [c]=true:=e1;rw [pS] at e3;have u:a=Eo:=h1;subst u
    simp only [Ca,Bool.and_eq_true,decide_eq_true_eq]
    exact ⟨rfl,rfl,by show 0<=Ae c;simpa using e3⟩))
   rw [e] at h;exact Fm (h.trans g.symm)
 rw [if_neg h1] at h
 have G:Ca ws=false:=by rw [Ca,decide_eq_false h1];rfl
 rw [if_neg (by rw [G];decide)] at g
 by_cases p:Al ws 0=Dy
 ·rw [if_pos p] at h
  obtain ⟨-,-,n,k⟩:=iK p
  have n:=n (by decide)
  have k:=k (by decide)
  by_cases ha:Bq ws=true
  ·rw [if_pos ha] at g
   have j:=ha
   simp only [Bq,Bool.and_eq_true,decide_eq_true_eq] at j
   obtain ⟨a,c,d,e,f,rfl⟩:=M9 j.2
   by_cases hn:Ap [d,e,f]=true
   ·rw [if_pos (show Ap ([a,c,d,e,f].drop 2)=true from hn)] at g
    by_cases o:c=[]
    ·subst o
     have e1:Gt F0 b ([a,[],d,e,f].drop 1)=(b,1):=if_neg (fun e=>e.2.1 rfl)
     have e2:Fq F0 b (Al [a,[],d,e,f] 1) (Ae (Al [a,[],d,e,f] 2)) (Ae (Al [a,[],d,e,f] 3)) (Ae (Al [a,[],d,e,f] 4))=(b,3):=bZ F0 (show addOk b.az ⟨[],Ae d,Ae e,Ae f,b.today,false⟩=false from qZ)
     rw [e1] at h;rw [e2] at g;subst h g;exact ⟨rfl,.inr ⟨rfl,rfl,ha,rfl⟩⟩
    ·have e1:Gt F0 b ([a,c,d,e,f].drop 1)=Fq F0 b c (Ae d) (Ae e) (Ae f):=if_pos ⟨rfl,o,hn⟩
     rw [e1] at h;exact Fm (h.trans g.symm)
   ·rw [if_neg (show ¬ Ap ([a,c,d,e,f].drop 2)=true from hn)] at g
    have e1:Gt F0 b ([a,c,d,e,f].drop 1)=(b,1):=if_neg (fun e=>hn e.2.2)
    rw [e1] at h;exact Fm (h.trans g.symm)
  ·rw [if_neg ha,if_neg (by rw [n];decide),if_neg (by rw [k];decide)] at g
   have e:Gt F0 b (ws.drop 1)=(b,1):=if_neg (fun ⟨e1,_⟩=>ha (by
    obtain ⟨a,c,d,e,f,rfl⟩:=L5 e1
    simp only [Bq,Bool.and_eq_true,decide_eq_true_eq]
    exact ⟨p,rfl⟩))
   rw [e] at h;exact Fm (h.trans g.symm)
 rw [if_neg p] at h
 have z:Bq ws=false:=by rw [Bq,decide_eq_false p];rfl
 rw [if_neg (by rw [z];decide)] at g
 by_cases q:Al ws 0=I7
 ·rw [if_pos q] at h
  obtain ⟨-,-,-,k⟩:=iK q
  have k:=k (by decide)
  by_cases ha:Da ws=true
  ·rw [if_pos ha] at g
   have j:=ha
   simp only [Da,Bool.and_eq_true,decide_eq_true_eq] at j
   obtain ⟨a,c,d,e,f,rfl⟩:=M9 j.2;unfold Fh at h
   by_cases hn:Ap [c,d,e,f]=true
   ·rw [if_pos (show Ap ([a,c,d,e,f].drop 1)=true from hn)] at g
    rw [if_pos ⟨hn,rfl⟩] at h;obtain ⟨x,F,rfl⟩:=h;obtain ⟨y,hy,rfl⟩:=g;have A:x=y:=Zr F hy;subst A;exact Fm rfl
   ·rw [if_neg (show ¬ Ap ([a,c,d,e,f].drop 1)=true from hn)] at g
    rw [if_neg (fun e=>hn e.1)] at h
    exact Fm (h.trans g.symm)
  ·rw [if_neg ha,if_neg (by rw [k];decide)] at g
   unfold Fh at h
   rw [if_neg (fun ⟨_,e2⟩=>ha (by
    obtain ⟨a,c,d,e,f,rfl⟩:=L5 e2
    simp only [Da,Bool.and_eq_true,decide_eq_true_eq]
    exact ⟨q,rfl⟩))] at h
   exact Fm (h.trans g.symm)
 rw [if_neg q] at h
 have n:Da ws=false:=by rw [Da,decide_eq_false q];rfl
 rw [if_neg (by rw [n];decide)] at g
 by_cases h4:Al ws 0=Nz
 ·rw [if_pos h4] at h
  by_cases ha:Fl ws=true
  ·rw [if_pos ha] at g
   have j:=ha
   simp only [Fl,Bool.and_eq_true,decide_eq_true_eq] at j
   obtain ⟨-,h5,C⟩:=j;obtain ⟨a,c,d,e,f,rfl⟩:=M9 h5
   by_cases hn:Ap [c,e,f]=true
   ·rw [if_pos (show Ap [Al [a,c,d,e,f] 1,Al [a,c,d,e,f] 3,Al [a,c,d,e,f] 4]=true from hn)] at g
    have e1:Hx F0 b ([a,c,d,e,f].drop 1)=Ja F0 b (Ae c) ⟨Bz d,Ae e,Ae f⟩:=if_pos ⟨rfl,C,hn⟩;rw [e1] at h;exact Fm (h.trans g.symm)
   ·rw [if_neg (show ¬ Ap [Al [a,c,d,e,f] 1,Al [a,c,d,e,f] 3,Al [a,c,d,e,f] 4]=true from hn)] at g
    have e1:Hx F0 b ([a,c,d,e,f].drop 1)=(b,1):=if_neg (fun e=>hn e.2.2)
    rw [e1] at h;exact Fm (h.trans g.symm)
  ·rw [if_neg ha] at g
   have e:Hx F0 b (ws.drop 1)=(b,1):=if_neg (fun ⟨e1,e2,_⟩=>ha (by
    obtain ⟨a,c,d,e,f,rfl⟩:=L5 e1
    simp only [Fl,Bool.and_eq_true,decide_eq_true_eq]
    exact ⟨h4,rfl,e2⟩))
   rw [e] at h;exact Fm (h.trans g.symm)
 rw [if_neg h4] at h
 have k:Fl ws=false:=by rw [Fl,decide_eq_false h4];rfl
 rw [if_neg (by rw [k];decide)] at g
 exact Fm (h.trans g.symm)
theorem W4 {b:Bk} {i:List UInt8} {r l:Bk×Int} (h:D9 F0 b i r) (g:Fg Fu b i l):Agr (Ab i) r l:=by
 unfold D9 at h
 rcases g with ⟨B,rfl⟩ | ⟨B,s,hs,D⟩
 ·rw [if_pos B] at h
  exact Fm h
 ·rw [if_neg (by omega)] at h
  obtain ⟨r0,u,rfl⟩:=h;obtain ⟨e1,e2⟩:=Vo u hs;have w:=Sw u
  rcases D with ⟨o,rfl⟩ | ⟨o,rfl⟩
  ·have m:r0.2≠0:=by
     rcases e2 with e2 | ⟨e2,_⟩
     ·rw [e2];exact o
     ·rw [e2];decide
   rw [if_neg m];exact ⟨Wc u m,e2⟩
  ·have m:r0.2=0:=by
     rcases e2 with e2 | ⟨_,e3,_⟩
     ·rw [e2];exact o
     ·rw [e3] at o;exact absurd o (by decide)
   rw [if_pos m];refine Fm ?_
   simp only [Jd]
   rw [w,e1]
theorem nG {c:Cs} {a:Ac} {t:Int} {zs:List Int} (h:doV c a t zs=0):D7 c t zs=true/\Dx c.st a.kind=true/\B4 c a t zs=0/\Ao (Bx c a t zs)=true:=by
 unfold doV at h
 split at h
 ·cases h
 ·rename_i B
  split at h
  ·cases h
  ·rename_i H
   split at h
   ·rename_i C;exact absurd h C
   ·rename_i C
    split at h
    ·rename_i J
     exact ⟨by simpa using B,by simpa using H,by simpa using C,J⟩
    ·cases h
structure JC (n:Nat) (b:Bk):Prop where
 off:b.off.length<=1000
 az:b.az.length<=n
 cs:b.cs.length<=n
 ref:∀ a ∈ b.az,a.ref.length<=1048576/\0<=Dc a.cur
 cc:∀ c ∈ b.cs,Ao c=true
 led:At b.ls=true
 day:Dn b.today=true
theorem JC.mono {n m:Nat} {b:Bk} (h:JC n b) (N:n<=m):JC m b:=⟨h.off,by have:=h.az;omega,by have:=h.cs;omega,h.ref,h.cc,h.led,h.day⟩
structure JW (b:Bk):Prop where
 jc:JC b.log.length b
 log:b.log.length<=600
 gl:∀ l ∈ b.log,l.length<=1048576
theorem lB {c:Int} (h:0<=Dc c):Bf c:=by
 refine Cq ?_
 have:=U2 h
 simp [Gi] at this
 omega
theorem cC {c:Cs} (h:Ao c=true):Qk c:=by
 obtain ⟨B,H,-,C,J,h5,F,h7,S,T,I,w⟩:=Jb h
 simp [Fb,Cb] at B H
 have hd:=Ei I
 refine ⟨Cq (by omega),Cq (by omega),lB C,Cq (by omega),Cq (by omega),Cq ?_,Cq (by omega),Cq (by omega),Cq (by omega),Cq (by omega),Cq ?_⟩
 ·simp only [Cy,Bool.or_eq_true,Bool.and_eq_true,decide_eq_true_eq] at F
  rcases F with F | F
  ·simp [Oy] at F;omega
  ·omega
 ·rcases w with w | w
  ·have:=Ei w;omega
  ·omega
theorem wQ {b:Bk} (h:JW b):Ej b:=by
 have hd:=Ei h.jc.day;have hl:b.ls.length<=400:=(Dq h.jc.led).2.1;have B:=h.jc.off;have H:=h.jc.az;have C:=h.jc.cs;have J:=h.log
 exact ⟨⟨by omega,by omega,by omega,by omega,by omega⟩,fun a v=>(h.jc.ref a v).1,fun a v=>lB (h.jc.ref a v).2,fun c hc=>cC (h.jc.cc c hc),Vm h.jc.led,Cq (by omega)⟩
theorem Aa6 {es:List En} : ∀ {ls D:List Ln},Ch ls es=some D->At ls=true->At D=true:=by
 induction es with
 | nil=>intro ls D h hl;rw [Ch] at h;injection h with h;rw [<- h];exact hl
 | cons e r ih =>
  intro ls D h hl;rw [Ch] at h
  split at h
  ·rename_i M;exact ih h (N1 M).2
  ·cases h
theorem zW {ls:List Ln} {es:List En} (hl:At ls=true):At (Hv ls es)=true:=by
 unfold Hv
 cases h:Ch ls es with
 | none=>exact hl
 | some D=>exact Aa6 h hl
theorem Ad8 {n:Nat} {b:Bk} (h:JC n b) (d:Int):JC n (Fr F0 b d).1:=by
 unfold Fr
 split
 ·rename_i hd
  refine ⟨h.off,Nat.le_trans (Yp b.az d) h.az,h.cs,fun a v=>?_,h.cc,h.led,hd.1⟩
  have q:a ∈ E5 b.az d:=v;unfold E5 at q
  split at q
  ·exact h.ref a (List.mem_filter.1 q).1
  ·cases q
 ·exact h
theorem Acw {n:Nat} {b:Bk} (h:JC n b) {ref:List UInt8} (p:ref.length<=1048576) (n0 n1 n2:Int):JC (n+1) (Fq F0 b ref n0 n1 n2).1:=by
 unfold Fq
 split
 ·rename_i A
  have o:addOk b.az ⟨ref,n0,n1,n2,b.today,false⟩=true:=A
  have L:Gy ⟨ref,n0,n1,n2,b.today,false⟩=true:=by
   simp only [addOk,Bool.and_eq_true] at o;exact o.1
  have hl:=jO b.az ⟨ref,n0,n1,n2,b.today,false⟩
  refine ⟨h.off,Nat.le_trans hl (by have:=h.az;omega),by have:=h.cs;show b.cs.length<=_;omega,fun a v=>?_,h.cc,h.led,h.day⟩
  have q:a ∈ Hp b.az ⟨ref,n0,n1,n2,b.today,false⟩:=v;rw [Nk o] at q
  rcases List.mem_append.1 q with z | z
  ·exact h.ref a z
  ·simp at z;subst z;exact ⟨p,(L0 L).2.2.1⟩
 ·exact h.mono (by omega)
theorem Sk {az:List Au} {x:Int} {a:Au} (h:a ∈ M7 az x):∃ b ∈ az,b.ref=a.ref/\b.cur=a.cur:=by
 unfold M7 at h
 split at h
 ·rename_i O
  have hi:x.toNat<az.length:=by
   simp [useOk] at O;omega
  rcases List.mem_or_eq_of_mem_set h with h | h
  ·exact ⟨a,h,rfl,rfl⟩
  ·subst h
   exact ⟨Ak az x.toNat,by rw [Gw hi];exact List.getElem_mem hi,rfl,rfl⟩
 ·exact ⟨a,h,rfl,rfl⟩
theorem Ad6 {n:Nat} {b:Bk} (h:JC n b) {n0 n1 n2 n3:Int} {r:Bk×Int} (M:sG b n0 n1 n2 n3 r):JC (n+1) r.1:=by
 obtain ⟨x,-,rfl⟩:=M;unfold Jk
 split
 ·exact h.mono (by omega)
 split
 ·exact h.mono (by omega)
 split
 ·exact h.mono (by omega)
 rename_i A
 split
 ·exact h.mono (by omega)
 have o:Ao (Ci n0 n1 n2 n3 b.today)=true:=by
  have B:F0.stOk n0 n1 n2 n3 b.today=true:=by simpa using A
  exact B
 have e1:Jh n0 n1 n2 n3 b.today=Ci n0 n1 n2 n3 b.today:=if_pos o
 refine ⟨h.off,?_,?_,fun a v=>?_,fun c hc=>?_,zW h.led,h.day⟩
 ·show (M7 b.az x).length<=n+1
  rw [jC];have:=h.az;omega
 ·show (b.cs++[_]).length<=n+1
  have:=h.cs;simp;omega
 ·obtain ⟨y,hy,e,e'⟩:=Sk (x:=x) (az:=b.az) v
  rw [<- e,<- e'];exact h.ref y hy
 ·have g:c ∈ b.cs++[Jh n0 n1 n2 n3 b.today]:=hc
  rcases List.mem_append.1 g with g | g
  ·exact h.cc c g
  ·simp at g;rw [g,e1];exact o
theorem Ad4 {n:Nat} {b:Bk} (h:JC n b) (i:Int) (x:Ac):JC (n+1) (Ja F0 b i x).1:=by
 unfold Ja
 split
 ·exact h.mono (by omega)
 rename_i hi
 split
 ·exact h.mono (by omega)
 rename_i R
 split
 ·exact h.mono (by omega)
 have G:doV (A8 b.cs i.toNat) x b.today b.off=0:=Classical.not_not.1 R
 refine ⟨h.off,by have:=h.az;show b.az.length<=_;omega,?_,h.ref,fun c hc=>?_,zW h.led,h.day⟩
 ·show (b.cs.set _ _).length<=n+1
  have:=h.cs;simp;omega
 ·have g:c ∈ b.cs.set i.toNat (doC (A8 b.cs i.toNat) x b.today b.off):=hc
  rcases List.mem_or_eq_of_mem_set g with g | g
  ·exact h.cc c g
  ·rw [g,doC,if_pos G];exact (nG G).2.2.2
theorem Acq {n:Nat} {b:Bk} (h:JC n b) {f:List UInt8} (hl:f.length<=1048576) {r:Bk×Int} (p:Fu b f r):JC (n+1) r.1:=by
 unfold Fu Db at p
 have hb:r=(b,1)->JC (n+1) r.1:=fun e=>by rw [e];exact h.mono (by omega)
 split at p
 ·rw [p];exact (Ad8 h _).mono (by omega)
 split at p
 ·rename_i v
  split at p
  ·rw [p]
   refine Acw h ?_ _ _ _
   have h5:(Ab f).length=5:=by simp [Bq] at v;exact v.2
   have:=Ee f _ (F7 (rs:=Ab f) (k:=1) (by omega))
   omega
  ·exact hb p
 split at p
 ·split at p
  ·exact Ad6 h p
  ·exact hb p
 split at p
 ·split at p
  ·rw [p];exact Ad4 h _ _
  ·exact hb p
 ·exact hb p
theorem Adz {b:Bk} (h:JW b) {f:List UInt8} (hl:f.length<=1048576) {r:Bk×Int} (p:Fg Fu b f r):JW r.1:=by
 rcases p with ⟨-,rfl⟩ | ⟨U,s,hs,⟨-,rfl⟩ | ⟨-,rfl⟩⟩
 ·exact h
 ·exact h
 ·have j:=Acq h.jc hl hs
  refine ⟨?_,?_,fun l N=>?_⟩
  ·show JC (b.log++[f]).length _
   rw [List.length_append,List.length_singleton];exact ⟨j.off,j.az,j.cs,j.ref,j.cc,j.led,j.day⟩
  ·show (b.log++[f]).length<=600
   simp;omega
  ·have u:l ∈ b.log++[f]:=N
   rcases List.mem_append.1 u with u | u
   ·exact h.gl l u
   ·simp at u;rw [u];exact hl
end Kb
def sR (b:Bk):Prop:=D0 b/\(∀ a ∈ b.az,a.ref.length<=1048576)/\(Lit.int .i64 b.today).wf=true
theorem oF {x:Int} (f:-1<=x) (d:x<=1000000000000000000):(Lit.int .i64 x).wf=true:=by
 simp [Lit.wf,IntKind.min,IntKind.max,IntKind.signed,IntKind.bits];omega
theorem rQ:Tp sR sG (Ja F0) where
 pay:=fun b p g k n0 n1 n2 n3 w c _ hp c0 c1 c2 c3 f d=>(lR F0 Yz b p g k n0 n1 n2 n3 w c hp.1 hp.2.1 hp.2.2 (oF d (by omega)) c0 c1 c2 c3).mono (by
  rintro e w' ⟨x,c,h⟩;exact ⟨_,⟨x,c,rfl⟩,h⟩)
 act:=fun b p i x w c _ hp=>kC F0 Yz b p i x w c hp.1
theorem nD (b:Bk) (l:List UInt8) (r:Bk×Int) (h:Fu b l r):r.1.log=b.log:=by
 unfold Fu Db at h
 split at h
 ·rw [h];unfold Fr;split <;> rfl
 split at h
 ·split at h
  ·rw [h];unfold Fq;split <;> rfl
  ·rw [h]
 split at h
 ·split at h
  ·obtain ⟨x,-,rfl⟩:=h
   unfold Jk
   split
   ·rfl
   split
   ·rfl
   split
   ·rfl
   split <;> rfl
  ·rw [h]
 split at h
 ·split at h
  ·rw [h];unfold Ja
   split
   ·rfl
   split
   ·rfl
   split <;> rfl
  ·rw [h]
 ·rw [h]
theorem lO:cB sR Fu where
 log:=nD
 small:=fun _ h=>h.1
 calls:=fun b p line w c hah hp hl=>fV F0 Yz (fun _ h=>h.1) rQ b p line w c hah hp hl
theorem wH {k:Nat} {b:Bk} (h:Inv k b) (j:k<=1000):sR b:=by
 have hd:=Ei h.day
 refine ⟨⟨by have:=h.off;omega,by have:=h.az;omega,by have:=h.cs;omega,by have:=h.ls;omega,by have:=h.log;omega⟩,fun a ha=>by have:=h.ref a ha;omega,oF (by omega) (by omega)⟩
def Z6b (X:Nat) (b:Bk) (p:Bp) (u:World):Prop:=ZQ X b p u
theorem Aq.farB {u d:World} {b:Bk} {p:Bp} {g:Nat} (h:Aq u b p) (r:u.grownBy d (some g)) (n:Wq p g):Aq d b p :=
 ⟨h.off.far r (fun B' e=>by cases e;exact n.o),h.az.far r (fun B' e=>by cases e;exact n.a),h.cs.far r (fun B' e=>by cases e;exact n.c),h.ls.far r (fun B' e=>by cases e;exact n.l),h.log.far r (fun B' e=>by cases e;exact n.g)⟩
theorem K6 {q:Bp} {n B:Nat} (h:FrB q n) (hB:B<n):Wq q B:=⟨Bb h.o hB,Bb h.a hB,Bb h.c hB,Bb h.l hB,Bb h.g hB⟩
theorem Acg {az:List Au} {x:Int} {a:Au} (h:a ∈ M7 az x):∃ b ∈ az,b.iss=a.iss:=by
 unfold M7 at h
 split at h
 ·rename_i z
  have hi:x.toNat<az.length:=by
   simp [useOk] at z;omega
  rcases List.mem_or_eq_of_mem_set h with h | h
  ·exact ⟨a,h,rfl⟩
  ·subst h
   exact ⟨Ak az x.toNat,by rw [Gw hi];exact List.getElem_mem hi,rfl⟩
 ·exact ⟨a,h,rfl⟩
theorem Aaw {az:List Au} {t:Int} {a:Au} (h:a ∈ E5 az t):a ∈ az:=by
 unfold E5 at h
 split at h
 ·exact (List.mem_filter.1 h).1
 ·cases h
theorem Adt {b:Bk} (h:Par b) (n:Int):Par (Fr F0 b n).1:=by
 unfold Fr
 split
 ·exact ⟨fun a l=>h.ia a (Aaw (t:=n) l),h.pc⟩
 ·exact h
theorem zN {x:Int} (h:Fb x=true):1<=x:=by
 simp [Fb,Cb] at h;omega
theorem Ad2 {x:Int} (h:Cb x=true):1<=x:=by
 simp [Cb] at h;omega
theorem Abq {b:Bk} (h:Par b) {ref:List UInt8} {n0 n1 n2:Int} (v:n0<=8):Par (Fq F0 b ref n0 n1 n2).1:=by
 unfold Fq
 split
 ·rename_i m
  refine ⟨fun a l=>?_,h.pc⟩
  have k:a ∈ Hp b.az ⟨ref,n0,n1,n2,b.today,false⟩:=l;have f:addOk b.az ⟨ref,n0,n1,n2,b.today,false⟩=true:=m;rw [Nk f] at k
  rcases List.mem_append.1 k with k | k
  ·exact h.ia a k
  ·simp at k;subst k
   have o:Gy ⟨ref,n0,n1,n2,b.today,false⟩=true:=by
    unfold addOk at f;rw [Bool.and_eq_true] at f;exact f.1
   exact ⟨Ad2 (L0 o).2.1,v⟩
 ·exact h
theorem Acy {b:Bk} (h:Par b) {n0 n1 n2 n3:Int} {r:Bk×Int} (w:sG b n0 n1 n2 n3 r) (u:n0<=8) (o:n1<=8):Par r.1:=by
 obtain ⟨x,-,rfl⟩:=w;unfold Jk
 split
 ·exact h
 split
 ·exact h
 split
 ·exact h
 rename_i m
 split
 ·exact h
 have f:Ao (Ci n0 n1 n2 n3 b.today)=true:=by
  have o:F0.stOk n0 n1 n2 n3 b.today=true:=by simpa using m
  exact o
 have e1:Jh n0 n1 n2 n3 b.today=Ci n0 n1 n2 n3 b.today:=if_pos f;obtain ⟨q,p2,-⟩:=Jb f
 refine ⟨fun a l=>?_,fun c hc=>?_⟩
 ·obtain ⟨y,hy,e⟩:=Acg (x:=x) (az:=b.az) l
  rw [<- e];exact h.ia y hy
 ·have d:c ∈ b.cs++[Jh n0 n1 n2 n3 b.today]:=hc
  rcases List.mem_append.1 d with d | d
  ·exact h.pc c d
  ·rw [e1] at d
   simp at d;subst d
   exact ⟨⟨zN q,u⟩,⟨zN p2,o⟩⟩
theorem Ac6 {b:Bk} (h:Par b) (i:Int) (x:Ac):Par (Ja F0 b i x).1:=by
 unfold Ja
 split
 ·exact h
 rename_i hi
 split
 ·exact h
 split
 ·exact h
 have p:i.toNat<b.cs.length:=by
  have:0<=i/\i<=(b.cs.length:Int) - 1:=Classical.not_not.1 hi
  omega
 obtain ⟨q,p2⟩:=Ab6 (A8 b.cs i.toNat) x b.today b.off
 refine ⟨h.ia,fun c hc=>?_⟩
 have d:c ∈ b.cs.set i.toNat (doC (A8 b.cs i.toNat) x b.today b.off):=hc
 rcases List.mem_or_eq_of_mem_set d with d | d
 ·exact h.pc c d
 ·rw [d,q,p2]
  exact h.pc _ (Xg p)
theorem Ab0 {b:Bk} (h:Par b) {j:List UInt8} (hg:K3 j) {r:Bk×Int} (g:Fu b j r):Par r.1:=by
 unfold Fu Db at g
 have hb:r=(b,1)->Par r.1:=fun e=>by rw [e];exact h
 split at g
 ·rw [g];exact Adt h _
 split at g
 ·rename_i l
  split at g
  ·rw [g];exact Abq h (hg.1 l).2
  ·exact hb g
 split at g
 ·rename_i l
  split at g
  ·exact Acy h g (hg.2 l).1 (hg.2 l).2
  ·exact hb g
 split at g
 ·split at g
  ·rw [g];exact Ac6 h _ _
  ·exact hb g
 ·exact hb g
theorem Ad5 {b:Bk} (h:Par b) {j:List UInt8} (hg:K3 j) {r:Bk×Int} (g:Fg Fu b j r):Par r.1:=by
 rcases g with ⟨-,rfl⟩ | ⟨-,s,hs,⟨-,rfl⟩ | ⟨-,rfl⟩⟩
 ·exact h
 ·exact h
 ·have:=Ab0 h hg hs
  exact ⟨this.ia,this.pc⟩
namespace Top
def mv (a x:Int) (e:En):Int:=(if a=e.1/\x=e.2.2.1 then -e.2.2.2 else 0)+if a=e.2.1/\x=e.2.2.1 then e.2.2.2 else 0
def mvS (a x:Int) (es:List En):Int:=(es.map (mv a x)).sum
theorem wD {es:List En} : ∀ {ls V:List Ln},Ch ls es=some V->∀ a x,K2 V a x=K2 ls a x+mvS a x es:=by
 induction es with
 | nil=>intro ls V h a x;rw [Ch] at h;injection h with h;subst h;simp [mvS]
 | cons y r ih =>
  intro ls V h a x;rw [Ch] at h
  split at h
  ·rename_i J
   have v:=ih h a x;have B:=Ab9 J a x
   have e:mvS a x (y::r)=mv a x y+mvS a x r:=by simp [mvS]
   rw [v,e];unfold mv;omega
  ·cases h
def say (a:Int) (c:Cs):Int:=(if a=c.acq then c.am - c.bk else 0) - (if a=c.iss then c.am - c.bk else 0)
def R4 (a x:Int) (e:En):Int:=if e.2.1=9999/\a=e.1/\x=e.2.2.1 then e.2.2.2 else 0
def K1 (a x:Int) (es:List En):Int:=(es.map (R4 a x)).sum
theorem R5 {c:Cs} (o:Ao c=true):c.iss≠9999/\c.acq≠9999/\c.iss≠c.acq:=by
 obtain ⟨p0,p1,p2,_⟩:=Jb o;exact ⟨(K4 p0).2,(K4 p1).2,p2⟩
theorem Aet {c:Cs} {e:En} (h:uH c e) (o:Ao c=true) (a x:Int) (D:a≠9999) :
  mv a x e=(if x=c.cur then (if a=c.iss then xY c e else 0) - (if a=c.acq then xY c e else 0) else 0) - R4 a x e:=by
 obtain ⟨v,B,h3⟩:=R5 o;obtain ⟨-,Z,k3⟩:=h;obtain ⟨p,q,u,m⟩:=e
 simp only at Z k3
 subst Z;unfold mv xY R4
 simp only
 repeat' split
 all_goals omega
theorem Abg {c:Cs} {e:En} (h:uH c e) (o:Ao c=true) (x:Int):mv 9999 x e=if x=c.cur then tV e else 0:=by
 obtain ⟨v,B,h3⟩:=R5 o;obtain ⟨k1,Z,k3⟩:=h;have k4:=(Lq k1).2.2.1;obtain ⟨p,q,u,m⟩:=e
 simp only at Z k3 k4
 subst Z;unfold mv tV
 simp only
 repeat' split
 all_goals omega
theorem Aek {c:Cs} (o:Ao c=true) (a x:Int) (D:a≠9999):∀ {es:List En},(∀ e ∈ es,uH c e) ->
  mvS a x es=(if x=c.cur then (if a=c.iss then Lp c es else 0) - (if a=c.acq then Lp c es else 0) else 0) - K1 a x es:=by
 intro es
 induction es with
 | nil=>intro _;simp [mvS,Lp,K1]
 | cons e r ih =>
  intro h
  have v:=ih fun y hy=>h y (List.mem_cons_of_mem _ hy)
  have B:=Aet (h e (List.mem_cons_self ..)) o a x D
  have e1:mvS a x (e::r)=mv a x e+mvS a x r:=by simp [mvS]
  have e2:Lp c (e::r)=xY c e+Lp c r:=by simp [Lp]
  have e3:K1 a x (e::r)=R4 a x e+K1 a x r:=by simp [K1]
  rw [e1,e2,e3,v,B]
  repeat' split
  all_goals omega
theorem Aaa {c:Cs} (o:Ao c=true) (x:Int):∀ {es:List En},(∀ e ∈ es,uH c e)->mvS 9999 x es=if x=c.cur then A4 es else 0:=by
 intro es
 induction es with
 | nil=>intro _;simp [mvS,A4]
 | cons e r ih =>
  intro h
  have v:=ih fun y hy=>h y (List.mem_cons_of_mem _ hy)
  have B:=Abg (h e (List.mem_cons_self ..)) o x
  have e1:mvS 9999 x (e::r)=mv 9999 x e+mvS 9999 x r:=by simp [mvS]
  have e2:A4 (e::r)=tV e+A4 r:=by simp [A4]
  rw [e1,e2,v,B]
  split <;> omega
def wV (c:Cs) (e:En):Prop:=e.2.1=9999->e.2.2.2=50000/\(e.1=c.iss\/e.1=c.acq)
theorem vF {c:Cs} {n:Int} {e:En} (o:Ao c=true) (h:e ∈ Bg c n):wV c e:=by
 obtain ⟨v,B,_⟩:=R5 o;unfold Bg at h
 split at h
 ·cases h
 ·simp at h;subst h
  exact fun L=>absurd L v
theorem Aav {c:Cs} {n:Int} {e:En} (o:Ao c=true) (h:e ∈ Dw c n):wV c e:=by
 obtain ⟨v,B,_⟩:=R5 o;unfold Dw at h
 split at h
 ·cases h
 ·simp at h;subst h
  exact fun L=>absurd L B
theorem zP {c:Cs} {n:Int} {e:En} (o:Ao c=true) (h:e ∈ Dg c n):wV c e:=by
 unfold Dg at h
 rcases List.mem_append.1 h with h | h
 ·exact vF o h
 ·simp at h;subst h
  refine fun _=>⟨rfl,?_⟩
  show Oo c n=c.iss\/Oo c n=c.acq
  unfold Oo;split
  ·exact .inr rfl
  ·exact .inl rfl
theorem Adi {c:Cs} {a:Ac} {e:En} (o:Ao c=true) (h:e ∈ Bw c a):wV c e:=by
 unfold Bw at h
 split at h
 ·exact vF o h
 split at h
 ·exact Aav o h
 split at h
 ·exact vF o h
 split at h
 ·exact zP o h
 split at h
 ·unfold Ck at h
  split at h
  ·cases h
  split at h
  ·exact vF o h
  split at h
  ·exact zP o h
  ·cases h
 ·cases h
theorem Abr {c:Cs} {e:En} (h:wV c e) (a x:Int):0<=R4 a x e/\R4 a x e % 50000=0:=by
 unfold R4
 split
 ·rename_i hh
  have:=(h hh.1).1
  omega
 ·omega
theorem Aas {c:Cs} (a x:Int):∀ {es:List En},(∀ e ∈ es,wV c e)->0<=K1 a x es/\K1 a x es % 50000=0:=by
 intro es
 induction es with
 | nil=>intro _;simp [K1]
 | cons e r ih =>
  intro h
  have v:=ih fun y hy=>h y (List.mem_cons_of_mem _ hy)
  have B:=Abr (h e (List.mem_cons_self ..)) a x
  have e3:K1 a x (e::r)=R4 a x e+K1 a x r:=by simp [K1]
  omega
theorem yW (E G:Int->Int):∀ n,qpT (fun a=>E a+G a) n=qpT E n+qpT G n
 | 0=>rfl
 | n+1=>by rw [qpT,qpT,qpT,yW E G n];omega
theorem uK:∀ n,qpT (fun _=>0) n=0
 | 0=>rfl
 | n+1=>by rw [qpT,uK n];rfl
theorem Adp {c:Cs} {e:En} (h:wV c e) (S:uH c e) (v:1<=c.iss/\c.iss<=8) (B:1<=c.acq/\c.acq<=8) (x:Int):qpT (fun a=>R4 a x e) 8=if x=c.cur then tV e else 0:=by
 have a3:=S.2.1
 by_cases L:e.2.1=9999
 ·have J:1<=e.1/\e.1<=8:=by rcases (h L).2 with g | g <;> omega
  by_cases hx:x=c.cur
  ·have e1:(fun a=>R4 a x e)=fun a=>if a=e.1 then e.2.2.2 else 0:=by
     funext a
     unfold R4
     by_cases D:a=e.1
     ·rw [if_pos ⟨L,D,by rw [hx,a3]⟩,if_pos D]
     ·rw [if_neg (fun q=>D q.2.1),if_neg D]
   rw [e1,Aex _ _ J,if_pos hx,tV,if_pos L]
  ·have e1:(fun a=>R4 a x e)=fun _=>0:=by
     funext a
     unfold R4
     rw [if_neg (fun q=>hx (by rw [q.2.2,a3]))]
   rw [e1,uK,if_neg hx]
 ·have e1:(fun a=>R4 a x e)=fun _=>0:=by
    funext a
    unfold R4
    rw [if_neg (fun q=>L q.1)]
  rw [e1,uK,tV,if_neg L]
  split <;> rfl
theorem Abs {c:Cs} (v:1<=c.iss/\c.iss<=8) (B:1<=c.acq/\c.acq<=8) (x:Int):∀ {es:List En},(∀ e ∈ es,wV c e)->(∀ e ∈ es,uH c e)->qpT (fun a=>K1 a x es) 8=if x=c.cur then A4 es else 0:=by
 intro es
 induction es with
 | nil =>
  intro _ _
  have e1:(fun a=>K1 a x [])=fun _=>0:=by funext a;simp [K1]
  rw [e1,uK];simp [A4]
 | cons e r ih =>
  intro h k
  have g1:=ih (fun y hy=>h y (List.mem_cons_of_mem _ hy)) (fun y hy=>k y (List.mem_cons_of_mem _ hy))
  have g2:=Adp (h e (List.mem_cons_self ..)) (k e (List.mem_cons_self ..)) v B x
  have e1:(fun a=>K1 a x (e::r))=fun a=>R4 a x e+K1 a x r:=by funext a;simp [K1]
  have e2:A4 (e::r)=tV e+A4 r:=by simp [A4]
  rw [e1,yW,g1,g2,e2]
  split <;> omega
def zT (c d:Cs):Prop:=d.iss=c.iss/\d.acq=c.acq/\d.cur=c.cur/\d.am=c.am
theorem Aci {p:Prop} [Decidable p] {c x y:Cs} (hx:zT c x) (hy:zT c y):zT c (if p then x else y):=by
 split
 ·exact hx
 ·exact hy
theorem Aay (c:Cs) (a:Ac) (t:Int) (zs:List Int):zT c (Bx c a t zs):=by
 unfold Bx Cx
 repeat' (first | refine Aci ?_ ?_ | exact ⟨rfl,rfl,rfl,rfl⟩)
theorem vG (P:Cs->Bool) (f:Cs->Int) (cs:List Cs) (c:Cs):tot P f (cs++[c])=tot P f cs+if P c=true then f c else 0:=by
 induction cs with
 | nil=>simp [tot]
 | cons d r ih=>rw [List.cons_append,tot,tot,ih];omega
theorem wS (P:Cs->Bool) (f:Cs->Int) (d:Cs):∀ (cs:List Cs) (k:Nat),k<cs.length->tot P f (cs.set k d)=tot P f cs - (if P (A8 cs k)=true then f (A8 cs k) else 0)+if P d=true then f d else 0
 | [],k,h=>by simp at h
 | c::r,0,_=>by
  have e:A8 (c::r) 0=c:=rfl
  rw [List.set_cons_zero,tot,tot,e];omega
 | c::r,k+1,h=>by
  have e:A8 (c::r) (k+1)=A8 r k:=rfl
  have g:=wS P f d r k (by simp at h;omega)
  rw [List.set_cons_succ,tot,tot,e,g];omega
structure TopI (b:Bk):Prop where
 ci:∀ c ∈ b.cs,∃ n,Inv c n
 fees:∃ F:Int->Int->Int,(∀ a x,0<=F a x/\F a x % 50000=0)/\(∀ a x,a≠9999->K2 b.ls a x=tot (L4 x) (say a) b.cs - F a x)/\∀ x,K2 b.ls 9999 x=tot (L4 x) Cs.fee b.cs/\K2 b.ls 9999 x=qpT (fun a=>F a x) 8
theorem vM {b c:Bk} (h:TopI b) (v:c.cs=b.cs) (B:c.ls=b.ls):TopI c:=⟨by rw [v];exact h.ci,by rw [v,B];exact h.fees⟩
theorem top_start (t:Int) (zs:List Int):TopI ⟨t,zs,[],[],[],[]⟩:=by
 refine ⟨fun c o=>(by cases o),fun _ _=>0,fun _ _=>(by show (0:Int)<=0/\(0:Int) % 50000=0;omega),fun _ _ _=>rfl,fun x=>⟨rfl,?_⟩⟩
 rw [uK];rfl
theorem Ac5 {b:Bk} (h:TopI b) {n0 n1 n2 n3:Int} {r:Bk×Int} (J:sG b n0 n1 n2 n3 r):TopI r.1:=by
 obtain ⟨x,-,rfl⟩:=J;unfold Jk
 split
 ·exact h
 split
 ·exact h
 split
 ·exact h
 rename_i T
 split
 ·exact h
 rename_i M
 have H:Ao (Ci n0 n1 n2 n3 b.today)=true:=by
  have v:F0.stOk n0 n1 n2 n3 b.today=true:=by simpa using T
  exact v
 have e1:Jh n0 n1 n2 n3 b.today=Ci n0 n1 n2 n3 b.today:=if_pos H;have e2:Ft n0 n1 n2 n3 b.today=[(n0,n1,n2,n3)]:=if_pos H
 have N:allOk b.ls (Ft n0 n1 n2 n3 b.today)=true:=by
  have v:F0.allOk b.ls (F0.stE n0 n1 n2 n3 b.today)=true:=by simpa using M
  exact v
 obtain ⟨V,R⟩:=Option.isSome_iff_exists.1 N
 have e3:Hv b.ls (Ft n0 n1 n2 n3 b.today)=V:=by unfold Hv;rw [R];rfl
 obtain ⟨k1,Z,k3⟩:=R5 H;have a4:n0≠9999:=k1;have a5:n1≠9999:=Z;have a7:n0≠n1:=k3;have w:=wD R;rw [e2] at w;obtain ⟨F,f1,f2,f3⟩:=h.fees
 refine ⟨fun c o=>?_,?_⟩
 ·have I:c ∈ b.cs++[Jh n0 n1 n2 n3 b.today]:=o
  rcases List.mem_append.1 I with I | I
  ·exact h.ci c I
  ·simp at I;rw [I,e1];exact ⟨0,Aan H⟩
 ·show ∃ F:Int->Int->Int,(∀ a x,0<=F a x/\F a x % 50000=0)/\(∀ a x,a≠9999->K2 (Hv b.ls (Ft n0 n1 n2 n3 b.today)) a x=tot (L4 x) (say a) (b.cs++[Jh n0 n1 n2 n3 b.today]) - F a x)/\∀ x,K2 (Hv b.ls (Ft n0 n1 n2 n3 b.today)) 9999 x=tot (L4 x) Cs.fee (b.cs++[Jh n0 n1 n2 n3 b.today])/\K2 (Hv b.ls (Ft n0 n1 n2 n3 b.today)) 9999 x=qpT (fun a=>F a x) 8
  rw [e3,e1]
  have hm:∀ a x,mvS a x [(n0,n1,n2,n3)]=(if a=n0/\x=n2 then -n3 else 0)+if a=n1/\x=n2 then n3 else 0:=fun a x=>by simp [mvS,mv]
  refine ⟨F,f1,fun a x D=>?_,fun x=>?_⟩
  ·rw [w a x,hm,f2 a x D,vG]
   have e4:say a (Ci n0 n1 n2 n3 b.today)=(if a=n1 then n3 - 0 else 0) - (if a=n0 then n3 - 0 else 0):=rfl
   have e5:(L4 x (Ci n0 n1 n2 n3 b.today)=true)=(n2=x):=by
    show ((n2 == x)=true)=(n2=x)
    rw [beq_iff_eq]
   rw [e4]
   simp only [e5]
   repeat' split
   all_goals omega
  ·have e6:K2 V 9999 x=K2 b.ls 9999 x:=by
     rw [w 9999 x,hm,if_neg (fun q=>a4 q.1.symm),if_neg (fun q=>a5 q.1.symm)];omega
   have e7:(Ci n0 n1 n2 n3 b.today).fee=0:=rfl;rw [e6,vG,e7];refine ⟨?_,(f3 x).2⟩;rw [(f3 x).1]
   split <;> omega
theorem Ada {b:Bk} (h:TopI b) (J:Par b) (i:Int) (x:Ac):TopI (Ja F0 b i x).1:=by
 unfold Ja
 split
 ·exact h
 rename_i hi
 split
 ·exact h
 rename_i hv
 split
 ·exact h
 rename_i M
 have W:i.toNat<b.cs.length:=by
  have:0<=i/\i<=(b.cs.length:Int) - 1:=Classical.not_not.1 hi
  omega
 have C:doV (A8 b.cs i.toNat) x b.today b.off=0:=Classical.not_not.1 hv;obtain ⟨k,S⟩:∃ k,i.toNat=k:=⟨_,rfl⟩;rw [S] at W C M ⊢;obtain ⟨c,o⟩:∃ c,A8 b.cs k=c:=⟨_,rfl⟩
 have X:c ∈ b.cs:=by rw [<- o];exact Xg W
 rw [o] at C M ⊢;have e1:doC c x b.today b.off=Bx c x b.today b.off:=if_pos C;have e2:doE c x b.today b.off=Bw c x:=if_pos C
 have N:allOk b.ls (doE c x b.today b.off)=true:=by
  have v:F0.allOk b.ls (F0.doE c x b.today b.off)=true:=by simpa using M
  exact v
 obtain ⟨V,R⟩:=Option.isSome_iff_exists.1 N
 have e3:Hv b.ls (doE c x b.today b.off)=V:=by unfold Hv;rw [R];rfl
 have w:=wD R;rw [e2] at w;obtain ⟨n,Y⟩:=h.ci c X;have T:=Y.1;obtain ⟨g1,g2⟩:=J.pc c X;obtain ⟨m1,m2,m3⟩:=Ac1 C
 have a6:Lp c (Bw c x)=(Bx c x b.today b.off).bk - c.bk:=by
  rcases m2 with ⟨q1,q2⟩ | q
  ·have ho:=Jt (nG C).2.1
   have:=(Y.2.1 (by omega)).2
   omega
  ·exact q
 obtain ⟨s1,s2,s3,s4⟩:=Aay c x b.today b.off
 have L:∀ e ∈ Bw c x,wV c e:=fun e he=>Adi T he
 obtain ⟨F,f1,f2,f3⟩:=h.fees
 refine ⟨fun d hd=>?_,?_⟩
 ·have O:d ∈ b.cs.set k (doC c x b.today b.off):=hd
  rcases List.mem_or_eq_of_mem_set O with O | O
  ·exact h.ci d O
  ·rw [O,e1];exact ⟨_,Abc Y C⟩
 ·show ∃ F:Int->Int->Int,(∀ a y,0<=F a y/\F a y % 50000=0)/\(∀ a y,a≠9999->K2 (Hv b.ls (doE c x b.today b.off)) a y=tot (L4 y) (say a) (b.cs.set k (doC c x b.today b.off)) - F a y)/\∀ y,K2 (Hv b.ls (doE c x b.today b.off)) 9999 y=tot (L4 y) Cs.fee (b.cs.set k (doC c x b.today b.off))/\K2 (Hv b.ls (doE c x b.today b.off)) 9999 y=qpT (fun a=>F a y) 8
  rw [e3,e1]
  generalize Bx c x b.today b.off=d at *
  generalize Bw c x=es at *
  refine ⟨fun a y=>F a y+K1 a y es,fun a y=>?_,fun a y D=>?_,fun y=>?_⟩
  ·have:=f1 a y
   have:=Aas a y L
   show 0<=F a y+K1 a y es/\(F a y+K1 a y es) % 50000=0
   omega
  ·rw [w a y,Aek T a y D m1,f2 a y D,wS _ _ _ _ _ W,o]
   have e5:∀ z:Cs,(L4 y z=true)=(z.cur=y):=fun z=>by
    show ((z.cur == y)=true)=(z.cur=y)
    rw [beq_iff_eq]
   simp only [e5,say,s1,s2,s3,s4,a6]
   repeat' split
   all_goals omega
  ·have e5:∀ z:Cs,(L4 y z=true)=(z.cur=y):=fun z=>by
     show ((z.cur == y)=true)=(z.cur=y)
     rw [beq_iff_eq]
   rw [w 9999 y,Aaa T y m1,yW,Abs g1 g2 y L m1,wS _ _ _ _ _ W,o,(f3 y).1];have q:=(f3 y).2;rw [(f3 y).1] at q
   refine ⟨?_,by rw [q]⟩
   simp only [e5,s3,m3]
   repeat' split
   all_goals omega
theorem Abh {b:Bk} (h:TopI b) (J:Par b) {U:List UInt8} {r:Bk×Int} (A:Fu b U r):TopI r.1:=by
 unfold Fu Db at A
 have hb:r=(b,1)->TopI r.1:=fun e=>by rw [e];exact h
 split at A
 ·rw [A];unfold Fr;split
  ·exact vM h rfl rfl
  ·exact h
 split at A
 ·split at A
  ·rw [A];unfold Fq;split
   ·exact vM h rfl rfl
   ·exact h
  ·exact hb A
 split at A
 ·split at A
  ·exact Ac5 h A
  ·exact hb A
 split at A
 ·split at A
  ·rw [A];exact Ada h J _ _
  ·exact hb A
 ·exact hb A
theorem top_do {b:Bk} (h:TopI b) (J:Par b) {U:List UInt8} {r:Bk×Int} (A:Fg Fu b U r):TopI r.1:=by
 rcases A with ⟨-,rfl⟩ | ⟨-,s,hs,⟨-,rfl⟩ | ⟨-,rfl⟩⟩
 ·exact h
 ·exact h
 ·exact vM (Abh h J hs) rfl rfl
theorem Acb {G:Int->Int} (h:∀ a,0<=G a) (n:Nat):∀ k,qpT G n<=qpT G (n+k)
 | 0=>Int.le_refl _
 | k+1=>by have:=Acb h n k;have:=h (((n+k:Nat):Int)+1);rw [show n+(k+1)=(n+k)+1 from rfl,qpT];omega
theorem Abx {G:Int->Int} (h:∀ a,0<=G a) (n:Nat):0<=qpT G n:=by
 have:=Acb h 0 n
 rw [Nat.zero_add] at this;exact this
theorem Adb {P:Cs->Bool} {f g:Cs->Int} {cs:List Cs} (h:∀ c ∈ cs,∃ k:Int,f c=g c+k*18446744073709551616):∃ k:Int,tot P f cs=tot P g cs+k*18446744073709551616:=by
 induction cs with
 | nil=>exact ⟨0,by simp [tot]⟩
 | cons c r ih =>
  obtain ⟨k,S⟩:=ih fun d hd=>h d (List.mem_cons_of_mem _ hd)
  obtain ⟨j,hj⟩:=h c (List.mem_cons_self ..);rw [tot,tot,S]
  split
  ·exact ⟨k+j,by rw [hj];omega⟩
  ·exact ⟨k,by omega⟩
theorem Acv {c:Cs} (o:Ao c=true) {a:Int} (D:a≠9999):∃ k:Int,Qw a c=say a c+k*18446744073709551616:=by
 obtain ⟨_,_,_,_,p4,_,_,_,p8,_⟩:=Jb o
 have e:Z7 c=c.am - c.bk:=by unfold Z7 wrap64;omega
 obtain ⟨k,S⟩:=Adw a c D;rw [e] at S;exact ⟨k,S⟩
theorem top_say {b:Bk} (h:TopI b) (J:Par b) (hl:At b.ls=true) (x:Int) :
  ∃ G:Int->Int,(∀ n,0<=qpT G n)/\(∀ n,n<=8->qpT G n<=1000000000000)/\(∀ n:Nat,n<8->0<=G ((n:Int)+1)/\G ((n:Int)+1)<=1000000000000/\G ((n:Int)+1) % 50000=0/\R3 (L4 x) (Qw ((n:Int)+1)) b.cs=K2 b.ls ((n:Int)+1) x+G ((n:Int)+1))/\qpT G 8=K2 b.ls 9999 x/\R3 (L4 x) (Qw 9999) b.cs=K2 b.ls 9999 x:=by
 obtain ⟨F,f1,f2,f3⟩:=h.fees
 have h0:∀ a,0<=F a x:=fun a=>(f1 a x).1
 have h8:qpT (fun a=>F a x) 8<=1000000000000:=by rw [<- (f3 x).2];exact (yG hl 9999 x).2
 have hu:∀ n,n<=8->qpT (fun a=>F a x) n<=1000000000000:=fun n hn=>by
  have:=Acb h0 n (8 - n)
  rw [show n+(8 - n)=8 from by omega] at this
  omega
 refine ⟨fun a=>F a x,Abx h0,hu,fun n hn=>?_,(f3 x).2.symm,?_⟩
 ·have g1:=hu (n+1) (by omega)
  have g2:=Abx h0 n
  have g1:qpT (fun a=>F a x) n+F ((n:Int)+1) x<=1000000000000:=g1
  have g3:=f1 ((n:Int)+1) x
  refine ⟨g3.1,by show F ((n:Int)+1) x<=1000000000000;omega,g3.2,?_⟩
  show R3 (L4 x) (Qw ((n:Int)+1)) b.cs=K2 b.ls ((n:Int)+1) x+F ((n:Int)+1) x
  have g4:=f2 ((n:Int)+1) x (by omega)
  have g5:=yG hl ((n:Int)+1) x;obtain ⟨k,S⟩:=zQ (L4 x) (Qw ((n:Int)+1)) b.cs
  obtain ⟨j,hj⟩:=Adb (P:=L4 x) (f:=Qw ((n:Int)+1)) (g:=say ((n:Int)+1)) (cs:=b.cs) fun c o=>by
   obtain ⟨m,hm⟩:=h.ci c o
   exact Acv hm.1 (by omega)
  have g6:=zK (L4 x) (Qw ((n:Int)+1)) b.cs;rw [hj] at S
  generalize R3 (L4 x) (Qw ((n:Int)+1)) b.cs=s at *
  generalize tot (L4 x) (say ((n:Int)+1)) b.cs=t at *
  generalize F ((n:Int)+1) x=f at *
  generalize K2 b.ls ((n:Int)+1) x=l at *
  omega
 ·rw [Aeq J]
  obtain ⟨k,S⟩:=zQ (L4 x) Cs.fee b.cs;have g5:=yG hl 9999 x;have g6:=zK (L4 x) Cs.fee b.cs;rw [(f3 x).1] at g5 ⊢
  generalize R3 (L4 x) Cs.fee b.cs=s at *
  generalize tot (L4 x) Cs.fee b.cs=t at *
  omega
def uF (x:List UInt8):Prop:=∀ c ∈ x,c≠10
theorem zO:∀ l:List UInt8,(∀ c ∈ l,c≠32)\/∃ x r,(∀ c ∈ x,c≠32)/\l=x++32::r
 | []=>.inl fun c m=>by cases m
 | a::t=>by
  by_cases B:a=32
  ·exact .inr ⟨[],t,(fun c m=>by cases m),by rw [B];rfl⟩
  ·rcases zO t with h | ⟨x,r,y,rfl⟩
   ·refine .inl fun c m=>?_
    rcases List.mem_cons.1 m with rfl | m
    ·exact B
    ·exact h c m
   ·refine .inr ⟨a::x,r,fun c m=>?_,rfl⟩
    rcases List.mem_cons.1 m with rfl | m
    ·exact B
    ·exact y c m
theorem xE:∀ (n:Nat) (l:List UInt8),l.length<=n->(∀ w ∈ Ab l,uF w)->uF l
 | n,l,v,h=>by
  rcases zO l with g | ⟨x,r,y,rfl⟩
  ·rw [Kb.words_none g] at h
   exact h l (List.mem_singleton.2 rfl)
  ·rw [Kb.words_consK y] at h
   have H:=h x (List.mem_cons_self ..)
   have hl:r.length+1<=n:=by simp at v;omega
   match n,hl with
   | n+1,hl =>
    have I:=xE n r (by omega) fun w hw=>h w (List.mem_cons_of_mem _ hw)
    intro c m
    rcases List.mem_append.1 m with m | m
    ·exact H c m
    ·rcases List.mem_cons.1 m with rfl | m
     ·decide
     ·exact I c m
theorem Abm {s:List UInt8} (h:0<=Ae s):uF s:=by
 unfold Ae at h
 split at h
 ·omega
 split at h
 ·omega
 rename_i hd
 have e:Lib.decDigits (Dr s).toNat=s:=Classical.not_not.1 fun q=>hd (.inr q)
 intro c m q;rw [<- e] at m
 have:=(vY (Dr s).toNat).1 c m
 rw [q] at this
 revert this;decide
theorem xS (s:List UInt8):∀ (rs:Be) (k:Nat),0<=Dh s rs k->s ∈ rs
 | [],_,h=>by simp [Dh] at h
 | r::t,k,h=>by
  unfold Dh at h
  split at h
  ·rename_i e;rw [<- e];exact List.mem_cons_self ..
  ·exact List.mem_cons_of_mem _ (xS s t (k+1) h)
theorem Ac7 {s:List UInt8} (h:0<=Bz s):uF s:=by
 have L:=xS s Dm 0 h
 have B:∀ r ∈ Dm,∀ c ∈ r,c≠10:=by decide
 exact B s L
theorem Ad3 {s:List UInt8} (h:Kk s=true):uF s:=by
 unfold Kk at h;rw [Bool.and_eq_true] at h;intro c m q;have hw:=h.2;unfold A6 at hw
 have:=List.all_eq_true.1 hw c m
 rw [q] at this
 revert this;decide
theorem Ac0 {rs:Be} {r:List UInt8} (h:r ∈ rs):∃ k,k<rs.length/\r=Al rs k:=by
 obtain ⟨k,F,e⟩:=List.mem_iff_getElem.1 h
 exact ⟨k,F,by rw [<- e];simp [Al,List.getD_eq_getElem?_getD,F]⟩
theorem tY {rs:Be} (h:Ap rs=true) {r:List UInt8} (o:r ∈ rs):uF r:=by
 have:=List.all_eq_true.1 h r o
 exact Abm (by simpa using this)
theorem xN (rs:Be) (d k:Nat) (h:d+k<rs.length):Al rs (d+k) ∈ rs.drop d:=by
 have e:Al rs (d+k)=(rs.drop d)[k]'(by simp;omega):=by
  rw [List.getElem_drop]
  simp [Al,List.getD_eq_getElem?_getD,h]
 rw [e];exact List.getElem_mem _
theorem Ac2 {b:Bk} {f:List UInt8} {r:Bk×Int} (o:Fu b f r) (A:r.2=0):uF f:=by
 refine xE _ f nL fun w hw=>?_
 obtain ⟨k,F,rfl⟩:=Ac0 hw;clear hw;unfold Fu Db at o
 have hb:r=(b,1)->False:=fun e=>by rw [e] at A;cases A
 split at o
 ·rename_i hd
  simp only [Ca,Bool.and_eq_true,decide_eq_true_eq] at hd
  obtain ⟨z,C,D⟩:=hd
  rcases (show k=0\/k=1 by omega) with rfl | rfl
  ·rw [z];unfold uF;decide
  ·exact Abm D
 split at o
 ·rename_i hd
  simp only [Bq,Bool.and_eq_true,decide_eq_true_eq] at hd
  obtain ⟨z,C⟩:=hd
  split at o
  ·rename_i v
   by_cases hk0:k=0
   ·subst hk0;rw [z];unfold uF;decide
   by_cases hk1:k=1
   ·subst hk1
    unfold Fq at o
    split at o
    ·rename_i G
     have u:addOk b.az ⟨Al (Ab f) 1,Ae (Al (Ab f) 2),Ae (Al (Ab f) 3),Ae (Al (Ab f) 4),b.today,false⟩=true:=G;unfold addOk at u;rw [Bool.and_eq_true] at u;exact Ad3 (L0 u.1).1
    ·rw [o] at A;cases A
   ·have:=xN (Ab f) 2 (k - 2) (by omega)
    rw [show 2+(k - 2)=k from by omega] at this
    exact tY v this
  ·exact absurd (hb o) id
 split at o
 ·rename_i hd
  simp only [Da,Bool.and_eq_true,decide_eq_true_eq] at hd
  obtain ⟨z,C⟩:=hd
  split at o
  ·rename_i v
   by_cases hk0:k=0
   ·subst hk0;rw [z];unfold uF;decide
   ·have:=xN (Ab f) 1 (k - 1) (by omega)
    rw [show 1+(k - 1)=k from by omega] at this
    exact tY v this
  ·exact absurd (hb o) id
 split at o
 ·rename_i hd
  simp only [Fl,Bool.and_eq_true,decide_eq_true_eq] at hd
  obtain ⟨z,C,D⟩:=hd
  split at o
  ·rename_i v
   rcases (show k=0\/k=1\/k=2\/k=3\/k=4 by omega) with rfl | rfl | rfl | rfl | rfl
   ·rw [z];unfold uF;decide
   ·exact tY v (by simp)
   ·exact Ac7 D
   ·exact tY v (by simp)
   ·exact tY v (by simp)
  ·exact absurd (hb o) id
 ·exact absurd (hb o) id
def NlI (b:Bk):Prop:=∀ l ∈ b.log,uF l
theorem nl_do {b:Bk} (h:NlI b) {f:List UInt8} {r:Bk×Int} (o:Fg Fu b f r):NlI r.1:=by
 rcases o with ⟨-,rfl⟩ | ⟨-,s,hs,⟨-,rfl⟩ | ⟨A,rfl⟩⟩
 ·exact h
 ·exact h
 ·intro l hl
  have p:l ∈ b.log++[f]:=hl
  rcases List.mem_append.1 p with p | p
  ·exact h l p
  ·rw [List.mem_singleton.1 p];exact Ac2 hs A
theorem yZ {x r:List UInt8} (y:uF x):∀ i,i<=x.length->Kb.scanN (x++10::r) i=([],0):=by
 intro i
 induction i with
 | zero=>intro _;rfl
 | succ i ih =>
  intro hi
  have hg:(x++10::r).getD i 0=x[i]:=by
   rw [List.getD_eq_getElem?_getD,List.getElem?_append_left (by omega),List.getElem?_eq_getElem (by omega)]
   rfl
  rw [Kb.scanN_no (by rw [hg];exact y _ (List.getElem_mem _))]
  exact ih (by omega)
theorem Adj (x r:List UInt8) (s:Nat):(x++10::r).drop (x.length+1+s)=r.drop s:=by
 rw [List.drop_append,List.drop_of_length_le (by omega),List.nil_append,show x.length+1+s - x.length=s+1 from by omega]
 rfl
theorem yD {x r:List UInt8} (y:uF x):∀ j,j<=r.length->Kb.scanN (x++10::r) (x.length+1+j)=(x::(Kb.scanN r j).1,x.length+1+(Kb.scanN r j).2):=by
 intro j
 induction j with
 | zero =>
  intro _
  have hg:(x++10::r).getD x.length 0=10:=by simp [List.getD_eq_getElem?_getD]
  show Kb.scanN (x++10::r) (x.length+1)=_
  rw [Kb.scanN_yes hg,yZ y _ nL]
  simp [Kb.scanN]
 | succ j ih =>
  intro M
  have h:=ih (by omega)
  have hg:(x++10::r).getD (x.length+1+j) 0=r.getD j 0:=by
   rw [List.getD_eq_getElem?_getD,List.getElem?_append_right (by omega),show x.length+1+j - x.length=j+1 from by omega]
   simp [List.getD_eq_getElem?_getD]
  have J:=(Kb.scanN_le r j).1
  by_cases h32:r.getD j 0=10
  ·rw [show x.length+1+(j+1)=(x.length+1+j)+1 from by omega,Kb.scanN_yes (by rw [hg];exact h32),h,Kb.scanN_yes h32]
   simp only [List.cons_append]
   rw [Adj,show x.length+1+j - (x.length+1+(Kb.scanN r j).2)=j - (Kb.scanN r j).2 from by omega]
   rfl
  ·rw [show x.length+1+(j+1)=(x.length+1+j)+1 from by omega,Kb.scanN_no (by rw [hg];exact h32),h,Kb.scanN_no h32]
theorem yX {x r:List UInt8} (y:uF x):Kb.linesN (x++10::r)=x::Kb.linesN r:=by
 have h:=yD y (r:=r) r.length nL
 have hl:(x++10::r).length=x.length+1+r.length:=by simp;omega
 rw [Kb.linesN,hl,h,Kb.linesN]
theorem lines_again:∀ {lg:Be},(∀ l ∈ lg,uF l)->Kb.linesN (K5 lg)=lg
 | [],_=>rfl
 | r::s,h=>by
  have e:K5 (r::s)=r++10::K5 s:=by simp [K5]
  rw [e,yX (h r (List.mem_cons_self ..)),lines_again fun l hl=>h l (List.mem_cons_of_mem _ hl)]
end Top
end Go.Proofs.YtomiclakhjncbaaGreatDoor
