import Derived.Test.YtomiclakhjncbaaGreatDoorKESDo6
import Derived.Test.YtomiclakhjncbaaGreatDoorKEBkPayS
import Derived.Test.YtomiclakhjncbaaGreatDoorKEFDis7
set_option maxRecDepth 100000
set_option maxHeartbeats 12800000
namespace Go.Proofs.YtomiclakhjncbaaGreatDoor
open Go.RowKit Go.Proofs.Tryz
def F0:Ff where
 prune:=E5
 use:=M7
 useOk:=useOk
 add:=Hp
 addOk:=addOk
 best:=Gm
 stC:=Jh
 stE:=Ft
 stOk:=fun iY aZ uV am day=>Ao (Ci iY aZ uV am day)
 doC:=doC
 doE:=doE
 doV:=doV
 all:=Hv
 allOk:=allOk
theorem Ra (iY aZ uV am day:Int):(Ft iY aZ uV am day).length≤1:=by unfold Ft;split <;> simp
theorem Yz:Nc F0 where
 prune:=fun ao cap az t w h hn=>Zi ao cap az t w h (by omega)
 use:=fun ao cap az i w h hn=>kZ ao cap az i w h (by omega)
 add:=fun ao cap az a w h hn hl=>Yb ao cap az a w h hn (by omega)
 best:=fun ao cap az iY uV am day w h hn hd w3 w4=>eR ao cap az iY uV am day w h hn (fun a ha=>by have:=hd a ha;omega) w3 w4
 start:=fun iY aZ uV am day w=>X3 iY aZ uV am day w
 small:=fun iY aZ uV am day=>by have:=Ra iY aZ uV am day;show (Ft iY aZ uV am day).length≤1048576;omega
 act:=fun c a t ao cp zs w h hn=>oC c a t ao cp zs w h (by omega)
 few:=fun c a t zs=>by have:=bM c a t zs;show (doE c a t zs).length≤1048576;omega
 code:=fun c a t zs=>by have:=kB c a t zs;show 0≤doV c a t zs∧doV c a t zs≤1000;omega
 post:=fun ao cap ls eo ec es w h hn hy hm=>U3 ao cap ls eo ec es w h hn hy hm
theorem uR {ls:List Ln} {a c m:Int} {x:Ln} (h:x ∈ Cr ls a c m):x.1=a∨∃ y ∈ ls,y.1=x.1:=by
 induction ls with
 | nil=>simp [Cr] at h;subst h;exact .inl rfl
 | cons y r ih =>
  unfold Cr at h
  split at h
  ·split at h
   ·split at h
    ·rcases List.mem_cons.1 h with rfl | h
     ·exact .inl rfl
     ·exact .inr ⟨x,List.mem_cons_of_mem _ h,rfl⟩
    ·exact .inr ⟨x,List.mem_cons_of_mem _ h,rfl⟩
   ·rcases List.mem_cons.1 h with rfl | h
    ·exact .inl rfl
    ·exact .inr ⟨x,h,rfl⟩
  ·rcases List.mem_cons.1 h with rfl | h
   ·exact .inr ⟨x,List.mem_cons_self ..,rfl⟩
   ·rcases ih h with h | ⟨z,hz,hx⟩
    ·exact .inl h
    ·exact .inr ⟨z,List.mem_cons_of_mem _ hz,hx⟩
theorem uS (ls:List Ln) (a c m:Int):(Cr ls a c m).length≤ls.length+1:=by
 induction ls with
 | nil=>simp [Cr]
 | cons y r ih =>
  unfold Cr
  split
  ·split
   ·split
    ·simp
    ·simp;omega
   ·simp
  ·simp;omega
theorem vC {ls:List Ln} {e:En} {x:Ln} (h:x ∈ G5 ls e):x.1=e.1∨x.1=e.2.1∨∃ y ∈ ls,y.1=x.1:=by
 unfold G5 at h
 rcases uR h with h | ⟨y,hy,hx⟩
 ·exact .inr (.inl h)
 ·rcases uR hy with h | ⟨z,hz,hx'⟩
  ·exact .inl (hx ▸ h)
  ·exact .inr (.inr ⟨z,hz,hx'.trans hx⟩)
theorem vF (ls:List Ln) (e:En):(G5 ls e).length≤ls.length+2:=by
 unfold G5;have h1:=uS (Cr ls e.1 e.2.2.1 (-e.2.2.2)) e.2.1 e.2.2.1 e.2.2.2;have h2:=uS ls e.1 e.2.2.1 (-e.2.2.2)
 omega
theorem vZ {es:List En} : ∀ {ls gs:List Ln},Ch ls es=some gs→∀ x ∈ gs,(∃ e ∈ es,x.1=e.1∨x.1=e.2.1)∨∃ y ∈ ls,y.1=x.1:=by
 induction es with
 | nil=>intro ls gs h x hx;simp [Ch] at h;subst h;exact .inr ⟨x,hx,rfl⟩
 | cons e r ih =>
  intro ls gs h x hx
  simp only [Ch] at h
  split at h
  ·rcases ih h x hx with ⟨e',he',hx'⟩ | ⟨y,hy,hx'⟩
   ·exact .inl ⟨e',List.mem_cons_of_mem _ he',hx'⟩
   ·rcases vC hy with h1 | h1 | ⟨z,hz,h1⟩
    ·exact .inl ⟨e,List.mem_cons_self ..,.inl (hx' ▸ h1)⟩
    ·exact .inl ⟨e,List.mem_cons_self ..,.inr (hx' ▸ h1)⟩
    ·exact .inr ⟨z,hz,h1.trans hx'⟩
  ·cases h
theorem wF {es:List En} : ∀ {ls gs:List Ln},Ch ls es=some gs→gs.length≤ls.length+2*es.length:=by
 induction es with
 | nil=>intro ls gs h;simp [Ch] at h;subst h;simp
 | cons e r ih =>
  intro ls gs h
  simp only [Ch] at h
  split at h
  ·have h1:=ih h
   have h2:=vF ls e
   simp;omega
  ·cases h
theorem vE {ls:List Ln} {es:List En} : ∀ x ∈ Hv ls es,(∃ e ∈ es,x.1=e.1∨x.1=e.2.1)∨∃ y ∈ ls,y.1=x.1:=by
 intro x hx;unfold Hv at hx
 cases h:Ch ls es with
 | none=>rw [h] at hx;exact .inr ⟨x,hx,rfl⟩
 | some gs=>rw [h] at hx;exact vZ h x hx
theorem vB (ls:List Ln) (es:List En):(Hv ls es).length≤ls.length+2*es.length:=by
 unfold Hv
 cases h:Ch ls es with
 | none=>simp
 | some gs=>simpa using wF h
structure Inv (k:Nat) (b:Bk):Prop where
 off:b.off.length≤10
 az:b.az.length≤k
 cs:b.cs.length≤k
 ls:b.ls.length≤4*k
 log:b.log.length≤k
 ref:∀ a ∈ b.az,a.ref.length≤1000
 day:Dn b.today=true
 own:∀ l ∈ b.ls,l.1=9999∨∃ c ∈ b.cs,c.iss=l.1∨c.acq=l.1
theorem Inv.mono {k n:Nat} {b:Bk} (h:Inv k b) (hk:k≤n):Inv n b:=⟨h.off,by have:=h.az;omega,by have:=h.cs;omega,by have:=h.ls;omega,by have:=h.log;omega,h.ref,h.day,h.own⟩
def sG (b:Bk) (n0 n1 n2 n3:Int) (r:Bk×Int):Prop:=∃ x,Gm b.az n0 n2 n3 b.today x∧r=Jk F0 b n0 n1 n2 n3 x
def Fu:Bk→List UInt8→Bk×Int→Prop:=Db F0 sG (Ja F0)
theorem zD {k:Nat} {b:Bk} (h:Inv k b) (n:Int):Inv k (Fr F0 b n).1:=by
 unfold Fr
 split
 ·rename_i hd
  refine ⟨h.off,Nat.le_trans (Yp b.az n) h.az,h.cs,h.ls,h.log,fun a ha=>?_,hd.1,h.own⟩
  have ha':a ∈ E5 b.az n:=ha;unfold E5 at ha'
  split at ha'
  ·exact h.ref a (List.mem_filter.1 ha').1
  ·cases ha'
 ·exact h
theorem xY {k:Nat} {b:Bk} (h:Inv k b) {ref:List UInt8} (hr:ref.length≤1000) (n0 n1 n2:Int):Inv (k+1) (Fq F0 b ref n0 n1 n2).1:=by
 unfold Fq
 split
 ·have hl:=jO b.az ⟨ref,n0,n1,n2,b.today,false⟩
  refine ⟨h.off,Nat.le_trans hl (by have:=h.az;omega),by have:=h.cs;show b.cs.length≤_;omega,by have:=h.ls;show b.ls.length≤_;omega,by have:=h.log;show b.log.length≤_;omega,fun a ha=>?_,h.day,h.own⟩
  have ha':a ∈ Hp b.az ⟨ref,n0,n1,n2,b.today,false⟩:=ha;unfold Hp at ha'
  split at ha'
  ·rcases List.mem_append.1 ha' with ha' | ha'
   ·exact h.ref a ha'
   ·simp at ha';subst ha';exact hr
  ·exact h.ref a ha'
 ·exact h.mono (by omega)
theorem yN {az:List Au} {x:Int} {a:Au} (h:a ∈ M7 az x):∃ b ∈ az,b.ref=a.ref:=by
 unfold M7 at h
 split at h
 ·rename_i hu
  have hi:x.toNat<az.length:=by
   simp [useOk] at hu;omega
  rcases List.mem_or_eq_of_mem_set h with h | h
  ·exact ⟨a,h,rfl⟩
  ·subst h
   exact ⟨Ak az x.toNat,by rw [Gw hi];exact List.getElem_mem hi,rfl⟩
 ·exact ⟨a,h,rfl⟩
theorem zM {k:Nat} {b:Bk} (h:Inv k b) {n0 n1 n2 n3:Int} {r:Bk×Int} (hp:sG b n0 n1 n2 n3 r):Inv (k+1) r.1:=by
 obtain ⟨x,-,rfl⟩:=hp;unfold Jk
 split
 ·exact h.mono (by omega)
 split
 ·exact h.mono (by omega)
 split
 ·exact h.mono (by omega)
 rename_i hok
 split
 ·exact h.mono (by omega)
 have hok':Ao (Ci n0 n1 n2 n3 b.today)=true:=by
  have h1:F0.stOk n0 n1 n2 n3 b.today=true:=by simpa using hok
  exact h1
 have e1:Jh n0 n1 n2 n3 b.today=Ci n0 n1 n2 n3 b.today:=if_pos hok';have e2:Ft n0 n1 n2 n3 b.today=[(n0,n1,n2,n3)]:=if_pos hok';have hl:=vB b.ls (Ft n0 n1 n2 n3 b.today);have hl2:=Ra n0 n1 n2 n3 b.today
 refine ⟨h.off,?_,?_,?_,by have:=h.log;show b.log.length≤_;omega,fun a ha=>?_,h.day,fun l hl=>?_⟩
 ·show (M7 b.az x).length≤k+1
  rw [jC];have:=h.az;omega
 ·show (b.cs++[_]).length≤k+1
  have:=h.cs;simp;omega
 ·show (Hv b.ls (Ft n0 n1 n2 n3 b.today)).length≤4 * (k+1)
  have:=h.ls;omega
 ·obtain ⟨y,hy,e⟩:=yN (x:=x) (az:=b.az) ha
  rw [← e];exact h.ref y hy
 ·show l.1=9999∨∃ c ∈ b.cs++[Jh n0 n1 n2 n3 b.today],c.iss=l.1∨c.acq=l.1
  rcases vE l hl with ⟨e,he,hx⟩ | ⟨y,hy,hx⟩
  ·have he':e ∈ Ft n0 n1 n2 n3 b.today:=he
   rw [e2] at he'
   simp at he';subst he'
   refine .inr ⟨Jh n0 n1 n2 n3 b.today,by simp,?_⟩
   rw [e1]
   rcases hx with hx | hx
   ·exact .inl hx.symm
   ·exact .inr hx.symm
  ·rcases h.own y hy with h1 | ⟨c,hc,h1⟩
   ·exact .inl (hx ▸ h1)
   ·exact .inr ⟨c,by simp [hc],hx ▸ h1⟩
theorem vN {cs:List Cs} {i:Nat} {d:Cs} (hi:i<cs.length) (h1:d.iss=(A8 cs i).iss) (h2:d.acq=(A8 cs i).acq) {a:Int} (h:∃ c ∈ cs,c.iss=a∨c.acq=a):∃ c ∈ cs.set i d,c.iss=a∨c.acq=a:=by
 obtain ⟨c,hc,hx⟩:=h;obtain ⟨j,hj,rfl⟩:=List.getElem_of_mem hc
 by_cases e:i=j
 ·subst e
  rw [bT hi] at h1 h2
  refine ⟨d,?_,by rw [h1,h2];exact hx⟩
  exact List.mem_iff_getElem.2 ⟨i,by simpa using hi,by simp⟩
 ·refine ⟨cs[j],?_,hx⟩
  exact List.mem_iff_getElem.2 ⟨j,by simpa using hj,by simp [e]⟩
theorem zC {k:Nat} {b:Bk} (h:Inv k b) (i:Int) (x:Ac):Inv (k+1) (Ja F0 b i x).1:=by
 unfold Ja
 split
 ·exact h.mono (by omega)
 rename_i hi
 split
 ·exact h.mono (by omega)
 split
 ·exact h.mono (by omega)
 have hi':i.toNat<b.cs.length:=by
  have:0≤i∧i≤(b.cs.length:Int) - 1:=Classical.not_not.1 hi
  omega
 have hl:=vB b.ls (doE (A8 b.cs i.toNat) x b.today b.off);have hl2:=bM (A8 b.cs i.toNat) x b.today b.off;obtain ⟨p1,p2⟩:=yA (A8 b.cs i.toNat) x b.today b.off
 refine ⟨h.off,by have:=h.az;show b.az.length≤_;omega,?_,?_,by have:=h.log;show b.log.length≤_;omega,h.ref,h.day,fun l hl=>?_⟩
 ·show (b.cs.set _ _).length≤k+1
  have:=h.cs;simp;omega
 ·show (Hv b.ls (doE (A8 b.cs i.toNat) x b.today b.off)).length≤4 * (k+1)
  have:=h.ls;omega
 ·show l.1=9999∨∃ c ∈ b.cs.set i.toNat (doC (A8 b.cs i.toNat) x b.today b.off),c.iss=l.1∨c.acq=l.1
  have key:l.1=9999∨∃ c ∈ b.cs,c.iss=l.1∨c.acq=l.1:=by
   rcases vE l hl with ⟨e,he,hx⟩ | ⟨y,hy,hx⟩
   ·obtain ⟨o1,o2⟩:=Aak he
    have:ofC (A8 b.cs i.toNat) l.1:=by rcases hx with hx | hx <;> rw [hx] <;> assumption
    rcases this with h1 | h1 | h1
    ·exact .inr ⟨_,Xg hi',.inl h1.symm⟩
    ·exact .inr ⟨_,Xg hi',.inr h1.symm⟩
    ·exact .inl h1
   ·rcases h.own y hy with h1 | ⟨c,hc,h1⟩
    ·exact .inl (hx ▸ h1)
    ·exact .inr ⟨c,hc,hx ▸ h1⟩
  rcases key with h1 | h1
  ·exact .inl h1
  ·exact .inr (vN hi' p1 p2 h1)
theorem xU {k:Nat} {b:Bk} (h:Inv k b) {line:List UInt8} (hl:line.length≤1000) {r:Bk×Int} (hr:Fu b line r):Inv (k+1) r.1:=by
 unfold Fu Db at hr
 have hb:r=(b,1)→Inv (k+1) r.1:=fun e=>by rw [e];exact h.mono (by omega)
 split at hr
 ·rw [hr];exact (zD h _).mono (by omega)
 split at hr
 ·rename_i ha
  split at hr
  ·rw [hr]
   refine xY h ?_ _ _ _
   have h5:(Ab line).length=5:=by simp [Bq] at ha;exact ha.2
   have:=Ee line _ (F7 (rs:=Ab line) (k:=1) (by omega))
   omega
  ·exact hb hr
 split at hr
 ·split at hr
  ·exact zM h hr
  ·exact hb hr
 split at hr
 ·split at hr
  ·rw [hr];exact zC h _ _
  ·exact hb hr
 ·exact hb hr
theorem Aab {k:Nat} {b:Bk} (h:Inv k b) {line:List UInt8} (hl:line.length≤1000) {r:Bk×Int} (hr:Fg Fu b line r):Inv (k+1) r.1:=by
 rcases hr with ⟨-,rfl⟩ | ⟨-,s,hs,⟨-,rfl⟩ | ⟨-,rfl⟩⟩
 ·exact h.mono (by omega)
 ·exact h.mono (by omega)
 ·have:=xU h hl hs
  exact ⟨this.off,this.az,this.cs,this.ls,by have:=h.log;simp;omega,this.ref,this.day,this.own⟩
def sR (b:Bk):Prop:=D0 b∧(∀ a ∈ b.az,a.ref.length≤1048576)∧(Lit.int .i64 b.today).wf=true
theorem oF {x:Int} (h1:-1≤x) (h2:x≤1000000000000000000):(Lit.int .i64 x).wf=true:=by
 simp [Lit.wf,IntKind.min,IntKind.max,IntKind.signed,IntKind.bits];omega
theorem rQ:Tp sR sG (Ja F0) where
 pay:=fun b p g k n0 n1 n2 n3 w hx _ hp c0 c1 c2 c3 h1 h2=>(lR F0 Yz b p g k n0 n1 n2 n3 w hx hp.1 hp.2.1 hp.2.2 (oF h2 (by omega)) c0 c1 c2 c3).mono (by
  rintro e w' ⟨x,hx,h⟩;exact ⟨_,⟨x,hx,rfl⟩,h⟩)
 act:=fun b p i x w hx _ hp=>kC F0 Yz b p i x w hx hp.1
theorem nD (b:Bk) (l:List UInt8) (r:Bk×Int) (h:Fu b l r):r.1.log=b.log:=by
 unfold Fu Db at h
 split at h
 ·rw [h];unfold Fr;split <;> rfl
 split at h
 ·split at h
  ·rw [h];unfold Fq;split <;> rfl
  ·rw [h]
 split at h
 ·split at h
  ·obtain ⟨x,-,rfl⟩:=h
   unfold Jk
   split
   ·rfl
   split
   ·rfl
   split
   ·rfl
   split <;> rfl
  ·rw [h]
 split at h
 ·split at h
  ·rw [h];unfold Ja
   split
   ·rfl
   split
   ·rfl
   split <;> rfl
  ·rw [h]
 ·rw [h]
theorem lO:cB sR Fu where
 log:=nD
 small:=fun _ h=>h.1
 calls:=fun b p line w hx hah hp hl=>fV F0 Yz (fun _ h=>h.1) rQ b p line w hx hah hp hl
theorem tS {k:Nat} {b:Bk} (h:Inv k b) (hk:k≤1000):sR b:=by
 have hd:=Ei h.day
 refine ⟨⟨by have:=h.off;omega,by have:=h.az;omega,by have:=h.cs;omega,by have:=h.ls;omega,by have:=h.log;omega⟩,fun a ha=>by have:=h.ref a ha;omega,oF (by omega) (by omega)⟩
def Z6b (X:Nat) (b:Bk) (p:Bp) (u:World):Prop:=ZQ X b p u
structure BD (B g:Nat) (w:World) (X:Nat) (b:Bk) (p:Bp) (u:World):Prop where
 cu:A2 B u g
 gr:w.grownBy u (some g)
 z:Z6b X b p u
 r:Z6 w.heap.size (.int .i64 0) (.slice none 0 0) (.slice none 0 0) (.slice none 0 0) (.slice none 0 0) (.slice none 0 0) u
 bk:Aq u b p
 og:Wq p g
 oX:Wq p X
 oR:Wq p w.heap.size
 hX:w.heap.size<X
 hB:B≤w.heap.size
 hg:g<B
 fr:FrB p w.heap.size
theorem FrB.mono {q:Bp} {n m:Nat} (h:FrB q n) (hm:m≤n):FrB q m:=⟨Ey h.o hm,Ey h.a hm,Ey h.c hm,Ey h.l hm,Ey h.g hm⟩
theorem Aq.farB {u u':World} {b:Bk} {p:Bp} {g:Nat} (h:Aq u b p) (r:u.grownBy u' (some g)) (n:Wq p g):Aq u' b p :=
 ⟨h.off.far r (fun B' e=>by cases e;exact n.o),h.az.far r (fun B' e=>by cases e;exact n.a),h.cs.far r (fun B' e=>by cases e;exact n.c),h.ls.far r (fun B' e=>by cases e;exact n.l),h.log.far r (fun B' e=>by cases e;exact n.g)⟩
theorem BD.call {B g:Nat} {w:World} {X:Nat} {b:Bk} {p:Bp} {u u':World} (q:BD B g w X b p u) (c:A2 B u' g) (r:u.grownBy u' (some g)):BD B g w X b p u':=by
 have h1:=q.hX;have h2:=q.hB;have h3:=q.hg
 exact ⟨c,q.gr.trans r,Z6.grown q.z r (by simp;omega),q.r.grown r (by simp;omega),q.bk.farB r q.og,q.og,q.oX,q.oR,q.hX,q.hB,q.hg,q.fr⟩
theorem BD.below {B g:Nat} {w:World} {X:Nat} {b:Bk} {p:Bp} {u u':World} (q:BD B g w X b p u) (h:BW u u'):BD B g w X b p u':=q.call (A4 q.cu h) (K8 h _)
theorem BD.drew {B g:Nat} {w:World} {X:Nat} {b:Bk} {p:Bp} {u:World} (q:BD B g w X b p u):BD B g w X b p u.drew:=q.below (bR.drew)
theorem K4 {q:Bp} {n B:Nat} (h:FrB q n) (hB:B<n):Wq q B:=⟨Bb h.o hB,Bb h.a hB,Bb h.c hB,Bb h.l hB,Bb h.g hB⟩
theorem BD.put {B g:Nat} {w:World} {X:Nat} {b b2:Bk} {p q2:Bp} {u v:World} (q:BD B g w X b p u) (hv:BW u v) (hb:Aq v b2 q2) (hf:FrB q2 u.heap.size) :
  BD B g w X b2 q2 ((((((v.setCell ⟨X,0,none⟩ (.int .i64 b2.today)).setCell ⟨X,1,none⟩ (.slice q2.o b2.off.length q2.oc)).setCell ⟨X,2,none⟩ (.slice q2.a b2.az.length q2.ac)).setCell ⟨X,3,none⟩ (.slice q2.c b2.cs.length q2.cc)).setCell ⟨X,4,none⟩ (.slice q2.l b2.ls.length q2.lc)).setCell ⟨X,5,none⟩ (.slice q2.g b2.log.length q2.gc)):=by
 have hX:=q.hX;have hB:=q.hB;have hg:=q.hg;have lX:X<u.heap.size:=Z6.lt q.z;have lR:=q.r.lt;have qv:=q.below hv;have z:=Z6.put6 qv.z (.int .i64 b2.today) (.slice q2.o b2.off.length q2.oc) (.slice q2.a b2.az.length q2.ac) (.slice q2.c b2.cs.length q2.cc) (.slice q2.l b2.ls.length q2.lc) (.slice q2.g b2.log.length q2.gc);have oX:=K4 hf lX
 have bel:Below (w.heap.size+1) v ((((((v.setCell ⟨X,0,none⟩ (.int .i64 b2.today)).setCell ⟨X,1,none⟩ (.slice q2.o b2.off.length q2.oc)).setCell ⟨X,2,none⟩ (.slice q2.a b2.az.length q2.ac)).setCell ⟨X,3,none⟩ (.slice q2.c b2.cs.length q2.cc)).setCell ⟨X,4,none⟩ (.slice q2.l b2.ls.length q2.lc)).setCell ⟨X,5,none⟩ (.slice q2.g b2.log.length q2.gc)) :=
  ((((((Below.refl (w.heap.size+1) v).setCell (p:=⟨X,0,none⟩) (by show w.heap.size+1≤X;omega) _).setCell (p:=⟨X,1,none⟩) (by show w.heap.size+1≤X;omega) _).setCell (p:=⟨X,2,none⟩) (by show w.heap.size+1≤X;omega) _).setCell (p:=⟨X,3,none⟩) (by show w.heap.size+1≤X;omega) _).setCell (p:=⟨X,4,none⟩) (by show w.heap.size+1≤X;omega) _).setCell (p:=⟨X,5,none⟩) (by show w.heap.size+1≤X;omega) _
 exact ⟨B9 qv.cu (bel.mono (by omega)),⟨bel.os.trans qv.gr.os,bel.tape.trans qv.gr.tape,bel.output.trans qv.gr.output,Nat.le_trans qv.gr.size bel.size,fun k hk hne=>(bel.block k (by omega)).trans (qv.gr.block k hk hne)⟩,z,qv.r.under bel (by omega),hb.put6 oX _ _ _ _ _ _,K4 hf (by omega),oX,K4 hf lR,hX,hB,hg,hf.mono (by omega)⟩
theorem BD.s {B g:Nat} {w:World} {X:Nat} {b:Bk} {p:Bp} {u:World} (q:BD B g w X b p u):u.cell? ⟨X,0,none⟩=some (.int .i64 b.today)∧u.cell? ⟨X,1,none⟩=some (.slice p.o b.off.length p.oc)∧u.cell? ⟨X,2,none⟩=some (.slice p.a b.az.length p.ac)∧u.cell? ⟨X,3,none⟩=some (.slice p.c b.cs.length p.cc)∧u.cell? ⟨X,4,none⟩=some (.slice p.l b.ls.length p.lc)∧u.cell? ⟨X,5,none⟩=some (.slice p.g b.log.length p.gc):=⟨q.z.c0,q.z.c1,q.z.c2,q.z.c3,q.z.c4,q.z.c5⟩
theorem BD.al {B g:Nat} {w:World} {X:Nat} {b:Bk} {p:Bp} {u:World} (q:BD B g w X b p u) (o:Obj):BD B g w X b p (u.alloc o):=q.below (bR.alloc nL _)
theorem Aap {B g:Nat} {w:World} {X:Nat} {b2:Bk} {q2:Bp} {v:World} {z0 z1 z2 z3 z4 z5:Value} (cu:A2 B v g) (gr:w.grownBy v (some g)) (z:Z6 X z0 z1 z2 z3 z4 z5 v)
  (r:Z6 w.heap.size (.int .i64 0) (.slice none 0 0) (.slice none 0 0) (.slice none 0 0) (.slice none 0 0) (.slice none 0 0) v) (hb:Aq v b2 q2) (og:Wq q2 g) (oX:Wq q2 X) (oR:Wq q2 w.heap.size) (hX:w.heap.size<X) (hB:B≤w.heap.size) (hg:g<B) (hfr:FrB q2 w.heap.size) :
  BD B g w X b2 q2 ((((((v.setCell ⟨X,0,none⟩ (.int .i64 b2.today)).setCell ⟨X,1,none⟩ (.slice q2.o b2.off.length q2.oc)).setCell ⟨X,2,none⟩ (.slice q2.a b2.az.length q2.ac)).setCell ⟨X,3,none⟩ (.slice q2.c b2.cs.length q2.cc)).setCell ⟨X,4,none⟩ (.slice q2.l b2.ls.length q2.lc)).setCell ⟨X,5,none⟩ (.slice q2.g b2.log.length q2.gc)):=by
 have zz:=Z6.put6 z (.int .i64 b2.today) (.slice q2.o b2.off.length q2.oc) (.slice q2.a b2.az.length q2.ac) (.slice q2.c b2.cs.length q2.cc) (.slice q2.l b2.ls.length q2.lc) (.slice q2.g b2.log.length q2.gc)
 have bel:Below (w.heap.size+1) v ((((((v.setCell ⟨X,0,none⟩ (.int .i64 b2.today)).setCell ⟨X,1,none⟩ (.slice q2.o b2.off.length q2.oc)).setCell ⟨X,2,none⟩ (.slice q2.a b2.az.length q2.ac)).setCell ⟨X,3,none⟩ (.slice q2.c b2.cs.length q2.cc)).setCell ⟨X,4,none⟩ (.slice q2.l b2.ls.length q2.lc)).setCell ⟨X,5,none⟩ (.slice q2.g b2.log.length q2.gc)) :=
  ((((((Below.refl (w.heap.size+1) v).setCell (p:=⟨X,0,none⟩) (by show w.heap.size+1≤X;omega) _).setCell (p:=⟨X,1,none⟩) (by show w.heap.size+1≤X;omega) _).setCell (p:=⟨X,2,none⟩) (by show w.heap.size+1≤X;omega) _).setCell (p:=⟨X,3,none⟩) (by show w.heap.size+1≤X;omega) _).setCell (p:=⟨X,4,none⟩) (by show w.heap.size+1≤X;omega) _).setCell (p:=⟨X,5,none⟩) (by show w.heap.size+1≤X;omega) _
 exact ⟨B9 cu (bel.mono (by omega)),⟨bel.os.trans gr.os,bel.tape.trans gr.tape,bel.output.trans gr.output,Nat.le_trans gr.size bel.size,fun k hk hne=>(bel.block k (by omega)).trans (gr.block k hk hne)⟩,zz,r.under bel (by omega),hb.put6 oX _ _ _ _ _ _,og,oX,oR,hX,hB,hg,hfr⟩
structure BY (B g:Nat) (w:World) (X:Nat) (b:Bk) (p:Bp) (Y:Nat) (u:World):Prop where
 bd:BD B g w X b p u
 zy:Z0 Y u
 hY:X<Y
theorem BY.call {B g:Nat} {w:World} {X:Nat} {b:Bk} {p:Bp} {Y:Nat} {u u':World} (q:BY B g w X b p Y u) (c:A2 B u' g) (r:u.grownBy u' (some g)):BY B g w X b p Y u':=by
 have h1:=q.bd.hX;have h2:=q.bd.hB;have h3:=q.bd.hg;have h4:=q.hY
 exact ⟨q.bd.call c r,q.zy.grown r (by simp;omega),q.hY⟩
theorem BY.below {B g:Nat} {w:World} {X:Nat} {b:Bk} {p:Bp} {Y:Nat} {u u':World} (q:BY B g w X b p Y u) (h:BW u u'):BY B g w X b p Y u':=q.call (A4 q.bd.cu h) (K8 h _)
theorem BY.drew {B g:Nat} {w:World} {X:Nat} {b:Bk} {p:Bp} {Y:Nat} {u:World} (q:BY B g w X b p Y u):BY B g w X b p Y u.drew:=q.below (bR.drew)
theorem BY.new {B g:Nat} {w:World} {X:Nat} {b:Bk} {p:Bp} {u:World} (q:BD B g w X b p u) (t:TypeId):BY B g w X b p u.heap.size (u.alloc (.cells qzB t)) :=
 ⟨q.al _,Z6.new u _ _ _ _ _ _ _,Z6.lt q.z⟩
theorem BY.mid {B g:Nat} {w:World} {X:Nat} {b:Bk} {p:Bp} {Y:Nat} {u:World} (q:BY B g w X b p Y u) (x0 x1 x2 x3 x4 x5:Value) :
  Z6b X b p ((((((u.setCell ⟨Y,0,none⟩ x0).setCell ⟨Y,1,none⟩ x1).setCell ⟨Y,2,none⟩ x2).setCell ⟨Y,3,none⟩ x3).setCell ⟨Y,4,none⟩ x4).setCell ⟨Y,5,none⟩ x5):=Z6.far6 q.bd.z (by have:=q.hY;omega) _ _ _ _ _ _
theorem BY.ms {B g:Nat} {w:World} {X:Nat} {b:Bk} {p:Bp} {Y:Nat} {u:World} (q:BY B g w X b p Y u) (x0 x1 x2 x3 x4 x5:Value) :
  ((((((u.setCell ⟨Y,0,none⟩ x0).setCell ⟨Y,1,none⟩ x1).setCell ⟨Y,2,none⟩ x2).setCell ⟨Y,3,none⟩ x3).setCell ⟨Y,4,none⟩ x4).setCell ⟨Y,5,none⟩ x5).cell? ⟨X,0,none⟩=some (.int .i64 b.today)∧((((((u.setCell ⟨Y,0,none⟩ x0).setCell ⟨Y,1,none⟩ x1).setCell ⟨Y,2,none⟩ x2).setCell ⟨Y,3,none⟩ x3).setCell ⟨Y,4,none⟩ x4).setCell ⟨Y,5,none⟩ x5).cell? ⟨X,1,none⟩=some (.slice p.o b.off.length p.oc)∧((((((u.setCell ⟨Y,0,none⟩ x0).setCell ⟨Y,1,none⟩ x1).setCell ⟨Y,2,none⟩ x2).setCell ⟨Y,3,none⟩ x3).setCell ⟨Y,4,none⟩ x4).setCell ⟨Y,5,none⟩ x5).cell? ⟨X,2,none⟩=some (.slice p.a b.az.length p.ac)∧((((((u.setCell ⟨Y,0,none⟩ x0).setCell ⟨Y,1,none⟩ x1).setCell ⟨Y,2,none⟩ x2).setCell ⟨Y,3,none⟩ x3).setCell ⟨Y,4,none⟩ x4).setCell ⟨Y,5,none⟩ x5).cell? ⟨X,3,none⟩=some (.slice p.c b.cs.length p.cc)∧((((((u.setCell ⟨Y,0,none⟩ x0).setCell ⟨Y,1,none⟩ x1).setCell ⟨Y,2,none⟩ x2).setCell ⟨Y,3,none⟩ x3).setCell ⟨Y,4,none⟩ x4).setCell ⟨Y,5,none⟩ x5).cell? ⟨X,4,none⟩=some (.slice p.l b.ls.length p.lc)∧((((((u.setCell ⟨Y,0,none⟩ x0).setCell ⟨Y,1,none⟩ x1).setCell ⟨Y,2,none⟩ x2).setCell ⟨Y,3,none⟩ x3).setCell ⟨Y,4,none⟩ x4).setCell ⟨Y,5,none⟩ x5).cell? ⟨X,5,none⟩=some (.slice p.g b.log.length p.gc) :=
 ⟨(q.mid x0 x1 x2 x3 x4 x5).c0,(q.mid x0 x1 x2 x3 x4 x5).c1,(q.mid x0 x1 x2 x3 x4 x5).c2,(q.mid x0 x1 x2 x3 x4 x5).c3,(q.mid x0 x1 x2 x3 x4 x5).c4,(q.mid x0 x1 x2 x3 x4 x5).c5⟩
theorem BY.put {B g:Nat} {w:World} {X:Nat} {b b2:Bk} {p q2:Bp} {Y:Nat} {u v:World} (q:BY B g w X b p Y u) (hv:BW u v) (hb:Aq v b2 q2) (hf:FrB q2 u.heap.size) (x0 x1 x2 x3 x4 x5:Value) :
  BD B g w X b2 q2 ((((((((((((v.setCell ⟨Y,0,none⟩ x0).setCell ⟨Y,1,none⟩ x1).setCell ⟨Y,2,none⟩ x2).setCell ⟨Y,3,none⟩ x3).setCell ⟨Y,4,none⟩ x4).setCell ⟨Y,5,none⟩ x5).setCell ⟨X,0,none⟩ (.int .i64 b2.today)).setCell ⟨X,1,none⟩ (.slice q2.o b2.off.length q2.oc)).setCell ⟨X,2,none⟩ (.slice q2.a b2.az.length q2.ac)).setCell ⟨X,3,none⟩ (.slice q2.c b2.cs.length q2.cc)).setCell ⟨X,4,none⟩ (.slice q2.l b2.ls.length q2.lc)).setCell ⟨X,5,none⟩ (.slice q2.g b2.log.length q2.gc)):=by
 have hX:=q.bd.hX;have hB:=q.bd.hB;have hg:=q.bd.hg;have hY:=q.hY;have lY:=q.zy.lt;have lX:X<u.heap.size:=Z6.lt q.bd.z;have qv:=q.below hv
 have bel:Below (w.heap.size+1) v ((((((v.setCell ⟨Y,0,none⟩ x0).setCell ⟨Y,1,none⟩ x1).setCell ⟨Y,2,none⟩ x2).setCell ⟨Y,3,none⟩ x3).setCell ⟨Y,4,none⟩ x4).setCell ⟨Y,5,none⟩ x5) :=
  ((((((Below.refl (w.heap.size+1) v).setCell (p:=⟨Y,0,none⟩) (by show w.heap.size+1≤Y;omega) _).setCell (p:=⟨Y,1,none⟩) (by show w.heap.size+1≤Y;omega) _).setCell (p:=⟨Y,2,none⟩) (by show w.heap.size+1≤Y;omega) _).setCell (p:=⟨Y,3,none⟩) (by show w.heap.size+1≤Y;omega) _).setCell (p:=⟨Y,4,none⟩) (by show w.heap.size+1≤Y;omega) _).setCell (p:=⟨Y,5,none⟩) (by show w.heap.size+1≤Y;omega) _
 have gr:=qv.bd.gr
 exact Aap (B9 qv.bd.cu (bel.mono (by omega))) ⟨bel.os.trans gr.os,bel.tape.trans gr.tape,bel.output.trans gr.output,Nat.le_trans gr.size bel.size,fun k hk hne=>(bel.block k (by omega)).trans (gr.block k hk hne)⟩ (qv.mid x0 x1 x2 x3 x4 x5) (qv.bd.r.under bel (by omega)) (hb.put6 (K4 hf lY) _ _ _ _ _ _) (K4 hf (by omega)) (K4 hf lX) (K4 hf (by omega)) hX hB hg (hf.mono (by omega))
theorem yT {az:List Au} {x:Int} {a:Au} (h:a ∈ M7 az x):∃ b ∈ az,b.iss=a.iss:=by
 unfold M7 at h
 split at h
 ·rename_i hu
  have hi:x.toNat<az.length:=by
   simp [useOk] at hu;omega
  rcases List.mem_or_eq_of_mem_set h with h | h
  ·exact ⟨a,h,rfl⟩
  ·subst h
   exact ⟨Ak az x.toNat,by rw [Gw hi];exact List.getElem_mem hi,rfl⟩
 ·exact ⟨a,h,rfl⟩
theorem xE {az:List Au} {t:Int} {a:Au} (h:a ∈ E5 az t):a ∈ az:=by
 unfold E5 at h
 split at h
 ·exact (List.mem_filter.1 h).1
 ·cases h
theorem zL {b:Bk} (h:Par b) (n:Int):Par (Fr F0 b n).1:=by
 unfold Fr
 split
 ·exact ⟨fun a ha=>h.ia a (xE (t:=n) ha),h.pc⟩
 ·exact h
theorem wR {x:Int} (h:Fb x=true):1≤x:=by
 simp [Fb,Cb] at h;omega
theorem Aaf {x:Int} (h:Cb x=true):1≤x:=by
 simp [Cb] at h;omega
theorem yB {b:Bk} (h:Par b) {ref:List UInt8} {n0 n1 n2:Int} (hn:n0≤8):Par (Fq F0 b ref n0 n1 n2).1:=by
 unfold Fq
 split
 ·rename_i hok
  refine ⟨fun a ha=>?_,h.pc⟩
  have ha':a ∈ Hp b.az ⟨ref,n0,n1,n2,b.today,false⟩:=ha;have hok':addOk b.az ⟨ref,n0,n1,n2,b.today,false⟩=true:=hok;rw [Nk hok'] at ha'
  rcases List.mem_append.1 ha' with ha' | ha'
  ·exact h.ia a ha'
  ·simp at ha';subst ha'
   have h1:Gy ⟨ref,n0,n1,n2,b.today,false⟩=true:=by
    unfold addOk at hok';rw [Bool.and_eq_true] at hok';exact hok'.1
   exact ⟨Aaf (L0 h1).2.1,hn⟩
 ·exact h
theorem zJ {b:Bk} (h:Par b) {n0 n1 n2 n3:Int} {r:Bk×Int} (hp:sG b n0 n1 n2 n3 r) (h0:n0≤8) (h1:n1≤8):Par r.1:=by
 obtain ⟨x,-,rfl⟩:=hp;unfold Jk
 split
 ·exact h
 split
 ·exact h
 split
 ·exact h
 rename_i hok
 split
 ·exact h
 have hok':Ao (Ci n0 n1 n2 n3 b.today)=true:=by
  have h1:F0.stOk n0 n1 n2 n3 b.today=true:=by simpa using hok
  exact h1
 have e1:Jh n0 n1 n2 n3 b.today=Ci n0 n1 n2 n3 b.today:=if_pos hok';obtain ⟨p1,p2,-⟩:=Jb hok'
 refine ⟨fun a ha=>?_,fun c hc=>?_⟩
 ·obtain ⟨y,hy,e⟩:=yT (x:=x) (az:=b.az) ha
  rw [← e];exact h.ia y hy
 ·have hc':c ∈ b.cs++[Jh n0 n1 n2 n3 b.today]:=hc
  rcases List.mem_append.1 hc' with hc' | hc'
  ·exact h.pc c hc'
  ·rw [e1] at hc'
   simp at hc';subst hc'
   exact ⟨⟨wR p1,h0⟩,⟨wR p2,h1⟩⟩
theorem zU {b:Bk} (h:Par b) (i:Int) (x:Ac):Par (Ja F0 b i x).1:=by
 unfold Ja
 split
 ·exact h
 rename_i hi
 split
 ·exact h
 split
 ·exact h
 have hi':i.toNat<b.cs.length:=by
  have:0≤i∧i≤(b.cs.length:Int) - 1:=Classical.not_not.1 hi
  omega
 obtain ⟨p1,p2⟩:=yA (A8 b.cs i.toNat) x b.today b.off
 refine ⟨h.ia,fun c hc=>?_⟩
 have hc':c ∈ b.cs.set i.toNat (doC (A8 b.cs i.toNat) x b.today b.off):=hc
 rcases List.mem_or_eq_of_mem_set hc' with hc' | hc'
 ·exact h.pc c hc'
 ·rw [hc',p1,p2]
  exact h.pc _ (Xg hi')
theorem yX {b:Bk} (h:Par b) {line:List UInt8} (hg:K5 line) {r:Bk×Int} (hr:Fu b line r):Par r.1:=by
 unfold Fu Db at hr
 have hb:r=(b,1)→Par r.1:=fun e=>by rw [e];exact h
 split at hr
 ·rw [hr];exact zL h _
 split at hr
 ·rename_i ha
  split at hr
  ·rw [hr];exact yB h (hg.1 ha).2
  ·exact hb hr
 split at hr
 ·rename_i ha
  split at hr
  ·exact zJ h hr (hg.2 ha).1 (hg.2 ha).2
  ·exact hb hr
 split at hr
 ·split at hr
  ·rw [hr];exact zU h _ _
  ·exact hb hr
 ·exact hb hr
theorem Aal {b:Bk} (h:Par b) {line:List UInt8} (hg:K5 line) {r:Bk×Int} (hr:Fg Fu b line r):Par r.1:=by
 rcases hr with ⟨-,rfl⟩ | ⟨-,s,hs,⟨-,rfl⟩ | ⟨-,rfl⟩⟩
 ·exact h
 ·exact h
 ·have:=yX h hg hs
  exact ⟨this.ia,this.pc⟩
namespace Kb
theorem fG {ws:Be} (h:(ws.drop 1).length=1):∃ a c,ws=[a,c]:=by
 match ws,h with
 | [a,c],_=>exact ⟨a,c,rfl⟩
theorem L5 {ws:Be} (h:(ws.drop 1).length=4):∃ a c d e f,ws=[a,c,d,e,f]:=by
 match ws,h with
 | [a,c,d,e,f],_=>exact ⟨a,c,d,e,f,rfl⟩
theorem M9 {ws:Be} (h:ws.length=5):∃ a c d e f,ws=[a,c,d,e,f]:=by
 match ws,h with
 | [a,c,d,e,f],_=>exact ⟨a,c,d,e,f,rfl⟩
theorem nR {ws:Be} (h:ws.length=2):∃ a c,ws=[a,c]:=by
 match ws,h with
 | [a,c],_=>exact ⟨a,c,rfl⟩
def jE (ws:Be):Prop:=Bq ws=true∧Al ws 1=[]
theorem qZ {az:List Au} {n0 n1 n2 t:Int} : addOk az ⟨[],n0,n1,n2,t,false⟩=false:=by
 simp [addOk,Gy,Kk]
theorem iK {ws:Be} {t:List UInt8} (h:Al ws 0=t):(t≠Eo→Ca ws=false)∧(t≠Dy→Bq ws=false)∧(t≠I7→Da ws=false)∧(t≠Nz→Fl ws=false):=by
 refine ⟨fun e=>?_,fun e=>?_,fun e=>?_,fun e=>?_⟩
 ·rw [Ca,h,decide_eq_false e];rfl
 ·rw [Bq,h,decide_eq_false e];rfl
 ·rw [Da,h,decide_eq_false e];rfl
 ·rw [Fl,h,decide_eq_false e];rfl
def Agr (ws:Be) (r r':Bk×Int):Prop:=r.1=r'.1∧(r.2=r'.2∨(r.2=1∧r'.2=3∧jE ws))
theorem Fm {ws:Be} {r r':Bk×Int} (h:r=r'):Agr ws r r':=by rw [h];exact ⟨rfl,.inl rfl⟩
theorem pS {c:List UInt8} : Ap [c]=decide (0≤Ae c):=by simp [Ap]
theorem Vo {b:Bk} {line:List UInt8} {r r':Bk×Int} (h:D6 F0 b (Ab line) r) (h':Fu b line r'):Agr (Ab line) r r':=by
 unfold Fu Db at h';unfold D6 at h
 generalize Ab line=ws at h h' ⊢
 by_cases h1:Al ws 0=Eo
 ·rw [if_pos h1] at h
  obtain ⟨-,na,np,nc⟩:=iK h1
  have na:=na (by decide)
  have np:=np (by decide)
  have nc:=nc (by decide)
  by_cases hd:Ca ws=true
  ·rw [if_pos hd] at h'
   have hd2:=hd
   simp only [Ca,Bool.and_eq_true,decide_eq_true_eq] at hd2
   obtain ⟨-,h2,h3⟩:=hd2;obtain ⟨a,c,rfl⟩:=nR h2
   have e:N8 F0 b ([a,c].drop 1)=Fr F0 b (Ae c):=if_pos ⟨by show Ap [c]=true;rw [pS];exact decide_eq_true h3,rfl⟩
   rw [e] at h;exact Fm (h.trans h'.symm)
  ·rw [if_neg hd,if_neg (by rw [na];decide),if_neg (by rw [np];decide),if_neg (by rw [nc];decide)] at h'
   have e:N8 F0 b (ws.drop 1)=(b,1):=if_neg (fun ⟨e1,e2⟩=>hd (by
    obtain ⟨a,c,rfl⟩:=fG e2;have e3:Ap [c]=true:=e1;rw [pS] at e3;have h0:a=Eo:=h1;subst h0
    simp only [Ca,Bool.and_eq_true,decide_eq_true_eq]
    exact ⟨rfl,rfl,by show 0≤Ae c;simpa using e3⟩))
   rw [e] at h;exact Fm (h.trans h'.symm)
 rw [if_neg h1] at h
 have nd:Ca ws=false:=by rw [Ca,decide_eq_false h1];rfl
 rw [if_neg (by rw [nd];decide)] at h'
 by_cases h2:Al ws 0=Dy
 ·rw [if_pos h2] at h
  obtain ⟨-,-,np,nc⟩:=iK h2
  have np:=np (by decide)
  have nc:=nc (by decide)
  by_cases ha:Bq ws=true
  ·rw [if_pos ha] at h'
   have ha2:=ha
   simp only [Bq,Bool.and_eq_true,decide_eq_true_eq] at ha2
   obtain ⟨a,c,d,e,f,rfl⟩:=M9 ha2.2
   by_cases hn:Ap [d,e,f]=true
   ·rw [if_pos (show Ap ([a,c,d,e,f].drop 2)=true from hn)] at h'
    by_cases hc:c=[]
    ·subst hc
     have e1:Gt F0 b ([a,[],d,e,f].drop 1)=(b,1):=if_neg (fun e=>e.2.1 rfl)
     have e2:Fq F0 b (Al [a,[],d,e,f] 1) (Ae (Al [a,[],d,e,f] 2)) (Ae (Al [a,[],d,e,f] 3)) (Ae (Al [a,[],d,e,f] 4))=(b,3):=bZ F0 (show addOk b.az ⟨[],Ae d,Ae e,Ae f,b.today,false⟩=false from qZ)
     rw [e1] at h;rw [e2] at h';subst h h';exact ⟨rfl,.inr ⟨rfl,rfl,ha,rfl⟩⟩
    ·have e1:Gt F0 b ([a,c,d,e,f].drop 1)=Fq F0 b c (Ae d) (Ae e) (Ae f):=if_pos ⟨rfl,hc,hn⟩
     rw [e1] at h;exact Fm (h.trans h'.symm)
   ·rw [if_neg (show ¬ Ap ([a,c,d,e,f].drop 2)=true from hn)] at h'
    have e1:Gt F0 b ([a,c,d,e,f].drop 1)=(b,1):=if_neg (fun e=>hn e.2.2)
    rw [e1] at h;exact Fm (h.trans h'.symm)
  ·rw [if_neg ha,if_neg (by rw [np];decide),if_neg (by rw [nc];decide)] at h'
   have e:Gt F0 b (ws.drop 1)=(b,1):=if_neg (fun ⟨e1,_⟩=>ha (by
    obtain ⟨a,c,d,e,f,rfl⟩:=L5 e1
    simp only [Bq,Bool.and_eq_true,decide_eq_true_eq]
    exact ⟨h2,rfl⟩))
   rw [e] at h;exact Fm (h.trans h'.symm)
 rw [if_neg h2] at h
 have na:Bq ws=false:=by rw [Bq,decide_eq_false h2];rfl
 rw [if_neg (by rw [na];decide)] at h'
 by_cases h3:Al ws 0=I7
 ·rw [if_pos h3] at h
  obtain ⟨-,-,-,nc⟩:=iK h3
  have nc:=nc (by decide)
  by_cases ha:Da ws=true
  ·rw [if_pos ha] at h'
   have ha2:=ha
   simp only [Da,Bool.and_eq_true,decide_eq_true_eq] at ha2
   obtain ⟨a,c,d,e,f,rfl⟩:=M9 ha2.2;unfold Fh at h
   by_cases hn:Ap [c,d,e,f]=true
   ·rw [if_pos (show Ap ([a,c,d,e,f].drop 1)=true from hn)] at h'
    rw [if_pos ⟨hn,rfl⟩] at h;obtain ⟨x,hx,rfl⟩:=h;obtain ⟨y,hy,rfl⟩:=h';have hxy:x=y:=Zr hx hy;subst hxy;exact Fm rfl
   ·rw [if_neg (show ¬ Ap ([a,c,d,e,f].drop 1)=true from hn)] at h'
    rw [if_neg (fun e=>hn e.1)] at h
    exact Fm (h.trans h'.symm)
  ·rw [if_neg ha,if_neg (by rw [nc];decide)] at h'
   unfold Fh at h
   rw [if_neg (fun ⟨_,e2⟩=>ha (by
    obtain ⟨a,c,d,e,f,rfl⟩:=L5 e2
    simp only [Da,Bool.and_eq_true,decide_eq_true_eq]
    exact ⟨h3,rfl⟩))] at h
   exact Fm (h.trans h'.symm)
 rw [if_neg h3] at h
 have np:Da ws=false:=by rw [Da,decide_eq_false h3];rfl
 rw [if_neg (by rw [np];decide)] at h'
 by_cases h4:Al ws 0=Nz
 ·rw [if_pos h4] at h
  by_cases ha:Fl ws=true
  ·rw [if_pos ha] at h'
   have ha2:=ha
   simp only [Fl,Bool.and_eq_true,decide_eq_true_eq] at ha2
   obtain ⟨-,h5,h6⟩:=ha2;obtain ⟨a,c,d,e,f,rfl⟩:=M9 h5
   by_cases hn:Ap [c,e,f]=true
   ·rw [if_pos (show Ap [Al [a,c,d,e,f] 1,Al [a,c,d,e,f] 3,Al [a,c,d,e,f] 4]=true from hn)] at h'
    have e1:Hx F0 b ([a,c,d,e,f].drop 1)=Ja F0 b (Ae c) ⟨Bz d,Ae e,Ae f⟩:=if_pos ⟨rfl,h6,hn⟩;rw [e1] at h;exact Fm (h.trans h'.symm)
   ·rw [if_neg (show ¬ Ap [Al [a,c,d,e,f] 1,Al [a,c,d,e,f] 3,Al [a,c,d,e,f] 4]=true from hn)] at h'
    have e1:Hx F0 b ([a,c,d,e,f].drop 1)=(b,1):=if_neg (fun e=>hn e.2.2)
    rw [e1] at h;exact Fm (h.trans h'.symm)
  ·rw [if_neg ha] at h'
   have e:Hx F0 b (ws.drop 1)=(b,1):=if_neg (fun ⟨e1,e2,_⟩=>ha (by
    obtain ⟨a,c,d,e,f,rfl⟩:=L5 e1
    simp only [Fl,Bool.and_eq_true,decide_eq_true_eq]
    exact ⟨h4,rfl,e2⟩))
   rw [e] at h;exact Fm (h.trans h'.symm)
 rw [if_neg h4] at h
 have nc:Fl ws=false:=by rw [Fl,decide_eq_false h4];rfl
 rw [if_neg (by rw [nc];decide)] at h'
 exact Fm (h.trans h'.symm)
theorem W4 {b:Bk} {line:List UInt8} {r r':Bk×Int} (h:D9 F0 b line r) (h':Fg Fu b line r'):Agr (Ab line) r r':=by
 unfold D9 at h
 rcases h' with ⟨hf,rfl⟩ | ⟨hf,s,hs,hr⟩
 ·rw [if_pos hf] at h
  exact Fm h
 ·rw [if_neg (by omega)] at h
  obtain ⟨r0,h0,rfl⟩:=h;obtain ⟨e1,e2⟩:=Vo h0 hs;have hlog:=Sw h0
  rcases hr with ⟨hc,rfl⟩ | ⟨hc,rfl⟩
  ·have hc0:r0.2≠0:=by
     rcases e2 with e2 | ⟨e2,_⟩
     ·rw [e2];exact hc
     ·rw [e2];decide
   rw [if_neg hc0];exact ⟨Wc h0 hc0,e2⟩
  ·have hc0:r0.2=0:=by
     rcases e2 with e2 | ⟨_,e3,_⟩
     ·rw [e2];exact hc
     ·rw [e3] at hc;exact absurd hc (by decide)
   rw [if_pos hc0];refine Fm ?_
   simp only [Jd]
   rw [hlog,e1]
theorem nG {c:Cs} {a:Ac} {t:Int} {zs:List Int} (h:doV c a t zs=0):D7 c t zs=true∧Dx c.st a.kind=true∧B4 c a t zs=0∧Ao (Bx c a t zs)=true:=by
 unfold doV at h
 split at h
 ·cases h
 ·rename_i h1
  split at h
  ·cases h
  ·rename_i h2
   split at h
   ·rename_i h3;exact absurd h h3
   ·rename_i h3
    split at h
    ·rename_i h4
     exact ⟨by simpa using h1,by simpa using h2,by simpa using h3,h4⟩
    ·cases h
structure JC (n:Nat) (b:Bk):Prop where
 off:b.off.length≤1000
 az:b.az.length≤n
 cs:b.cs.length≤n
 ref:∀ a ∈ b.az,a.ref.length≤1048576∧0≤Dc a.cur
 cc:∀ c ∈ b.cs,Ao c=true
 led:At b.ls=true
 day:Dn b.today=true
theorem JC.mono {n m:Nat} {b:Bk} (h:JC n b) (hm:n≤m):JC m b:=⟨h.off,by have:=h.az;omega,by have:=h.cs;omega,h.ref,h.cc,h.led,h.day⟩
structure JW (b:Bk):Prop where
 jc:JC b.log.length b
 log:b.log.length≤600
 gl:∀ l ∈ b.log,l.length≤1048576
theorem lB {c:Int} (h:0≤Dc c):Bf c:=by
 refine Cq ?_
 have:=U2 h
 simp [Gi] at this
 omega
theorem cC {c:Cs} (h:Ao c=true):Qk c:=by
 obtain ⟨h1,h2,-,h3,h4,h5,h6,h7,h8,h9,h10,h11⟩:=Jb h
 simp [Fb,Cb] at h1 h2
 have hd:=Ei h10
 refine ⟨Cq (by omega),Cq (by omega),lB h3,Cq (by omega),Cq (by omega),Cq ?_,Cq (by omega),Cq (by omega),Cq (by omega),Cq (by omega),Cq ?_⟩
 ·simp only [Cy,Bool.or_eq_true,Bool.and_eq_true,decide_eq_true_eq] at h6
  rcases h6 with h6 | h6
  ·simp [Oy] at h6;omega
  ·omega
 ·rcases h11 with h11 | h11
  ·have:=Ei h11;omega
  ·omega
theorem xW {b:Bk} (h:JW b):Ej b:=by
 have hd:=Ei h.jc.day;have hl:b.ls.length≤400:=(Dq h.jc.led).2.1;have h1:=h.jc.off;have h2:=h.jc.az;have h3:=h.jc.cs;have h4:=h.log
 exact ⟨⟨by omega,by omega,by omega,by omega,by omega⟩,fun a ha=>(h.jc.ref a ha).1,fun a ha=>lB (h.jc.ref a ha).2,fun c hc=>cC (h.jc.cc c hc),Vm h.jc.led,Cq (by omega)⟩
theorem xJ {es:List En} : ∀ {ls gs:List Ln},Ch ls es=some gs→At ls=true→At gs=true:=by
 induction es with
 | nil=>intro ls gs h hl;rw [Ch] at h;injection h with h;rw [← h];exact hl
 | cons e r ih =>
  intro ls gs h hl;rw [Ch] at h
  split at h
  ·rename_i hp;exact ih h (N1 hp).2
  ·cases h
theorem wS {ls:List Ln} {es:List En} (hl:At ls=true):At (Hv ls es)=true:=by
 unfold Hv
 cases h:Ch ls es with
 | none=>exact hl
 | some gs=>exact xJ h hl
theorem Aah {n:Nat} {b:Bk} (h:JC n b) (d:Int):JC n (Fr F0 b d).1:=by
 unfold Fr
 split
 ·rename_i hd
  refine ⟨h.off,Nat.le_trans (Yp b.az d) h.az,h.cs,fun a ha=>?_,h.cc,h.led,hd.1⟩
  have ha':a ∈ E5 b.az d:=ha;unfold E5 at ha'
  split at ha'
  ·exact h.ref a (List.mem_filter.1 ha').1
  ·cases ha'
 ·exact h
theorem zT {n:Nat} {b:Bk} (h:JC n b) {ref:List UInt8} (hr:ref.length≤1048576) (n0 n1 n2:Int):JC (n+1) (Fq F0 b ref n0 n1 n2).1:=by
 unfold Fq
 split
 ·rename_i hok
  have hok':addOk b.az ⟨ref,n0,n1,n2,b.today,false⟩=true:=hok
  have hau:Gy ⟨ref,n0,n1,n2,b.today,false⟩=true:=by
   simp only [addOk,Bool.and_eq_true] at hok';exact hok'.1
  have hl:=jO b.az ⟨ref,n0,n1,n2,b.today,false⟩
  refine ⟨h.off,Nat.le_trans hl (by have:=h.az;omega),by have:=h.cs;show b.cs.length≤_;omega,fun a ha=>?_,h.cc,h.led,h.day⟩
  have ha':a ∈ Hp b.az ⟨ref,n0,n1,n2,b.today,false⟩:=ha;rw [Nk hok'] at ha'
  rcases List.mem_append.1 ha' with ha2 | ha2
  ·exact h.ref a ha2
  ·simp at ha2;subst ha2;exact ⟨hr,(L0 hau).2.2.1⟩
 ·exact h.mono (by omega)
theorem Sk {az:List Au} {x:Int} {a:Au} (h:a ∈ M7 az x):∃ b ∈ az,b.ref=a.ref∧b.cur=a.cur:=by
 unfold M7 at h
 split at h
 ·rename_i hu
  have hi:x.toNat<az.length:=by
   simp [useOk] at hu;omega
  rcases List.mem_or_eq_of_mem_set h with h | h
  ·exact ⟨a,h,rfl,rfl⟩
  ·subst h
   exact ⟨Ak az x.toNat,by rw [Gw hi];exact List.getElem_mem hi,rfl,rfl⟩
 ·exact ⟨a,h,rfl,rfl⟩
theorem Aam {n:Nat} {b:Bk} (h:JC n b) {n0 n1 n2 n3:Int} {r:Bk×Int} (hp:sG b n0 n1 n2 n3 r):JC (n+1) r.1:=by
 obtain ⟨x,-,rfl⟩:=hp;unfold Jk
 split
 ·exact h.mono (by omega)
 split
 ·exact h.mono (by omega)
 split
 ·exact h.mono (by omega)
 rename_i hok
 split
 ·exact h.mono (by omega)
 have hok':Ao (Ci n0 n1 n2 n3 b.today)=true:=by
  have h1:F0.stOk n0 n1 n2 n3 b.today=true:=by simpa using hok
  exact h1
 have e1:Jh n0 n1 n2 n3 b.today=Ci n0 n1 n2 n3 b.today:=if_pos hok'
 refine ⟨h.off,?_,?_,fun a ha=>?_,fun c hc=>?_,wS h.led,h.day⟩
 ·show (M7 b.az x).length≤n+1
  rw [jC];have:=h.az;omega
 ·show (b.cs++[_]).length≤n+1
  have:=h.cs;simp;omega
 ·obtain ⟨y,hy,e,e'⟩:=Sk (x:=x) (az:=b.az) ha
  rw [← e,← e'];exact h.ref y hy
 ·have hc':c ∈ b.cs++[Jh n0 n1 n2 n3 b.today]:=hc
  rcases List.mem_append.1 hc' with hc' | hc'
  ·exact h.cc c hc'
  ·simp at hc';rw [hc',e1];exact hok'
theorem Aag {n:Nat} {b:Bk} (h:JC n b) (i:Int) (x:Ac):JC (n+1) (Ja F0 b i x).1:=by
 unfold Ja
 split
 ·exact h.mono (by omega)
 rename_i hi
 split
 ·exact h.mono (by omega)
 rename_i hv
 split
 ·exact h.mono (by omega)
 have hv':doV (A8 b.cs i.toNat) x b.today b.off=0:=Classical.not_not.1 hv
 refine ⟨h.off,by have:=h.az;show b.az.length≤_;omega,?_,h.ref,fun c hc=>?_,wS h.led,h.day⟩
 ·show (b.cs.set _ _).length≤n+1
  have:=h.cs;simp;omega
 ·have hc':c ∈ b.cs.set i.toNat (doC (A8 b.cs i.toNat) x b.today b.off):=hc
  rcases List.mem_or_eq_of_mem_set hc' with hc' | hc'
  ·exact h.cc c hc'
  ·rw [hc',doC,if_pos hv'];exact (nG hv').2.2.2
theorem zH {n:Nat} {b:Bk} (h:JC n b) {line:List UInt8} (hl:line.length≤1048576) {r:Bk×Int} (hr:Fu b line r):JC (n+1) r.1:=by
 unfold Fu Db at hr
 have hb:r=(b,1)→JC (n+1) r.1:=fun e=>by rw [e];exact h.mono (by omega)
 split at hr
 ·rw [hr];exact (Aah h _).mono (by omega)
 split at hr
 ·rename_i ha
  split at hr
  ·rw [hr]
   refine zT h ?_ _ _ _
   have h5:(Ab line).length=5:=by simp [Bq] at ha;exact ha.2
   have:=Ee line _ (F7 (rs:=Ab line) (k:=1) (by omega))
   omega
  ·exact hb hr
 split at hr
 ·split at hr
  ·exact Aam h hr
  ·exact hb hr
 split at hr
 ·split at hr
  ·rw [hr];exact Aag h _ _
  ·exact hb hr
 ·exact hb hr
theorem zW {b:Bk} (h:JW b) {line:List UInt8} (hl:line.length≤1048576) {r:Bk×Int} (hr:Fg Fu b line r):JW r.1:=by
 rcases hr with ⟨-,rfl⟩ | ⟨hf,s,hs,⟨-,rfl⟩ | ⟨-,rfl⟩⟩
 ·exact h
 ·exact h
 ·have j:=zH h.jc hl hs
  refine ⟨?_,?_,fun l hm=>?_⟩
  ·show JC (b.log++[line]).length _
   rw [List.length_append,List.length_singleton];exact ⟨j.off,j.az,j.cs,j.ref,j.cc,j.led,j.day⟩
  ·show (b.log++[line]).length≤600
   simp;omega
  ·have hm':l ∈ b.log++[line]:=hm
   rcases List.mem_append.1 hm' with hm' | hm'
   ·exact h.gl l hm'
   ·simp at hm';rw [hm'];exact hl
end Kb
def Eu (b:Nat) (ao:Option Addr) (cp:Nat) (zs:List Int) (a:Ac) (t:Int) (c:Cs) (w:World) (e:Ending) (w':World):Prop :=
 DR b ao cp zs a t w (.int .i64 (B4 c a t zs)) (if B4 c a t zs=0 then Bx c a t zs else c) (if B4 c a t zs=0 then Bw c a else []) e w'
section
variable {b:Nat} {ao:Option Addr} {cp:Nat} {zs:List Int} {a:Ac} {t:Int} {c:Cs} {v:Value} {w:World}
theorem Ew {f:FuncId} {r:Int} {n:Cs} {es:List En} {c':Cs} {es':List En} (g:Calls prog f #[.pointer (some ⟨b,0,none⟩)] w (DR b ao cp zs a t w (.int .i64 r) c' es')) (h1:B4 c a t zs=r) (h2:Bx c a t zs=n) (h3:Bw c a=es)
  (h4:c'=if r=0 then n else c) (h5:es'=if r=0 then es else []):Calls prog f #[.pointer (some ⟨b,0,none⟩)] w (Eu b ao cp zs a t c w):=by
 subst h1 h2 h3 h4 h5;exact g
theorem tC (h:DS b ao cp zs a t c [] v w) (hn:zs.length≤1099511627776) (hk:a.kind=0):Calls prog 288 #[.pointer (some ⟨b,0,none⟩)] w (Eu b ao cp zs a t c w) :=
 Ew (oI h hn) (by simp [B4,hk]) (by simp [Bx,hk];rfl) (by simp [Bw,hk];rfl) (by rfl) (by rfl)
theorem sT (h:DS b ao cp zs a t c [] v w) (hk:a.kind=1):Calls prog 289 #[.pointer (some ⟨b,0,none⟩)] w (Eu b ao cp zs a t c w):=by
 refine Ew (mH h) (show B4 c a t zs=if Bv t c.due=true then 4 else 0 by simp [B4,hk]) (show Bx c a t zs=J9 c by simp [Bx,hk]) (show Bw c a=[] by simp [Bw,hk]) ?_ ?_
 ·cases Bv t c.due <;> simp
 ·simp
theorem tD (h:DS b ao cp zs a t c [] v w) (hn:zs.length≤1099511627776) (hk:a.kind=2):Calls prog 290 #[.pointer (some ⟨b,0,none⟩)] w (Eu b ao cp zs a t c w) :=
 Ew (Yw h hn) (by simp [B4,hk]) (by simp [Bx,hk]) (by simp [Bw,hk]) rfl rfl
theorem sD (h:DS b ao cp zs a t c [] v w) (hn:zs.length≤1099511627776) (hb:0≤c.bk∧c.bk≤1000000000000) (hc:0≤c.cl∧c.cl≤1000000000000) (hk:a.kind=3):Calls prog 291 #[.pointer (some ⟨b,0,none⟩)] w (Eu b ao cp zs a t c w) :=
 Ew (aE h hn hb hc) (by simp [B4,hk,Dd]) (by simp [Bx,hk]) (by simp [Bw,hk]) rfl rfl
theorem tB (h:DS b ao cp zs a t c [] v w) (hn:zs.length≤1099511627776) (hk:a.kind=4):Calls prog 292 #[.pointer (some ⟨b,0,none⟩)] w (Eu b ao cp zs a t c w) :=
 Ew (Z2 h hn) (by simp [B4,hk,Dd]) (by simp [Bx,hk]) (show Bw c a=[] by simp [Bw,hk]) rfl (by simp)
theorem sE (h:DS b ao cp zs a t c [] v w) (hb:0≤c.bk∧c.bk≤1000000000000) (hc:0≤c.cl∧c.cl≤1000000000000) (hk:a.kind=5):Calls prog 293 #[.pointer (some ⟨b,0,none⟩)] w (Eu b ao cp zs a t c w) :=
 Ew (Rl h hb hc) (by simp [B4,hk]) (by simp [Bx,hk];rfl) (by simp [Bw,hk];rfl) (by rfl) (by rfl)
theorem sX (h:DS b ao cp zs a t c [] v w) (hn:zs.length≤1099511627776) (hk:a.kind=6):Calls prog 294 #[.pointer (some ⟨b,0,none⟩)] w (Eu b ao cp zs a t c w):=by
 refine Ew (Yn h hn) (show B4 c a t zs=if Bv t c.due=true then 4 else 0 by simp [B4,hk]) (show Bx c a t zs=⟨c.iss,c.acq,c.cur,c.am,6,c.rsn,c.cl,c.bk,c.fee,c.cop,c.sta,C6 t 60 zs⟩ by simp [Bx,hk]) (show Bw c a=[] by simp [Bw,hk]) ?_ ?_
 ·cases Bv t c.due <;> simp
 ·simp
theorem sM (h:DS b ao cp zs a t c [] v w) (hb:0≤c.bk∧c.bk≤1000000000000) (hc:0≤c.cl∧c.cl≤1000000000000) (hf:0≤c.fee∧c.fee≤1000000) (hk:a.kind=7):Calls prog 295 #[.pointer (some ⟨b,0,none⟩)] w (Eu b ao cp zs a t c w):=by
 refine Ew (mB h hb hc hf) (show B4 c a t zs=if 0≤a.am∧a.am≤c.cl then 0 else 2 by simp [B4,hk]) (show Bx c a t zs=Es c a.am by simp [Bx,hk]) (show Bw c a=Dg c a.am by simp [Bw,hk]) ?_ ?_
 ·by_cases hx:0≤a.am∧a.am≤c.cl
  ·rw [if_pos hx,if_pos hx,if_pos rfl]
  ·rw [if_neg hx,if_neg hx,if_neg (by decide)]
 ·by_cases hx:0≤a.am∧a.am≤c.cl
  ·rw [if_pos hx,if_pos hx,if_pos rfl]
  ·rw [if_neg hx,if_neg hx,if_neg (by decide)]
theorem tA (h:DS b ao cp zs a t c [] v w) (hb:0≤c.bk∧c.bk≤1000000000000) (hc:0≤c.cl∧c.cl≤1000000000000) (hf:0≤c.fee∧c.fee≤1000000) (hk:a.kind=8):Calls prog 296 #[.pointer (some ⟨b,0,none⟩)] w (Eu b ao cp zs a t c w):=by
 refine Ew (Y0 h hb hc hf) (show B4 c a t zs=if Bv t c.due=true then 0 else 4 by simp [B4,hk]) (show Bx c a t zs=Cx c by simp [Bx,hk]) (show Bw c a=Ck c by simp [Bw,hk]) ?_ ?_
 ·cases Bv t c.due <;> simp
 ·cases Bv t c.due <;> simp
theorem sA (h:DS b ao cp zs a t c [] v w) (hk:a.kind=9):Calls prog 297 #[.pointer (some ⟨b,0,none⟩)] w (Eu b ao cp zs a t c w) :=
 Ew (iR h) (by simp [B4,hk]) (by simp [Bx,hk];rfl) (show Bw c a=[] by simp [Bw,hk]) (by rfl) (by rfl)
end
end Go.Proofs.YtomiclakhjncbaaGreatDoor
