import Derived.Test.YtfpafnefpmmofaaGreatDoorJW3a
import Derived.Test.YtfpafnefpmmofaaGreatDoorKWCStart
import Derived.Test.YtfpafnefpmmofaaGreatDoorKWHpDown
import Derived.Laws.EntriesVeiled
set_option maxRecDepth 100000
set_option maxHeartbeats 12800000
namespace Go.Proofs.YtfpafnefpmmofaaGreatDoor
open Go.RowKit Go.Proofs.Tryz
def Ia (Rel:Bk->qn->Bk×Int->Prop) (b:Bk) (c:qn) (r:Bk×Int):Prop :=
 (600<=b.log.length/\r=(b,2))\/(b.log.length<600/\∃ s,Rel b c s/\((s.2≠0/\r=(b,s.2))\/(s.2=0/\r=(⟨s.1.today,s.1.off,s.1.az,s.1.cs,s.1.ls,b.log++[c]⟩,0))))
structure qC (Pre:Bk->Prop) (Rel:Bk->qn->Bk×Int->Prop) (Ln:qn->Prop:=λ_=>True):Prop where
 log:∀ b l r,Rel b l r->r.1.log=b.log
 small:∀ b,Pre b->Ld b
 calls:∀ (b:Bk) (p:Bp) (c:qn) (w:ql),Az w b p->rO p w.heap.size->Pre b->c.length<=1048575->Ln c ->
  qi 67 #[Fx b p,qd c] w λe w'=>∃ r,Rel b c r/\BdR w p r.1 r.2 e w'
theorem Z6.grown {B:Nat} {m o q v y z:Value} {u f:ql} {row:Option Nat} (h:Z6 B m o q v y z u) (g:u.grownBy f row) (d:some B≠row):Z6 B m o q v y z f:=by
 have l:=h.lt;obtain ⟨c0,c1,c2,c3,c4,c5,z0,z1,z2,z3,z4,z5⟩:=h;exact ⟨(g.cell_far (qzA B 0) l d).t c0,(g.cell_far (qzA B 1) l d).t c1,(g.cell_far (qzA B 2) l d).t c2,(g.cell_far (qzA B 3) l d).t c3,(g.cell_far (qzA B 4) l d).t c4,(g.cell_far (qzA B 5) l d).t c5,(g.frozen_far (qzA B 0) l d).t z0,(g.frozen_far (qzA B 1) l d).t z1,(g.frozen_far (qzA B 2) l d).t z2,(g.frozen_far (qzA B 3) l d).t z3,(g.frozen_far (qzA B 4) l d).t z4,(g.frozen_far (qzA B 5) l d).t z5⟩
theorem nR {u f:ql} {row:Option Nat} {T i:Nat} {x:Value} (h:u.grownBy f row) (A:u.heap.size<=T):u.grownBy (f.setCell (qzA T i) x) row :=
 ⟨h.os,h.tape,h.output,by simpa using h.size,λj hj hne=>(Below.heap_setCell _ _ _ _ (λe=>by have:j=T:=e;omega)).t (h.block j hj hne)⟩
theorem Sm {a a1:qm} {n base B:Nat} (h:a=a1\/Df a n) (k:Fw a1 base) (hb:base<=B) (hB:B<n):Ir a B:=by
 rcases h with rfl|h
 ·exact Z1 k hb
 ·exact Bb h hB
theorem Pa {a a1:qm} {n B:Nat} (h:a=a1\/Df a n) (k:Ir a1 B) (hB:B<n):Ir a B:=by
 rcases h with rfl|h
 ·exact k
 ·exact Bb h hB
structure eQ (Pre:Bk->Prop) (Pay:Bk->Int->Int->Int->Int->Bk×Int->Prop) (Act:Bk->Int->Ac->Bk×Int):Prop where
 pay:∀ (b:Bk) (p:Bp) (g k:Nat) (n0 n1 n2 n3:Int) (w:ql),Az w b p->rO p w.heap.size->Pre b->w.cell? (qzA g 0)=some (qzI n0)->w.cell? (qzA g 1)=some (qzI n1)->w.cell? (qzA g 2)=some (qzI n2)->w.cell? (qzA g 3)=some (qzI n3)->n3<1000000000000000000->-1<=n3 ->
  qi 98 #[Fx b p,qf (some (qzA g 0)) 4 k] w λe w'=>∃ r,Pay b n0 n1 n2 n3 r/\BdR w p r.1 r.2 e w'
 act:∀ (b:Bk) (p:Bp) (i:Int) (x:Ac) (w:ql),Az w b p->rO p w.heap.size->Pre b->qi 100 #[Fx b p,qzI i,av x] w (BdR w p (Act b i x).1 (Act b i x).2)
theorem Df.m {a:qm} {n m:Nat} (h:Df a n) (hm:m<=n):Df a m:=λx hx=>by have:=h x hx;omega
theorem rO.m {p:Bp} {n m:Nat} (h:rO p n) (hm:n<=m):rO p m:=⟨h.o.m hm,h.a.m hm,h.c.m hm,h.l.m hm,h.g.m hm⟩
theorem Fd {u:ql} {R:Nat} {p:Addr} {v:Value} (h:u.cell? p=some v) (B:p.block≠R) (D F G H I J:Value) :
  ((((((u.setCell (qzA R 0) D).setCell (qzA R 1) F).setCell (qzA R 2) G).setCell (qzA R 3) H).setCell (qzA R 4) I).setCell (qzA R 5) J).cell? p=some v:=by
 have s:∀ (y:ql) (i:Nat) (x:Value),y.cell? p=some v->(y.setCell (qzA R i) x).cell? p=some v:=λy i x hy=>((An y R i x).cell_far p (qs y _ hy) (by simp;exact B)).t hy
 exact s _ _ _ (s _ _ _ (s _ _ _ (s _ _ _ (s _ _ _ (s _ _ _ h)))))
theorem bO {w u C:ql} {p q:Bp} {f:Bk} {code:Int} {R:Nat} (z:rO p w.heap.size) (d:BW w u) (hR:w.heap.size<=R) (j:R<u.heap.size) (hb:Az C f q) (L:q.g=p.g) (A:q.gc=p.gc)
  (hpt:q.o=p.o/\(q.a=p.a\/Df q.a u.heap.size)/\(q.c=p.c\/Df q.c u.heap.size)/\(q.l=p.l\/Df q.l u.heap.size)) (b4:BW u C) (D F G H I J:Value) :
  BdR w p f code (.returned (.tuple #[Fx f q,qzI code])) ((((((C.setCell (qzA R 0) D).setCell (qzA R 1) F).setCell (qzA R 2) G).setCell (qzA R 3) H).setCell (qzA R 4) I).setCell (qzA R 5) J) :=
 ⟨q,rfl,hb.put6 (Ads z L hpt hR j) _ _ _ _ _ _,L,A,⟨hpt.1,hpt.2.1.imp id (λh=>h.m d.size),hpt.2.2.1.imp id (λh=>h.m d.size),hpt.2.2.2.imp id (λh=>h.m d.size)⟩,Bj hR (next d b4) _ _ _ _ _ _⟩
theorem Nu:∃ i,prog.info? 217=some i/\i.zero=some (.agg #[qzI 0,qzI 0,qzI 0,qzI 0])/\i.size=4/\i.bytes=32:=by
 obtain ⟨i,k,C⟩:=Option.map_eq_some_iff.1 Aiu
 simp only [Prod.mk.injEq] at C
 exact ⟨i,k,C.1,C.2.1,C.2.2⟩
theorem X9 (x y z t:Int):∀ u ∈ [Value.int .i64 x,qzI y,qzI z,qzI t],u.oneCell'=true:=by
 intro u J
 simp at J
 rcases J with rfl|rfl|rfl|rfl <;> rfl
theorem Mx {P:Program} {G:Array Oper} {o:Oper} {a:Act} {w:ql} {K:Act->ql->Prop} {Q:Exit->Act->ql->Prop} {E:Prop}
  (hg:o.guard=none) (s x:Operand) (t:TypeId) (ho:o.op=Op.call { callee:=Callee.builtin Builtin.append,args:=#[s,x],argTypes:=#[t,t] })
  (base:Nat) (e:TypeId) (i:TypeInfo) (z:Value) (size bytes:Nat) (ht:P.underlying t=some (.slice e)) (hi:P.info? e=some i) (hz:i.zero=some z)
  (hsize:i.size=size) (hby:i.bytes=bytes) (hzs:z.cells.size=size) (hsz:0<size)
  (v:Value) (n:Nat) (xs:List Value) (hs:a.eval s=v) (hown:w.ownsRow base e size v n xs)
  (ad:Addr) (m c:Nat) (news:List Value) (hx:a.eval x=qf (some ad) m c) (hl:news.length=m*size) (hnews:∀ j u,news[j]?=some u->w.cell? (ad.add j)=some u) (k:∀ u ∈ news,u.oneCell'=true)
  (h63:n+m<=maxLen) (hbytes:(n+m) * bytes<=140737488355328) (hbase:base<=w.heap.size)
  (h:∀ v' w',w'.ownsRow base e size v' (n+m) (xs++news)->w.grownBy w' v.ownBlock->(v'=qe ↔ v=qe/\m=0)->K (a.put o.dst v') w') :
  if Region.wanted o (yielded G a.tmps)=true then Oper.wp P o a w K Q else E:=by
 rw [if_pos (by simp [Region.wanted,hg])]
 exact wp_append_own w s x t ho base e i z size bytes ht hi hz hsize hby hzs hsz v n xs hs hown ad m c news hx hl hnews k h63 hbytes hbase h
theorem Qp (a b:List En):B9 (a++b)=B9 a++B9 b:=by simp [B9]
def Ku (c:Cs) (es:List En) (f g s:Int):List En:=if 0<s then es++[(f,g,c.cur,s)] else es
theorem Wa {c:Cs} {a:Ac} {t:Int} {zs:List Int} {p q l:Bool} (k:(!Ty a.rsn || (Gf a.rsn && !Gk c t))=p) (C:(decide (a.am<1) || (decide (c.am<a.am) || (decide (a.am<c.am) && !Iw a.rsn)))=q) (A:Cr t (Dt c.sta (Im a.rsn) zs)=l) :
  Ce c a t zs=if p=true then 3 else if q=true then 2 else if l=true then 4 else 0:=by
 unfold Ce;rw [A]
 have e1:(Ty a.rsn=false\/(Gf a.rsn=true/\Gk c t=false)) ↔ p=true:=by rw [<- k];simp
 have e2:(¬ (1<=a.am/\a.am<=c.am)\/(a.am<c.am/\Iw a.rsn=false)) ↔ q=true:=by
  rw [<- C]
  cases Iw a.rsn
  ·simp;omega
  ·simp;omega
 simp only [e1,e2]
theorem Bv (u:ql) (b i:Nat) (x:Value):Below b u (u.setCell (qzA b i) x):=Below.setCell (Below.refl b u) (show b<=b from Nat.le_refl b) x
def Ep (c:Cs) (a:Ac) (t:Int):Int:=if Cr t c.due=true then 4 else if 1<=a.am/\a.am<=c.cl then 0 else 2
theorem Zu {c:Cs} {a:Ac} {t:Int} (h:Ep c a t=0):1<=a.am/\a.am<=c.cl:=by
 unfold Ep at h
 split at h
 ·cases h
 ·split at h
  ·assumption
  ·cases h
theorem CB.under {s o B:Nat} {c:Cs} {u d:ql} (h:CB s o c u) (b:Below B u d) (l:s<B):CB s o c d :=
 ⟨(b.c s o l).t h.f0,(b.c s (o+1) l).t h.f1,(b.c s (o+2) l).t h.f2,(b.c s (o+3) l).t h.f3,(b.c s (o+4) l).t h.f4,(b.c s (o+5) l).t h.f5,(b.c s (o+6) l).t h.f6,(b.c s (o+7) l).t h.f7,(b.c s (o+8) l).t h.f8,(b.c s (o+9) l).t h.f9,(b.c s (o+10) l).t h.f10,(b.c s (o+11) l).t h.f11⟩
theorem FZ.under {s o B:Nat} {u d:ql} (h:FZ s o u) (b:Below B u d) (l:s<B):FZ s o d :=
 ⟨(b.frozen (p:=(qzA s o)) l).t h.z0,(b.frozen (p:=(qzA s (o+1))) l).t h.z1,(b.frozen (p:=(qzA s (o+2))) l).t h.z2,(b.frozen (p:=(qzA s (o+3))) l).t h.z3,(b.frozen (p:=(qzA s (o+4))) l).t h.z4,(b.frozen (p:=(qzA s (o+5))) l).t h.z5,(b.frozen (p:=(qzA s (o+6))) l).t h.z6,(b.frozen (p:=(qzA s (o+7))) l).t h.z7,(b.frozen (p:=(qzA s (o+8))) l).t h.z8,(b.frozen (p:=(qzA s (o+9))) l).t h.z9,(b.frozen (p:=(qzA s (o+10))) l).t h.z10,(b.frozen (p:=(qzA s (o+11))) l).t h.z11⟩
structure BX (s:Nat) (c:Cs) (a:Ac) (u:ql):Prop where
 cb:CB s 0 c u
 a0:u.cell? ⟨s+1,0,none⟩=some (qzI a.kind)
 a1:u.cell? ⟨s+1,1,none⟩=some (qzI a.am)
 a2:u.cell? ⟨s+1,2,none⟩=some (qzI a.rsn)
 rb:CB (s+1+1) 0 Ct u
 rz:FZ (s+1+1) 0 u
theorem BX.under {s B:Nat} {c:Cs} {a:Ac} {u d:ql} (h:BX s c a u) (b:Below B u d) (l:s+1+1<B):BX s c a d :=
 ⟨h.cb.under b (by omega),(b.cell (p:=⟨s+1,0,none⟩) (by show s+1<B;omega)).t h.a0,(b.cell (p:=⟨s+1,1,none⟩) (by show s+1<B;omega)).t h.a1,(b.cell (p:=⟨s+1,2,none⟩) (by show s+1<B;omega)).t h.a2,h.rb.under b l,h.rz.under b l⟩
theorem BX.below {s:Nat} {c:Cs} {a:Ac} {u d:ql} (h:BX s c a u) (b:BW u d):BX s c a d:=h.under b h.rb.lt
theorem BX.new (w:ql) (c:Cs) (a:Ac) (D F H:TypeId):BX w.heap.size c a (((w.alloc (.cells #[qzI c.iss,qzI c.acq,qzI c.cur,qzI c.am,qzI c.st,qzI c.rsn,qzI c.cl,qzI c.bk,qzI c.fee,.bool c.cop,qzI c.sta,qzI c.due] D)).alloc (.cells #[qzI a.kind,qzI a.am,qzI a.rsn] F)).alloc (.cells #[qzI 0,qzI 0,qzI 0,qzI 0,qzI 0,qzI 0,qzI 0,qzI 0,qzI 0,.bool false,qzI 0,qzI 0] H)):=by
 have k:=CB.new w c D
 have I:∀ (u:ql) (o:Obj),Below u.heap.size u (u.alloc o):=λu o=>bR.alloc nL _
 have e2:((w.alloc (.cells #[qzI c.iss,qzI c.acq,qzI c.cur,qzI c.am,qzI c.st,qzI c.rsn,qzI c.cl,qzI c.bk,qzI c.fee,.bool c.cop,qzI c.sta,qzI c.due] D)).alloc (.cells #[qzI a.kind,qzI a.am,qzI a.rsn] F)).heap.size=w.heap.size+1+1:=by simp
 refine ⟨(k.below (I _ _)).below (I _ _),by simp [go_sem],by simp [go_sem],by simp [go_sem],?_,?_⟩
 ·have A:=CB.new ((w.alloc (.cells #[qzI c.iss,qzI c.acq,qzI c.cur,qzI c.am,qzI c.st,qzI c.rsn,qzI c.cl,qzI c.bk,qzI c.fee,.bool c.cop,qzI c.sta,qzI c.due] D)).alloc (.cells #[qzI a.kind,qzI a.am,qzI a.rsn] F)) Ct H
  rw [e2] at A;exact A
 ·have A:=FZ.new ((w.alloc (.cells #[qzI c.iss,qzI c.acq,qzI c.cur,qzI c.am,qzI c.st,qzI c.rsn,qzI c.cl,qzI c.bk,qzI c.fee,.bool c.cop,qzI c.sta,qzI c.due] D)).alloc (.cells #[qzI a.kind,qzI a.am,qzI a.rsn] F)) #[qzI 0,qzI 0,qzI 0,qzI 0,qzI 0,qzI 0,qzI 0,qzI 0,qzI 0,.bool false,qzI 0,qzI 0] H
  rw [e2] at A;exact A
theorem tT (c:Cs) (a:Ac) (t:Int) (zs:List Int):(Ca c a t zs).cur=c.cur:=by
 unfold Ca
 repeat' split
 all_goals first|rfl|(unfold De;repeat' split) 
 all_goals rfl
def DoR (w:ql) (c:Cs) (es:List En) (r:Int) (e:Ending) (w':ql):Prop :=
 ∃ ao cap,e=.returned (.tuple #[cv c,qf ao es.length cap,qzI r])/\w'.ownsRow w.heap.size 217 4 (qf ao es.length cap) es.length (B9 es)/\BW w w'
theorem Fy {w u:ql} {c:Cs} {es:List En} {r:Int} {ao:qm} {cap base:Nat} (hb:w.heap.size+1+1<base) (ho:u.ownsRow base 217 4 (qf ao es.length cap) es.length (B9 es)) (bel:BW w u) :
  DoR w c es r (.returned (.tuple #[cv c,qf ao es.length cap,qzI r])) (Dl u (w.heap.size+1+1) c) :=
 ⟨ao,cap,rfl,Bz (Hy c ho (λg hg=>by have:=(ho.lt g hg).1;omega)) (by omega),Dc c bel (by omega)⟩
theorem Ae7 {w u:ql} {c:Cs} {es:List En} {r:Int} {e:Ending} (h:DoR w c es r e u):DoR w c es r e u.drew:=by
 obtain ⟨ao,cap,he,ho,hb⟩:=h;exact ⟨ao,cap,he,A5 ho (bR.drew),hb.drew⟩
def Nd (w:ql) (ls:List Ln) (ok:Bool) (e:Ending) (w':ql):Prop :=
 ∃ ao cap,e=.returned (.tuple #[.agg #[qf ao ls.length cap],.bool ok])/\w'.ownsRow w.heap.size 151 3 (qf ao ls.length cap) ls.length (Ak ls)/\BW w w'
structure PB (s:Nat) (ao:qm) (cap n:Nat) (a b c m:Int) (u:ql):Prop where
 l0:u.cell? (qzA s 0)=some (qf ao n cap)
 e0:u.cell? ⟨s+1,0,none⟩=some (.int .i64 a)
 e1:u.cell? ⟨s+1,1,none⟩=some (.int .i64 b)
 e2:u.cell? ⟨s+1,2,none⟩=some (.int .i64 c)
 e3:u.cell? ⟨s+1,3,none⟩=some (.int .i64 m)
 r0:u.cell? ⟨s+1+1,0,none⟩=some qe
 rf:u.frozen? ⟨s+1+1,0,none⟩=false
 sz:s+1+1<u.heap.size
theorem PB.below {s:Nat} {ao:qm} {cap n:Nat} {a b c m:Int} {u u':ql} (h:PB s ao cap n a b c m u) (hb:BW u u'):PB s ao cap n a b c m u':=by
 have h1:=h.sz
 exact ⟨(hb.c s 0 (by show s<u.heap.size;omega)).t h.l0,(hb.cell (p:=⟨s+1,0,none⟩) (by show s+1<u.heap.size;omega)).t h.e0,(hb.cell (p:=⟨s+1,1,none⟩) (by show s+1<u.heap.size;omega)).t h.e1,
  (hb.cell (p:=⟨s+1,2,none⟩) (by show s+1<u.heap.size;omega)).t h.e2,(hb.cell (p:=⟨s+1,3,none⟩) (by show s+1<u.heap.size;omega)).t h.e3,(hb.cell (p:=⟨s+1+1,0,none⟩) h1).t h.r0,(hb.frozen (p:=⟨s+1+1,0,none⟩) h1).t h.rf,jd h1 hb.size⟩
theorem Ic {w u:ql} {ls gs:List Ln} {ok:Bool} {ao:qm} {cap base:Nat} (hg:gs=ls) (ho:u.ownsRow base 151 3 (qf ao ls.length cap) ls.length (Ak ls)) (hb:w.heap.size+1+1<base) (bel:BW w u) :
  Nd w gs ok (.returned (.tuple #[.agg #[qf ao ls.length cap],.bool ok])) (u.setCell ⟨w.heap.size+1+1,0,none⟩ (qf ao ls.length cap)):=by
 subst hg
 exact ⟨ao,cap,rfl,Bz (Bf ho _ _ (λg hg=>by have:=(ho.lt g hg).1;simp only;omega)) (by omega),bel.setCell (by show w.heap.size<=w.heap.size+1+1;omega) _⟩
theorem Jq {ls:List Ln} {e:En} (h:Cz ls e=false):Nb ls e=ls:=if_neg (by rw [h];decide)
theorem Te {ls:List Ln} {e:En} (h:Cz ls e=true):Nb ls e=I5 ls e:=if_pos h
theorem V7 {ls:List Ln} {a c m:Int} : ∀ x ∈ Dj ls a c m,x ∈ ls\/x.2.2=m\/∃ y ∈ ls,x.2.2=y.2.2+m:=by
 induction ls with
 | nil=>intro x l;simp [Dj] at l;subst l;exact .inr (.inl rfl)
 | cons y r ih =>
  intro x l
  simp only [Dj] at l
  split at l
  ·split at l
   ·split at l
    ·rcases List.mem_cons.1 l with rfl|h
     ·exact .inr (.inr ⟨y,List.mem_cons_self ..,rfl⟩)
     ·exact .inl (List.mem_cons_of_mem _ h)
    ·exact .inl (List.mem_cons_of_mem _ l)
   ·rcases List.mem_cons.1 l with rfl|h
    ·exact .inr (.inl rfl)
    ·exact .inl h
  ·rcases List.mem_cons.1 l with rfl|h
   ·exact .inl (List.mem_cons_self ..)
   ·rcases ih x h with h|h|⟨z,hz,h⟩
    ·exact .inl (List.mem_cons_of_mem _ h)
    ·exact .inr (.inl h)
    ·exact .inr (.inr ⟨z,List.mem_cons_of_mem _ hz,h⟩)
theorem Et {ls:List Ln} (h:A6 ls=true):Bc none ls=true/\ls.length<=400/\eR ls=true:=by
 simp only [A6,jf,decide_eq_true_eq] at h
 exact ⟨h.1,h.2.1,h.2.2⟩
theorem Qi {e:En} (h:B7 e=true):Cm e.1=true/\Cm e.2.1=true/\e.1≠e.2.1/\0<=D6 e.2.2.1/\1<=e.2.2.2/\e.2.2.2<=1000000000000:=by
 simp only [B7,jf,decide_eq_true_eq] at h
 exact ⟨h.1,h.2.1,h.2.2.1,h.2.2.2.1,h.2.2.2.2⟩
theorem sY (ao:qm) (cap:Nat) (ls:List Ln) (a b c m:Int) (w:ql) (hz:Ar w ao ls) (hn:ls.length<=1048576) :
  qi 149 #[.agg #[qf ao ls.length cap],.agg #[.int .i64 a,.int .i64 b,.int .i64 c,.int .i64 m]] w (Nd w (Nb ls (a,b,c,m)) (Cz ls (a,b,c,m))):=by
 obtain ⟨W,hW⟩:=A0 (((w.alloc (.cells #[qf ao ls.length cap] 38)).alloc (.cells #[.int .i64 a,.int .i64 b,.int .i64 c,.int .i64 m] 217)).alloc (.cells #[qe] 38))
 have bW:BW w W:=by rw [hW];go_grown
 have PW:PB w.heap.size ao cap ls.length a b c m W:=by
  rw [hW];exact ⟨by simp [go_sem],by simp [go_sem],by simp [go_sem],by simp [go_sem],by simp [go_sem],by simp [go_sem],by simp [go_sem],by simp⟩
 have HZ:=Aa (hz.below bW);have HW:qj _:=hW;have l0:=PW.l0;have a6:qj _:=PW;clear hz hW PW
 cases hL:A6 ls
 ·have f:Cz ls (a,b,c,m)=false:=by simp [Cz,hL]
  have q:qj _:=Jq f;rw [f];have HL:qj _:=hL
  have HC:qj (qi 195 #[.agg #[qf ao ls.length cap]] W λe w'=>e=.returned (.bool false)/\BW W w'):=by
   have h:=La ao cap ls W HZ.o (by omega)
   rw [hL] at h;exact h
  clear f hL
  go_enter func149,ntmps149
  go_upto_region 1 with fail
  rw [<- HW.o];go_wp2_with fail
  refine HC.o.m ?_;rintro e T ⟨rfl,C⟩;have j:=a6.o.below C;have q1:=next bW C;have J:=Aa (HZ.o.below C);have U:=j.l0;have D:qj _:=j;clear HC C j l0;go_wp2_with fail
  refine (Jk ao cap ls T J.o (by omega)).m ?_
  rintro e G ⟨g2,c2,rfl,o2,F⟩;have v:=D.o.below F;have r0:=v.r0;have rf:=v.rf;have Z:qj _:=Ic (w:=w) (ok:=false) q.o o2 D.o.sz (next q1 F);clear o2 F v U;go_wp2
  refine bodyPost_ret (by simp [results,results149,go_sem,r0];try rfl) rfl ?_
  exact Z.o
 have N:qj (qi 195 #[.agg #[qf ao ls.length cap]] W λe w'=>e=.returned (.bool true)/\BW W w'):=by
  have h:=La ao cap ls W HZ.o (by omega)
  rw [hL] at h;exact h
 cases hE:B7 (a,b,c,m)
 ·have f:Cz ls (a,b,c,m)=false:=by simp [Cz,hE]
  have q:qj _:=Jq f;rw [f];have a3:qj _:=hE;clear f hL hE
  go_enter func149,ntmps149
  go_upto_region 1 with fail
  rw [<- HW.o];go_wp2_with fail
  refine N.o.m ?_;rintro e T ⟨rfl,C⟩;have j:=a6.o.below C;have q1:=next bW C;have J:=Aa (HZ.o.below C);have k0:=j.e0;have k1:=j.e1;have k2:=j.e2;have k3:=j.e3
  have I:qj (qi 196 #[.agg #[.int .i64 a,.int .i64 b,.int .i64 c,.int .i64 m]] T λe w'=>e=.returned (.bool false)/\BW T w'):=by
   have h:=Sk a b c m T;rw [a3.o] at h;exact h
  have D:qj _:=j;clear N C j l0;go_wp2_with fail
  refine I.o.m ?_;rintro e G ⟨rfl,F⟩;have v:=D.o.below F;have q2:=next q1 F;have R:=Aa (J.o.below F);have U:=v.l0;have d:qj _:=v;clear I F v k0 k1 k2 k3;go_wp2_with fail
  refine (Jk ao cap ls G R.o (by omega)).m ?_
  rintro e X ⟨g3,c3,rfl,o3,B⟩;have P3:=d.o.below B;have r0:=P3.r0;have rf:=P3.rf;have Z:qj _:=Ic (w:=w) (ok:=false) q.o o3 d.o.sz (next q2 B);clear o3 B P3 U;go_wp2
  refine bodyPost_ret (by simp [results,results149,go_sem,r0];try rfl) rfl ?_
  exact Z.o
 ·obtain ⟨d0,g1,_⟩:=Et hL
  obtain ⟨_,_,_,_,d5,d6⟩:=Qi hE
  simp only at d5 d6
  have S:∀ x ∈ ls,-1000000000000<=x.2.2/\x.2.2<=1000000000000:=λx l=>(Ks (Ew d0 x l)).2.2.1
  have a9:qj (∀ x ∈ ls,-4000000000000<=x.2.2/\x.2.2<=4000000000000):=λx l=>by have:=S x l;omega
  have Y:qj (∀ x ∈ Dj ls a c (-m),-4000000000000<=x.2.2/\x.2.2<=4000000000000):=λx l=>by
   rcases V7 x l with h|h|⟨y,hy,h⟩
   ·have:=S x h;omega
   ·omega
   ·have:=S y hy;omega
  have d1:=Rs ls a c (-m);have a8:=Rs (Dj ls a c (-m)) b c m;have a5:qj (I5 ls (a,b,c,m)=Dj (Dj ls a c (-m)) b c m):=rfl
  have O:qj (Cz ls (a,b,c,m)=A6 (Dj (Dj ls a c (-m)) b c m)):=by rw [qj,Cz,hL,hE];rfl
  obtain ⟨H,a7⟩:=Ae (Dj ls a c (-m));rw [a7] at Y d1 a8 a5 O;obtain ⟨A,hA⟩:=Ae (Dj H b c m);rw [hA] at a8 a5 O;have d2:qj _:=a7;have HA:qj _:=hA;have a3:qj _:=hE
  have g0:A.length<=402:=by omega
  have d8:H.length<=401:=by omega
  clear hL hE d0 S d1 a8 a7 hA
  have g5:IntKind.i64.wrap (-m) = -m:=by simp [IntKind.wrap,IntKind.bits,IntKind.signed];omega
  go_enter func149,ntmps149
  go_upto_region 1 with fail
  rw [<- HW.o];go_wp2_with fail
  refine N.o.m ?_;rintro e T ⟨rfl,C⟩;have j:=a6.o.below C;have q1:=next bW C;have J:=Aa (HZ.o.below C);have k0:=j.e0;have k1:=j.e1;have k2:=j.e2;have k3:=j.e3
  have I:qj (qi 196 #[.agg #[.int .i64 a,.int .i64 b,.int .i64 c,.int .i64 m]] T λe w'=>e=.returned (.bool true)/\BW T w'):=by
   have h:=Sk a b c m T;rw [a3.o] at h;exact h
  have D:qj _:=j;clear N C j l0;go_wp2_with fail
  refine I.o.m ?_;rintro e G ⟨rfl,F⟩;have v:=D.o.below F;have q2:=next q1 F;have R:=Aa (J.o.below F);have U:=v.l0;have i0:=v.e0;have i1:=v.e1;have i2:=v.e2;have i3:=v.e3;have d:qj _:=v
  have H1:qj (qi 197 #[qf ao ls.length cap,.int .i64 a,.int .i64 c,.int .i64 (-m)] G.drew λe w'=>∃ g cap',e=.returned (qf g H.length cap')/\w'.ownsRow G.heap.size 151 3 (qf g H.length cap') H.length (Ak H)/\BW G w'):=by
   have h:=Zz ao cap ls a c (-m) G.drew (R.o.below (bR.drew)) hn (by omega) a9.o
   rw [d2.o] at h;refine h.m ?_;rintro e w' ⟨g,k,rfl,o,bb⟩;exact ⟨g,k,rfl,o,(bR.drew).t bb⟩
  have b0:qj (∀ (X:ql) (g3:qm) (c3:Nat),X.ownsRow G.heap.size 151 3 (qf g3 H.length c3) H.length (Ak H)->BW G X->qi 197 #[qf g3 H.length c3,.int .i64 b,.int .i64 c,.int .i64 m] X λe w'=>∃ g cap',e=.returned (qf g A.length cap')/\w'.ownsRow G.heap.size 151 3 (qf g A.length cap') A.length (Ak A)/\BW G w'):=λX g3 c3 o3 B=>by
   have h:=Zz g3 c3 H b c m X (Eb o3) (by omega) ⟨by omega,by omega⟩ Y.o
   rw [HA.o] at h;refine h.m ?_;rintro e w' ⟨g,k,rfl,o,bb⟩;exact ⟨g,k,rfl,Bz o B.size,B.t (bb.m B.size)⟩
  clear I F v k0 k1 k2 k3 a9 Y;go_upto_region 3 with fail
  go_region_held3 (λu=>u.cell? ⟨w.heap.size,0,none⟩=some (qf ao ls.length cap)/\u.cell? ⟨w.heap.size+1,0,none⟩=some (.int .i64 a)/\u.cell? ⟨w.heap.size+1,1,none⟩=some (.int .i64 b)/\u.cell? ⟨w.heap.size+1,2,none⟩=some (.int .i64 c)/\u.cell? ⟨w.heap.size+1,3,none⟩=some (.int .i64 m)) (first|exact ⟨U,i0,i1,i2,i3⟩|exact ⟨(d.o.below b4).l0,(d.o.below b4).e0,(d.o.below b4).e1,(d.o.below b4).e2,(d.o.below b4).e3⟩|exact ⟨(d.o.below B).l0,(d.o.below B).e0,(d.o.below B).e1,(d.o.below B).e2,(d.o.below B).e3⟩) ((first
   | (go_at_call_of 197 (Value.int .i64 (-m));refine H1.o.m ?_;rintro e X ⟨g3,c3,rfl,o3,B⟩;have H2:=Aa (b0.o X g3 c3 o3 B);clear o3)
   | (go_at_call 197;refine H2.o.m ?_;rintro e w4 ⟨g4,c4,rfl,o4,b4⟩;have b8:=Aa o4;clear o4)))
  all_goals
   obtain ⟨u,hu⟩:=A0 w4;subst hu;have g:=g4;obtain ⟨g,hg⟩:=A0 g4;obtain ⟨k,hk⟩:=A0 c4;subst hg hk;have o5:=b8.o;have b5:=b4;clear b4 b8 H1 H2 b0 B;have P5:=d.o.below b5;have q5:=next q2 b5;have d9:=Aa o5;obtain ⟨V,hV⟩:=A0 (u.alloc (.cells #[qf g A.length k] 38))
   have bV:BW u V:=by rw [hV];go_grown
   have v0:V.cell? ⟨u.heap.size,0,none⟩=some (qf g A.length k):=by rw [hV];simp
   have PV:=P5.below bV;have qV:=next q5 bV;have b9:=Aa (A5 o5 bV);have d4:=Aa ((R.o.below b5).below bV);have c9:qj _:=PV
   have i:=Aa (La g k A V (Eb b9.o) (by omega))
   have d7:w.heap.size+1+1<G.heap.size:=d.o.sz;clear o5 b5 bV P5 PV q5 U i0 i1 i2 i3;go_upto_region 5 with fail
   rw [<- hV];clear hV
   cases hLA:A6 A
   ·have f:Cz ls (a,b,c,m)=false:=O.o.t hLA
    have q:qj _:=Jq f;have a4:qj _:=f;rw [hLA] at i;clear f hLA;go_wp2_with fail
    refine i.o.m ?_;rintro e w6 ⟨rfl,M⟩;have P6:=c9.o.below M;have q6:=next qV M;have d3:=Aa (d4.o.below M);have U:=P6.l0;have c8:qj _:=P6;clear i M P6 v0;go_wp2_with fail
    refine (Jk ao cap ls w6 d3.o (by omega)).m ?_
    rintro e w7 ⟨g7,c7,rfl,o7,b7⟩;have P7:=c8.o.below b7;have r0:=P7.r0;have rf:=P7.rf;have Z:qj _:=Ic (w:=w) (ok:=false) q.o o7 c8.o.sz (next q6 b7);clear o7 b7 P7 U;go_wp2
    refine bodyPost_ret (by simp [results,results149,go_sem,r0];try rfl) rfl ?_
    rw [a4.o];exact Z.o
   ·have L:Cz ls (a,b,c,m)=true:=O.o.t hLA
    have q:=Aa ((Te L).t a5.o);have a4:qj _:=L;rw [hLA] at i;clear L hLA;go_wp2_with fail
    refine i.o.m ?_;rintro e w6 ⟨rfl,M⟩;have P6:=c9.o.below M;have q6:=next qV M;have v6:=(M.cell (p:=⟨u.heap.size,0,none⟩) (qs V _ v0)).t v0;have r0:=P6.r0;have rf:=P6.rf;have Z:qj _:=Ic (w:=w) (ok:=true) q.o (A5 b9.o M) d7 q6;clear i M P6 v0;go_wp2
    refine bodyPost_ret (by simp [results,results149,go_sem,r0];try rfl) rfl ?_
    rw [a4.o];exact Z.o
def Ke (ls:List Ln) (es:List En):List Ln:=(Dk ls es).getD ls
def allOk (ls:List Ln) (es:List En):Bool:=(Dk ls es).isSome
theorem Xa (a:List Ln) (es:List En) (k:Nat) (h:k<es.length):Dk a (es.drop k)=if Cz a (Mn es k)=true then Dk (I5 a (Mn es k)) (es.drop (k+1)) else none:=by
 rw [jc h,<- rQ h];rfl
theorem Zw (a:List Ln) (es:List En):Dk a (es.drop es.length)=some a:=by
 rw [ji nL];rfl
theorem Dd {x:Int} (h:-1000000000000<=x/\x<=1000000000000):Bs x:=WalkArith.wf_i64 (by omega)
theorem fP {ls:List Ln} (h:A6 ls=true):∀ x ∈ ls,N3 x:=by
 intro x D;obtain ⟨l,r,C,_⟩:=Ks (Ew (Et h).1 x D)
 refine ⟨Dd (by omega),Dd ?_,Dd C⟩
 have:=cJ r
 simp [I7] at this
 omega
theorem S4 {ls:List Ln} {e:En} (h:Cz ls e=true):Nb ls e=I5 ls e/\A6 (I5 ls e)=true:=by
 refine ⟨Te h,?_⟩
 simp only [Cz,jf] at h
 exact h.2
structure PA (s B:Nat) (ao:qm) (cap n:Nat) (a:List Ln) (a2:qm) (i:Nat) (u:ql):Prop where
 l0:u.cell? (qzA s 0)=some (qf ao n cap)
 r0:u.cell? ⟨s+1,0,none⟩=some qe
 rf:u.frozen? ⟨s+1,0,none⟩=false
 c6:u.cell? (qzA B 0)=some (qf a2 a.length i)
 f6:u.frozen? (qzA B 0)=false
 own:u.ownsRow (s+2) 151 3 (qf a2 a.length i) a.length (Ak a)
 ne:∀ g,(Value.slice a2 a.length i).ownBlock=some g->g≠B
 hB:s+2<=B
theorem PA.below {s B:Nat} {ao:qm} {cap n:Nat} {a:List Ln} {a2:qm} {i:Nat} {u A:ql} (h:PA s B ao cap n a a2 i u) (b:BW u A):PA s B ao cap n a a2 i A:=by
 have z:=qs u _ h.l0;have l:=qs u _ h.r0;have r:=qs u _ h.c6;exact ⟨(b.c s 0 z).t h.l0,(b.cell (p:=⟨s+1,0,none⟩) l).t h.r0,(b.frozen (p:=⟨s+1,0,none⟩) l).t h.rf,(b.c B 0 r).t h.c6,(b.frozen (p:=(qzA B 0)) r).t h.f6,A5 h.own b,h.ne,h.hB⟩
theorem PA.put {s B base:Nat} {ao:qm} {cap n:Nat} {a d:List Ln} {a2 q:qm} {i y:Nat} {u:ql} (h:PA s B ao cap n a a2 i u) (o:u.ownsRow base 151 3 (qf q d.length y) d.length (Ak d)) (hb:B<base) :
  PA s B ao cap n d q y (u.setCell (qzA B 0) (qf q d.length y)):=by
 have hs:=h.hB
 have m:∀ g,(Value.slice q d.length y).ownBlock=some g->g≠B:=λg j=>by have:=(o.lt g j).1;omega
 refine ⟨?_,?_,?_,by simp [go_sem,h.c6],?_,Bz (Bf o _ _ m) (by omega),m,hs⟩
 ·rw [World.cell?_setCell_far _ _ _ _ (by simp;omega)];exact h.l0
 ·rw [World.cell?_setCell_far _ _ _ _ (by simp;omega)];exact h.r0
 ·simp [go_sem,h.rf]
 ·simp [go_sem,h.f6]
theorem fH {w f:ql} {ao a1:qm} {cap v n:Nat} {ls:List Ln} {t:TypeId} (l0:f.cell? ⟨w.heap.size,0,none⟩=some (qf ao n cap)) (r0:f.cell? ⟨w.heap.size+1,0,none⟩=some qe) (rf:f.frozen? ⟨w.heap.size+1,0,none⟩=false)
  (o:f.ownsRow (w.heap.size+2) 151 3 (qf a1 ls.length v) ls.length (Ak ls)):PA w.heap.size f.heap.size ao cap n ls a1 v (f.alloc (.cells #[qf a1 ls.length v] t)):=by
 have b:Below f.heap.size f (f.alloc (.cells #[qf a1 ls.length v] t)):=by go_grown
 have z:w.heap.size<f.heap.size:=qs f _ l0;have l:w.heap.size+1<f.heap.size:=qs f _ r0
 exact ⟨(b.cell (p:=⟨w.heap.size,0,none⟩) z).t l0,(b.cell (p:=⟨w.heap.size+1,0,none⟩) l).t r0,(b.frozen (p:=⟨w.heap.size+1,0,none⟩) l).t rf,by simp,by simp [go_sem],A5 o b,λg j=>by have:=(o.lt g j).2;omega,by omega⟩
theorem Vl {w u:ql} {gs a:List Ln} {ok:Bool} {ao:qm} {cap base:Nat} (j:gs=a) (ho:u.ownsRow base 151 3 (qf ao a.length cap) a.length (Ak a)) (hb:w.heap.size+1<base) (bel:BW w u) :
  Nd w gs ok (.returned (.tuple #[.agg #[qf ao a.length cap],.bool ok])) (u.setCell ⟨w.heap.size+1,0,none⟩ (qf ao a.length cap)):=by
 subst j
 exact ⟨ao,cap,rfl,Bz (Bf ho _ _ (λg j=>by have:=(ho.lt g j).1;simp only;omega)) (by omega),bel.setCell (by show w.heap.size<=w.heap.size+1;omega) _⟩
structure ZB (W u:ql) (a:Option Nat) (K:ql->Prop):Prop where
 bel:BW W u
 box:∀ B,a=some B->W.heap.size<=B/\B<u.heap.size/\u.cell? (qzA B 0)=some qe/\u.frozen? (qzA B 0)=false
 kept:∀ v,BW u v->K v
theorem ZB.start {W:ql} {K:ql->Prop} (h:∀ v,BW W v->K v):ZB W W none K:=⟨bR,(λB h=>by cases h),h⟩
theorem ZB.call {W u i:ql} {a:Option Nat} {K:ql->Prop} (z:ZB W u a K) (b:BW u i):ZB W i a K :=
 ⟨next z.bel b,λB h=>by
  obtain ⟨k,l,n,q⟩:=z.box B h
  exact ⟨k,jd l b.size,(b.c B 0 l).t n,(b.frozen (p:=(qzA B 0)) l).t q⟩,λv hv=>z.kept v (b.t (hv.m b.size))⟩
theorem ZB.drew {W u:ql} {a:Option Nat} {K:ql->Prop} (z:ZB W u a K):ZB W u.drew a K:=z.call (bR.drew)
theorem ZB.al {W u:ql} {K:ql->Prop} (z:ZB W u none K) (t:TypeId):ZB W (u.alloc (.cells #[qe] t)) (some u.heap.size) K:=by
 have b:Below u.heap.size u (u.alloc (.cells #[qe] t)):=by go_grown
 refine ⟨next z.bel b,λB h=>?_,λv hv=>z.kept v (b.t (hv.m b.size))⟩
 injection h with h
 subst h
 exact ⟨z.bel.size,by simp,by simp,by simp [go_sem]⟩
structure LB (W:ql) (L:List Ln) (B:Nat) (ao:qm) (cap:Nat) (u:ql):Prop where
 c0:u.cell? (qzA B 0)=some (qf ao L.length cap)
 own:u.ownsRow W.heap.size 151 3 (qf ao L.length cap) L.length (Ak L)
 ge:W.heap.size<=B
 ne:∀ g,(Value.slice ao L.length cap).ownBlock=some g->g≠B
 bel:BW W u
theorem LB.new {W u j:ql} {L:List Ln} {ao:qm} {cap:Nat} {a:Option Nat} {K:ql->Prop} {t:TypeId} (o:u.ownsRow j.heap.size 151 3 (qf ao L.length cap) L.length (Ak L)) (z0:ZB W j a K) (z:ZB W u none K) :
  LB W L u.heap.size ao cap (u.alloc (.cells #[qf ao L.length cap] t)):=by
 have b:Below u.heap.size u (u.alloc (.cells #[qf ao L.length cap] t)):=by go_grown
 exact ⟨by simp,Bz (A5 o b) z0.bel.size,z.bel.size,λg hg=>by have:=(o.lt g hg).2;omega,next z.bel b⟩
theorem LB.set {W u j:ql} {L:List Ln} {B:Nat} {ao:qm} {cap:Nat} {K:ql->Prop} (o:u.ownsRow j.heap.size 151 3 (qf ao L.length cap) L.length (Ak L)) (z0:ZB W j (some B) K) (z:ZB W u (some B) K) :
  LB W L B ao cap (u.setCell (qzA B 0) (qf ao L.length cap)):=by
 obtain ⟨k,l,_,_⟩:=z0.box B rfl;obtain ⟨_,_,n,_⟩:=z.box B rfl
 have d:∀ g,(Value.slice ao L.length cap).ownBlock=some g->g≠B:=λg hg=>by have:=(o.lt g hg).1;omega
 exact ⟨by simp [go_sem,n],Bz (Bf o _ _ d) z0.bel.size,k,d,z.bel.setCell k _⟩
def Aif (W u:ql) (a:Option Nat) (K:ql->Prop) (L:List Ln) (ok:Bool) (e:Ending) (i:ql):Prop :=
 ∃ ao cap,e=.returned (.tuple #[.agg #[qf ao L.length cap],.bool ok])/\i.ownsRow u.heap.size 151 3 (qf ao L.length cap) L.length (Ak L)/\ZB W u a K/\ZB W i a K
theorem jO {W u:ql} {a:Option Nat} {K:ql->Prop} {f:FuncId} {args:Array Value} {L:List Ln} {ok:Bool} (z:ZB W u a K) (h:Calls prog f args u (Nd u L ok)):Calls prog f args u (Aif W u a K L ok) :=
 h.m λ_ _ ⟨ao,cap,he,ho,hb⟩=>⟨ao,cap,he,ho,z,z.call hb⟩
theorem ZB.now {W u:ql} {a:Option Nat} {K:ql->Prop} (z:ZB W u a K):K u:=z.kept u bR
theorem dV (ao:qm) (cap:Nat) (ls:List Ln) (eo:qm) (ec:Nat) (es:List En) (w:ql) (hz:Ar w ao ls) (hn:ls.length<=1048576) (hy:Fg w eo es) (hm:es.length<=1048576) :
  qi 122 #[.agg #[qf ao ls.length cap],qf eo es.length ec] w (Nd w (Ke ls es) (allOk ls es)):=by
 obtain ⟨W,J⟩:∃ W,W=(w.alloc (.cells #[qf ao ls.length cap] 38)).alloc (.cells #[qe] 38):=⟨_,rfl⟩
 have bW:BW w W:=by rw [J];go_grown
 have a6:W.heap.size=w.heap.size+2:=by rw [J];simp
 have l0:W.cell? ⟨w.heap.size,0,none⟩=some (qf ao ls.length cap):=by rw [J];simp [go_sem]
 have r0:W.cell? ⟨w.heap.size+1,0,none⟩=some qe:=by rw [J];simp [go_sem]
 have rf:W.frozen? ⟨w.heap.size+1,0,none⟩=false:=by rw [J];simp [go_sem]
 have b2:=Aa l0;have b3:=Aa r0;have b4:=Aa rf;have HZ:qj (Ar w ao ls):=hz;have HY:qj (Fg w eo es):=hy;have S:qj (BW w W):=bW;have b6:=Aa a6;clear hz hy r0 rf bW a6
 go_enter func122,ntmps122
 go_upto_region 1 with fail
 rw [<- J];clear J;go_wp2_with fail
 refine (Jk ao cap ls W (HZ.o.below S.o) (by omega)).m ?_
 rintro e w1 ⟨a1,k1,rfl,o1,b1⟩;have d1:=b6.o
 have P1:PA w.heap.size w1.heap.size ao cap ls.length ls a1 k1 (w1.alloc (.cells #[qf a1 ls.length k1] 38)):=fH ((b1.cell (p:=⟨w.heap.size,0,none⟩) (by show w.heap.size<W.heap.size;omega)).t b2.o) ((b1.cell (p:=⟨w.heap.size+1,0,none⟩) (by show w.heap.size+1<W.heap.size;omega)).t b3.o) ((b1.frozen (p:=⟨w.heap.size+1,0,none⟩) (by show w.heap.size+1<W.heap.size;omega)).t b4.o) (Bz o1 (by omega))
 have q1:=next S.o b1;obtain ⟨V,hV⟩:∃ V,V=w1.alloc (.cells #[qf a1 ls.length k1] 38):=⟨_,rfl⟩
 have qV:BW w V:=by rw [hV];exact q1.alloc q1.size _
 have G:qj (PA w.heap.size w1.heap.size ao cap ls.length ls a1 k1 V):=by rw [qj,hV];exact P1
 obtain ⟨B,I⟩:∃ B,B=w1.heap.size:=⟨_,rfl⟩;clear P1 q1 o1 b1 l0 d1;go_upto_region 2 with fail
 rw [<- hV,<- I];rw [<- I] at G;clear hV I;go_wp2
 go_loopw [7] (λi wr=>∃ (k:Nat) (g:List Ln) (a2:qm) (D:Nat),k<=es.length/\i=qzI k/\Dk ls es=Dk g (es.drop k)/\PA w.heap.size B ao cap ls.length g a2 D wr/\g.length<=1048576/\BW w wr) (λi _=>es.length - (intOf i).toNat)
 case atStart=>exact ⟨0,ls,a1,k1,qw _,rfl,rfl,G.o,hn,qV⟩
 case round =>
  obtain ⟨k,g,a2,D,hk,rfl,a9,a7,b9,C⟩:=hrel;have d:qj (PA w.heap.size B ao cap ls.length g a2 D wr):=a7;have F:qj (Dk ls es=Dk g (es.drop k)):=a9;clear a7 a9 G qV
  by_cases hlt:k<es.length
  ·have d0:(k:Int)<(es.length:Int):=by omega
   obtain ⟨b,off,rfl,A,y1,y2,y3,y4⟩:=(HY.o.below C).at hlt;have M:=Xa g es k hlt;obtain ⟨⟨a,a',c,m⟩,hx⟩:∃ x,Mn es k=x:=⟨_,rfl⟩;rw [hx] at y1 y2 y3 y4 M
   simp only at y1 y2 y3 y4
   have q:=Aa (F.o.t M);have c6:=d.o.c6
   have j:qj (∀ u,BW wr u->u.cell? (qzA B 0)=some (qf a2 g.length D)/\u.cell? (qzA b (off+k*4))=some (qzI a)/\u.cell? (qzA b (off+k*4+1))=some (qzI a')/\u.cell? (qzA b (off+k*4+2))=some (qzI c)/\u.cell? (qzA b (off+k*4+3))=some (qzI m)):=λu N =>
    ⟨(d.o.below N).c6,(N.c b (off+k*4) A).t y1,(N.c b (off+k*4+1) A).t y2,(N.c b (off+k*4+2) A).t y3,(N.c b (off+k*4+3) A).t y4⟩
   have l:=Aa λu (h:Ar u a2 g)=>sY a2 D g a a' c m u h b9
   clear M hx;go_upto_region 5 with fail
   have z:=ZB.start (λv hv=>(Eb d.o.own).below hv)
   obtain ⟨s,L⟩:∃ s,Nb g (a,a',c,m)=s:=⟨_,rfl⟩;obtain ⟨ok,f⟩:∃ ok,Cz g (a,a',c,m)=ok:=⟨_,rfl⟩;rw [L,f] at l;have X:=Aa L;have Y:=Aa f;clear L f
   go_cut [8,9] (λv8 v9 wc=>∃ B8 a8 k8,v8=qh B8/\v9=.bool ok/\LB wr s B8 a8 k8 wc)
   case first =>
    go_region_held3 (λu=>u.cell? (qzA B 0)=some (qf a2 g.length D)/\u.cell? (qzA b (off+k*4))=some (qzI a)/\u.cell? (qzA b (off+k*4+1))=some (qzI a')/\u.cell? (qzA b (off+k*4+2))=some (qzI c)/\u.cell? (qzA b (off+k*4+3))=some (qzI m)) (first|exact ⟨c6,y1,y2,y3,y4⟩|exact j.o _ z.bel|exact j.o _ z.drew.bel|exact j.o _ (z.al _).bel|exact j.o _ (z.al _).drew.bel|exact j.o _ (z.drew.al _).bel|exact j.o _ (T.o _).bel|exact j.o _ T.o.bel) ((
     (go_at_call 149;(first|with_reducible refine (jO z (l.o _ z.now)).m ?_|with_reducible refine (jO z.drew (l.o _ z.drew.now)).m ?_|with_reducible refine (jO (z.al _) (l.o _ (z.al _).now)).m ?_|with_reducible refine (jO (z.al _).drew (l.o _ (z.al _).drew.now)).m ?_|with_reducible refine (jO (z.drew.al _) (l.o _ (z.drew.al _).now)).m ?_);rintro e v3 ⟨H,O,rfl,o3,z0,z⟩;(first|(have T:qj (∀ t,LB wr s v3.heap.size H O (v3.alloc (.cells #[qf H s.length O] t))):=(λt=>LB.new o3 z0 z))|(have T:=Aa (LB.set o3 z0 z);obtain ⟨_,_,n0,n1⟩:=z.box _ rfl));clear o3 z0)))
    all_goals
     go_wp2_with fail
     go_meet
     first
      | exact ⟨_,_,_,rfl,rfl,T.o _⟩
      | exact ⟨_,_,_,rfl,rfl,T.o⟩
   obtain ⟨B8,H,O,rfl,rfl,P8⟩:=hcut;obtain ⟨R,N⟩:∃ x,x=wc:=⟨_,rfl⟩;subst N;have P3:=d.o.below P8.bel;have d6:=P3.c6;have f6:=P3.f6;have c8:=P8.c0;have q3:=next C P8.bel;have a4:=qs wr _ d.o.c6;have Z:qj (PA w.heap.size B ao cap ls.length s H O (R.setCell (qzA B 0) (qf H s.length O))):=P3.put P8.own a4;have b8:=d.o.hB
   have q4:Below w.heap.size w (R.setCell (qzA B 0) (qf H s.length O)):=q3.setCell (by show w.heap.size<=B;omega) _
   have y:qj (PA w.heap.size B ao cap ls.length g a2 D R):=P3;clear P3 P8 a4 b8 z c6 y1 y2 y3 y4 j l C;have f:=Y.o
   cases ok
   ·rw [f] at q
    have U:qj (Dk ls es=none):=q.o;clear q f;have l4:=y.o.l0;have b7:qj (Ar R ao ls):=HZ.o.below q3;clear d6 f6 q4 Z c8;go_wp2_with fail
    refine (Jk ao cap ls R b7.o (by omega)).m ?_
    rintro e w5 ⟨a5,k5,rfl,o5,b5⟩;have P5:=y.o.below b5;have r5:=P5.r0;have d2:=P5.rf
    have HE:qj (Nd w (Ke ls es) (allOk ls es) (.returned (.tuple #[.agg #[qf a5 ls.length k5],.bool false])) (w5.setCell ⟨w.heap.size+1,0,none⟩ (qf a5 ls.length k5))):=by
     have h1:allOk ls es=false:=by unfold allOk;rw [U.o];rfl
     have h2:Ke ls es=ls:=by unfold Ke;rw [U.o];rfl
     rw [qj,h1];exact Vl (w:=w) h2 o5 (qs R _ y.o.r0) (next q3 b5)
    clear o5 b5 P5 l4;go_wp2
    refine bodyPost_ret (by simp [results,results122,go_sem,r5];try rfl) rfl ?_
    exact HE.o
   ·have r:=S4 f
    rw [f] at q;rw [X.o] at r
    have HN:qj (Dk ls es=Dk s (es.drop (k+1))):=by rw [qj,q.o,r.1];rfl
    have b0:qj (s.length<=1048576):=by
     rw [r.1,qj]
     have:=(Et r.2).2.1;omega
    clear q f r X Y y q3;go_wp2
    go_roundw
    case rel=>exact ⟨k+1,s,H,O,by omega,by go_num,HN.o,Z.o,b0.o,q4⟩
    case measure=>simp [intOf];omega
  ·have c9:k=es.length:=by omega
   subst c9
   have d0:¬ (es.length:Int)<(es.length:Int):=by omega
   have n:Dk ls es=some g:=by rw [F.o,Zw]
   have c6:=d.o.c6;have r0:=d.o.r0;have rf:=d.o.rf
   have HE:qj (Nd w (Ke ls es) (allOk ls es) (.returned (.tuple #[.agg #[qf a2 g.length D],.bool true])) (wr.setCell ⟨w.heap.size+1,0,none⟩ (qf a2 g.length D))):=by
    have h1:allOk ls es=true:=by unfold allOk;rw [n];rfl
    have h2:Ke ls es=g:=by unfold Ke;rw [n];rfl
    rw [qj,h1]
    exact Vl (w:=w) h2 d.o.own (by omega) C
   clear n F;go_wp2
   refine bodyPost_ret (by simp [results,results122,go_sem,r0];try rfl) rfl ?_
   exact HE.o
theorem xW {q:Option (Nat×Obj)} {w u:ql} {H:List Cd} {g cap:Nat} (h:HP q w H (some (qzA g 0)) cap u) (hk:0<H.length) :
  qi 436 #[qf (some (qzA g 0)) H.length cap,qzI 0,qzI 0] u λe u'=>e=.returned (.tuple #[])/\HP q w (Dw H 0 0) (some (qzA g 0)) cap u':=by
 obtain ⟨k0,k1⟩:=h.at hk;have f0:u.frozen? (qzA g 0)=false:=h.own.frozenAt _;have f1:u.frozen? (qzA g 1)=false:=h.own.frozenAt _
 have HR:qj (HP q w (Dw H 0 0) (some (qzA g 0)) cap ((((u.setCell (qzA g 0) (qzI (Bq H 0).1)).setCell (qzA g 1) (qzI (Bq H 0).2)).setCell (qzA g 0) (qzI (Bq H 0).1)).setCell (qzA g 1) (qzI (Bq H 0).2))) :=
  (h.setAt hk (Bq H 0)).setAt (by rw [List.length_set];exact hk) (Bq H 0)
 obtain ⟨⟨a,b⟩,d⟩:∃ x,Bq H 0=x:=⟨_,rfl⟩;rw [d] at HR k0 k1
 simp only [Nat.zero_mul,qu] at k0 k1 HR
 have b2:(0:Int)<(H.length:Int):=by omega
 clear h d
 go_enter func436,ntmps436
 go_region_with (fail)
 all_goals
  go_wp2;go_end0;exact ⟨rfl,HR.o.below (bR.drew)⟩
theorem sI {w u:ql} {H:List Cd} {ao:qm} {cap:Nat} (h:HP none w H ao cap u) (Y:Kx H) (s p:Int) (hn:H.length<=900) :
  qi 283 #[hpV w,.iface 314 (.agg #[qzI s,qzI p])] u λe u'=>e=.returned (.tuple #[])/\∃ g c G,HP none w G (some (qzA g 0)) c u'/\Kx G/\J0 (H++[(s,p)]) G:=by
 obtain ⟨L,hL⟩:=Ae (H++[(s,p)])
 have a8:qj (qi 438 #[.pointer (some ⟨w.heap.size,0,none⟩),.iface 314 (.agg #[qzI s,qzI p])] u λe u'=>e=.returned (.tuple #[])/\∃ g c,HP none w L (some (qzA g 0)) c u'):=by rw [<- hL];exact vN h s p (by omega)
 have HN:=Aa (wX Y (s,p));have D:=yU (.pointer (some ⟨w.heap.size,0,none⟩)) u
 have hl:(L.length:Int) - 1=(H.length:Int):=by rw [<- hL];simp
 have A:qj (H.length<L.length/\L.length<=1000):=by rw [qj,<- hL];simp;omega
 have b1:=A.o.2;rw [hL] at HN ⊢;clear h Y hL;unfold hpV
 go_enter func283,ntmps283
 go_wp2_with fail
 refine Calls.m a8.o ?_;rintro e u2 ⟨rfl,g,c,F⟩;have a6:=Aa F;have C:=rT F.box;clear F D;go_wp2_with fail
 refine (Qz _ _ _ _).m ?_;rintro e u3 ⟨rfl,f⟩;subst f;go_wp2_with fail
 refine (Agf a6.o H.length A.o.1 A.o.2 HN.o).m ?_;rintro e j ⟨rfl,G,r,hG,hS⟩;have B:=Aa r;have HG:=Aa hG;have HS:=Aa hS;clear r hG hS C;go_wp2;go_end0;exact ⟨rfl,g,c,G,B.o,HG.o,HS.o⟩
theorem zY {q:Option (Nat×Obj)} {w u:ql} {H:List Cd} {g cap:Nat} (h:HP q w H (some (qzA g 0)) cap u) (m:Nat) (hm:H.length=m+1) (hn:H.length<=900) :
  qi 285 #[hpV w] u λe u'=>e=.returned (.iface 314 (.agg #[qzI (Bq H 0).1,qzI (Bq H 0).2]))/\BW w u'/\∀ x o,q=some (x,o)->u'.heap[x]?=some o:=by
 have HH:=Aa h;have C:=rT h.box;have a9:=Li h.box
 have R:qj (qi 436 #[qf (some (qzA g 0)) H.length cap,qzI 0,qzI m] u λe u'=>e=.returned (.tuple #[])/\HP q w (Dw H 0 m) (some (qzA g 0)) cap u'):=by
  by_cases J:m=0
  ·subst J
   exact xW h (by omega)
  ·exact Nx h 0 m (by omega) (by omega)
 have k:qj ((Dw H 0 m).length=m+1/\Bq (Dw H 0 m) m=Bq H 0):=⟨by rw [Je];exact hm,by rw [Gu (by omega) (by omega),Oq]⟩
 have hl:(H.length:Int) - 1=(m:Int):=by omega
 have N:qj (m+1<=900):=by rw [qj];omega
 obtain ⟨⟨a,b⟩,d⟩:∃ x,Bq H 0=x:=⟨_,rfl⟩;rw [d] at k ⊢
 simp only
 clear h hm d;unfold hpV
 go_enter func285,ntmps285
 go_wp2_with fail
 refine (Qz _ _ _ _).m ?_;rintro e u3 ⟨rfl,f⟩;subst f;go_wp2_with fail
 refine Calls.m R.o ?_;rintro e j ⟨rfl,r⟩;have B:=Aa r;clear r C a9 R;go_wp2_with fail
 refine (Acf B.o m k.o.1 (by have:=k.o.1;have:=N.o;omega)).m ?_
 rintro e u5 ⟨⟨z,rfl⟩,G,a3,X,U⟩;have a7:=Aa a3;have v:qj (G.length=m+1/\Bq G m=(a,b)):=⟨X.t k.o.1,U.t k.o.2⟩;have D:=Aev (.pointer (some ⟨w.heap.size,0,none⟩)) u5
 have i:qj (qi 437 #[.pointer (some ⟨w.heap.size,0,none⟩)] u5 λe u'=>e=.returned (.iface 314 (.agg #[qzI a,qzI b]))/\BW w u'/\∀ x o,q=some (x,o)->u'.heap[x]?=some o):=by
  have:=Abc a7.o m v.o.1 (by have:=v.o.1;have:=N.o;omega)
  rw [v.o.2] at this;exact this
 clear a3 X U;go_wp2_with fail
 refine Calls.m i.o ?_;rintro e u6 ⟨rfl,b6⟩;have a4:=Aa b6;clear b6 D;go_wp2;go_ret;exact ⟨rfl,a4.o⟩
theorem uX {w u:ql} {H:List Cd} {ao:qm} {cap:Nat} (h:HP none w H ao cap u) (Y:Kx H) (s p:Int) (hn:H.length<=900) :
  qi 256 #[.pointer (some ⟨w.heap.size,0,none⟩),qzI s,qzI p] u λe u'=>e=.returned (.tuple #[])/\∃ g c G,HP none w G (some (qzA g 0)) c u'/\Kx G/\J0 (H++[(s,p)]) G:=by
 have O:=Aa (sI h Y s p hn);unfold hpV at O;clear h Y
 go_enter func256,ntmps256
 go_wp2_with fail
 refine Calls.m O.o ?_;rintro e j ⟨rfl,hx⟩;have HX:=Aa hx;clear hx;go_wp2;go_end0;exact ⟨rfl,HX.o⟩
theorem HP.name {w u:ql} {H:List Cd} {ao:qm} {cap:Nat} (h:HP none w H ao cap u) (o:Obj):HP (some (u.heap.size,o)) w H ao cap (u.alloc o):=by
 have b:Below u.heap.size u (u.alloc o):=bR.alloc nL _;obtain ⟨h1,h2,h3,h4,_⟩:=h.below b
 refine ⟨h1,h2,h3,h4,λx p e=>?_⟩
 injection e with e
 injection e with e1 e2
 subst e1 e2
 exact ⟨Array.getElem?_push_size,h.lt,λy hy=>by have:=(h.own.lt y hy).2;omega⟩
theorem eO {w u:ql} {H:List Cd} {ao:qm} {cap:Nat} (h:HP none w H ao cap u) (hn:H.length<=900) (J:0<H.length) :
  qi 257 #[.pointer (some ⟨w.heap.size,0,none⟩)] u λe u'=>e=.returned (.tuple #[.agg #[qzI (Bq H 0).1,qzI (Bq H 0).2],.bool true])/\BW w u':=by
 obtain ⟨g,rfl,-,-⟩:=h.row J
 obtain ⟨m,hm⟩:∃ m,H.length=m+1:=⟨H.length - 1,by omega⟩
 have hp:=h.name (.cells #[qzI 0,qzI 0] 314);have S:=Aa h.lt;obtain ⟨W,l⟩:=Ae (u.alloc (.cells #[qzI 0,qzI 0] 314));rw [l] at hp;have n:=hp.box;have i:=Aa (zY hp m hm hn);unfold hpV at i;have HW:qj _:=l
 have b3:((H.length:Int) == 0)=false:=beq_eq_false_iff_ne.2 (by omega)
 obtain ⟨⟨a,b⟩,d⟩:∃ x,Bq H 0=x:=⟨_,rfl⟩;rw [d] at i ⊢
 simp only at i ⊢
 have ta:=Ai2 a b;clear hp h l d hm
 go_enter func257,ntmps257
 go_upto_region 1 with fail
 rw [HW.o];go_wp2_with fail
 refine (Qz _ _ _ _).m ?_;rintro e u3 ⟨rfl,f⟩;subst f;go_wp2_with fail
 refine Calls.m i.o ?_;rintro e j ⟨rfl,b4,Z⟩;have hk:=Z _ _ rfl;have lk:=(Array.getElem?_eq_some_iff.1 hk).1
 have c0:j.cell? ⟨u.heap.size,0,none⟩=some (qzI 0):=by simp [World.cell?,hk]
 have c1:j.cell? ⟨u.heap.size,1,none⟩=some (qzI 0):=by simp [World.cell?,hk]
 have z0:j.frozen? ⟨u.heap.size,0,none⟩=false:=by simp [World.frozen?,hk]
 have z1:j.frozen? ⟨u.heap.size,1,none⟩=false:=by simp [World.frozen?,hk]
 have M:=Aa b4;clear b4 Z hk n;go_upto_region 4 with fail
 obtain ⟨V,T⟩:=Ae (j.alloc (.cells #[qzI a,qzI b] 314));have I:=T ▸ bR.alloc nL _
 have d0:V.cell? ⟨j.heap.size,0,none⟩=some (qzI a):=by rw [<- T];simp
 have d1:V.cell? ⟨j.heap.size,1,none⟩=some (qzI b):=by rw [<- T];simp
 have e0:=(I.cell (p:=⟨u.heap.size,0,none⟩) lk).t c0;have e1:=(I.cell (p:=⟨u.heap.size,1,none⟩) lk).t c1;have e2:=(I.frozen (p:=⟨u.heap.size,0,none⟩) lk).t z0;have e3:=(I.frozen (p:=⟨u.heap.size,1,none⟩) lk).t z1;have a5:=Aa (M.o.t (I.m M.o.size))
 have b5:¬ j.heap.size=u.heap.size:=by omega
 have b0:¬ u.heap.size=j.heap.size:=by omega
 rw [T];clear T I c0 c1 z0 z1;go_wp2
 refine bodyPost_ret (by simp [results,results257,go_sem,e0,e1];try rfl) rfl ?_
 exact ⟨rfl,(a5.o.setCell (jb S.o) _).setCell (jb S.o) _⟩
theorem pP {w u:ql} {H:List Cd} {ao:qm} {cap:Nat} (h:HP none w H ao cap u) (J:H.length=0) :
  qi 257 #[.pointer (some ⟨w.heap.size,0,none⟩)] u (qp (.tuple #[.agg #[qzI 0,qzI 0],.bool false]) w):=by
 have hp:=h.name (.cells #[qzI 0,qzI 0] 314);have S:=Aa h.lt;obtain ⟨W,l⟩:=Ae (u.alloc (.cells #[qzI 0,qzI 0] 314))
 have c0:W.cell? ⟨u.heap.size,0,none⟩=some (qzI 0):=by rw [<- l];simp
 have c1:W.cell? ⟨u.heap.size,1,none⟩=some (qzI 0):=by rw [<- l];simp
 have z0:W.frozen? ⟨u.heap.size,0,none⟩=false:=by rw [<- l];simp [go_sem]
 have z1:W.frozen? ⟨u.heap.size,1,none⟩=false:=by rw [<- l];simp [go_sem]
 rw [l] at hp;have n:=hp.box;rw [J] at n;have HB:=Aa hp.bel;have HW:=Aa l;clear hp h l J
 go_enter func257,ntmps257
 go_upto_region 1 with fail
 rw [HW.o];go_wp2_with fail
 refine (Qz _ _ _ _).m ?_;rintro e u3 ⟨rfl,f⟩;subst f;go_wp2
 refine bodyPost_ret (by simp [results,results257,go_sem,c0,c1];try rfl) rfl ?_
 exact ⟨rfl,(HB.o.setCell (jb S.o) _).setCell (jb S.o) _⟩
theorem xE (ao:qm) (cap:Nat) (az:List Au) (I C am day:Int) (w:ql) (hz:Ba w ao az) (hn:az.length<=1048576) (hd:∀ a ∈ az,a.ref.length<=1099511627776) (hc:∀ a ∈ az,Bs a.cur) (w3:(Lit.int .i64 am).wf=true) (w4:(Lit.int .i64 day).wf=true) :
  qi 218 #[qf ao az.length cap,qzI I,qzI C,qzI am,qzI day] w λe w'=>∃ x,e=.returned (qzI x)/\Mp az I C am day x/\BW w w':=by
 by_cases hb:100<az.length
 ·have a5:(100:Int)<(az.length:Int):=by omega
  go_enter func218,ntmps218
  go_wp2;go_ret;exact ⟨_,rfl,.inr ⟨hb,rfl⟩,bR⟩
 have a5:(az.length:Int)<=100:=by omega
 have U:qj (∀ k,k<az.length->∀ u,qi 255 #[Ha (Ch az k),qzI I,qzI C,qzI am,qzI day] u (qp (qzI (scA az I C am day k)) u)):=λk hk u=>nZ _ I C am day u (hd _ (Ob hk)) (hc _ (Ob hk)) w3 w4
 have O:qj (HP none w [] none 0 (w.alloc (.cells #[qe] 311))) :=
  ⟨bR.alloc nL _,by simp,by simp [go_sem],jh _ _ _ _,λ_ _ e=>by cases e⟩
 obtain ⟨z,F⟩:=Ae (scA az I C am day)
 have M:qj (∀ x,Pp z az.length x->Mp az I C am day x):=λx hx=>.inl ⟨by omega,by rw [F];exact hx⟩
 rw [F] at U;clear F hd hc w3 w4
 go_enter func218,ntmps218
 go_wp2
 go_loopw [12,13,14,22] (λ_ _ _ i wr=>∃ (k:Nat) (H:List Cd) (a:qm) (c:Nat),k<=az.length/\i=qzI k/\Nc z k H/\HP none w H a c wr) (λ_ _ _ i _=>az.length - (intOf i).toNat)
 case atStart=>exact ⟨0,[],none,0,qw _,rfl,Nc.start z,O.o⟩
 case round =>
  obtain ⟨k,H,a7,cc,hk,rfl,D,hp⟩:=hrel;have n:=Aa D;have q:=Aa hp
  have N:qj (H.length<=900):=by have:=D.le;rw [qj];omega
  clear D hp O
  by_cases hlt:k<az.length
  ·rcases hz with J|⟨b,off,rfl,h,y⟩
   ·rw [J] at hlt;simp at hlt
   have f:=q.o.bel;have g:=Aa y;have x0:=(f.c b (off+k*6) h).t (g.o k hlt).1;have x1:=(f.c b (off+k*6+1) h).t (g.o k hlt).2.1;have x2:=(f.c b (off+k*6+2) h).t (g.o k hlt).2.2.1;have x3:=(f.c b (off+k*6+3) h).t (g.o k hlt).2.2.2.1;have x4:=(f.c b (off+k*6+4) h).t (g.o k hlt).2.2.2.2.1;have x5:=(f.c b (off+k*6+5) h).t (g.o k hlt).2.2.2.2.2
   have a8:(k:Int)<(az.length:Int):=by omega
   have v:=Aa (U.o k hlt);obtain ⟨⟨r,i,c,m,d,u⟩,hf⟩:∃ a,Ch az k=a:=⟨_,rfl⟩;rw [hf] at x0 x1 x2 x3 x4 x5 v;unfold Ha at v
   simp only at x0 x1 x2 x3 x4 x5 v
   clear hf y f;go_upto_region 7 with fail
   clear x0 x1 x2 x3 x4 x5;obtain ⟨W,Z⟩:=Ae (wr.alloc (.cells #[qd r,qzI i,qzI c,qzI m,qzI d,.bool u] 108));have bW:=Z ▸ bR.alloc nL _;have BX:=Z ▸ Yr.new wr ⟨r,i,c,m,d,u⟩ _;rw [Z];clear Z;have T:=Aa (q.o.below bW);obtain ⟨q0,q1,q2,q3,q4,q5⟩:=BX
   simp only at q0 q1 q2 q3 q4 q5
   clear bW q;go_wp2_with fail
   refine (v.o _).m ?_;rintro e u2 ⟨rfl,b2⟩;have R:=Aa (T.o.below b2);clear b2 q0 q1 q2 q3 q4 q5 T v
   by_cases hs:0<=z k
   ·have L:=Aa (uX R.o n.o.heap (z k) k N.o)
    have S:=Aa λG (h1:Kx G) (h2:J0 (H++[(z k,(k:Int))]) G)=>n.o.push hs h1 h2
    generalize z k=s at hs L S
    go_wp2_with fail
    refine Calls.m L.o ?_;rintro e u3 ⟨rfl,g3,c3,G,X,hG,hS⟩;have a4:=Aa X;have A:=Aa (S.o G hG hS);clear X hG hS;go_wp2
    go_roundw
    case rel=>exact ⟨k+1,G,_,_,by omega,by go_num,A.o,a4.o⟩
    case measure=>simp [intOf];omega
   ·have A:=Aa (n.o.skip (by omega))
    generalize z k=s at hs
    go_wp2
    go_roundw
    case rel=>exact ⟨k+1,H,_,_,by omega,by go_num,A.o,R.o⟩
    case measure=>simp [intOf];omega
  ·have a6:k=az.length:=by omega
   subst a6
   by_cases J:0<H.length
   ·have B:=Aa (eO q.o N.o J)
    have l:=Aa (M.o _ (tD n.o J));obtain ⟨⟨s,p⟩,Y⟩:∃ x,Bq H 0=x:=⟨_,rfl⟩;rw [Y] at B l
    simp only at B l
    clear Y J hz;go_wp2_with fail
    refine Calls.m B.o ?_;rintro e u3 ⟨rfl,V⟩;have j:=Aa V;clear V;go_wp2;go_ret;exact ⟨_,rfl,l.o,j.o.alloc j.o.size _⟩
   ·have a3:=Aa (pP q.o (by omega))
    have l:=Aa (M.o _ (uB n.o (by omega)))
    clear J hz;go_wp2_with fail
    refine Calls.m a3.o ?_;rintro e u3 ⟨rfl,V⟩;have j:=Aa V;clear V;go_wp2;go_ret;exact ⟨_,rfl,l.o,j.o.alloc j.o.size _⟩
structure DB (b:Nat) (c:Cs) (a:Ac) (t:Int) (o e:Value) (u:ql):Prop where
 cb:CB b 0 c u
 a0:u.cell? (qzA b 12)=some (qzI a.kind)
 a1:u.cell? (qzA b 13)=some (qzI a.am)
 a2:u.cell? (qzA b 14)=some (qzI a.rsn)
 td:u.cell? (qzA b 15)=some (qzI t)
 ho:u.cell? (qzA b 16)=some o
 he:u.cell? (qzA b 17)=some e
 fz:FZ b 0 u
 fe:u.frozen? (qzA b 17)=false
theorem DB.below {b:Nat} {c:Cs} {a:Ac} {t:Int} {o e:Value} {u f:ql} (h:DB b c a t o e u) (k:BW u f):DB b c a t o e f:=by
 have l:=h.cb.lt;exact ⟨h.cb.below k,(k.c b 12 l).t h.a0,(k.c b 13 l).t h.a1,(k.c b 14 l).t h.a2,(k.c b 15 l).t h.td,(k.c b 16 l).t h.ho,(k.c b 17 l).t h.he,h.fz.below l k,(k.frozen (p:=(qzA b 17)) l).t h.fe⟩
theorem DB.grown {b:Nat} {c:Cs} {a:Ac} {t:Int} {o e:Value} {u f:ql} {row:Option Nat} (h:DB b c a t o e u) (g:u.grownBy f row) (i:some b≠row):DB b c a t o e f:=by
 have l:=h.cb.lt;exact ⟨h.cb.grown g i,(g.cell_far (qzA b 12) l i).t h.a0,(g.cell_far (qzA b 13) l i).t h.a1,(g.cell_far (qzA b 14) l i).t h.a2,(g.cell_far (qzA b 15) l i).t h.td,(g.cell_far (qzA b 16) l i).t h.ho,(g.cell_far (qzA b 17) l i).t h.he,h.fz.grown l g i,(g.frozen_far (qzA b 17) l i).t h.fe⟩
theorem DB.set4 {b:Nat} {c:Cs} {a:Ac} {t:Int} {o e:Value} {u:ql} (h:DB b c a t o e u) (x:Int):DB b ⟨c.iss,c.acq,c.cur,c.am,x,c.rsn,c.cl,c.bk,c.fee,c.cop,c.sta,c.due⟩ a t o e (u.setCell (qzA b 4) (qzI x)):=by
 obtain ⟨⟨f0,f1,f2,f3,f4,f5,f6,f7,f8,f9,f10,f11⟩,a0,a1,a2,td,ho,he,⟨z0,z1,z2,z3,z4,z5,z6,z7,z8,z9,z10,z11⟩,fe⟩:=h
 simp only [qu] at f0 f1 f2 f3 f4 f5 f6 f7 f8 f9 f10 f11 z0 z1 z2 z3 z4 z5 z6 z7 z8 z9 z10 z11
 exact ⟨(by constructor<;>simp [go_sem, *]),by simp [go_sem,a0],by simp [go_sem,a1],by simp [go_sem,a2],by simp [go_sem,td],by simp [go_sem,ho],by simp [go_sem,he],(by constructor<;>simp [go_sem, *]),by simp [go_sem,fe]⟩
theorem DB.set5 {b:Nat} {c:Cs} {a:Ac} {t:Int} {o e:Value} {u:ql} (h:DB b c a t o e u) (x:Int):DB b ⟨c.iss,c.acq,c.cur,c.am,c.st,x,c.cl,c.bk,c.fee,c.cop,c.sta,c.due⟩ a t o e (u.setCell (qzA b 5) (qzI x)):=by
 obtain ⟨⟨f0,f1,f2,f3,f4,f5,f6,f7,f8,f9,f10,f11⟩,a0,a1,a2,td,ho,he,⟨z0,z1,z2,z3,z4,z5,z6,z7,z8,z9,z10,z11⟩,fe⟩:=h
 simp only [qu] at f0 f1 f2 f3 f4 f5 f6 f7 f8 f9 f10 f11 z0 z1 z2 z3 z4 z5 z6 z7 z8 z9 z10 z11
 exact ⟨(by constructor<;>simp [go_sem, *]),by simp [go_sem,a0],by simp [go_sem,a1],by simp [go_sem,a2],by simp [go_sem,td],by simp [go_sem,ho],by simp [go_sem,he],(by constructor<;>simp [go_sem, *]),by simp [go_sem,fe]⟩
theorem DB.set6 {b:Nat} {c:Cs} {a:Ac} {t:Int} {o e:Value} {u:ql} (h:DB b c a t o e u) (x:Int):DB b ⟨c.iss,c.acq,c.cur,c.am,c.st,c.rsn,x,c.bk,c.fee,c.cop,c.sta,c.due⟩ a t o e (u.setCell (qzA b 6) (qzI x)):=by
 obtain ⟨⟨f0,f1,f2,f3,f4,f5,f6,f7,f8,f9,f10,f11⟩,a0,a1,a2,td,ho,he,⟨z0,z1,z2,z3,z4,z5,z6,z7,z8,z9,z10,z11⟩,fe⟩:=h
 simp only [qu] at f0 f1 f2 f3 f4 f5 f6 f7 f8 f9 f10 f11 z0 z1 z2 z3 z4 z5 z6 z7 z8 z9 z10 z11
 exact ⟨(by constructor<;>simp [go_sem, *]),by simp [go_sem,a0],by simp [go_sem,a1],by simp [go_sem,a2],by simp [go_sem,td],by simp [go_sem,ho],by simp [go_sem,he],(by constructor<;>simp [go_sem, *]),by simp [go_sem,fe]⟩
theorem DB.set7 {b:Nat} {c:Cs} {a:Ac} {t:Int} {o e:Value} {u:ql} (h:DB b c a t o e u) (x:Int):DB b ⟨c.iss,c.acq,c.cur,c.am,c.st,c.rsn,c.cl,x,c.fee,c.cop,c.sta,c.due⟩ a t o e (u.setCell (qzA b 7) (qzI x)):=by
 obtain ⟨⟨f0,f1,f2,f3,f4,f5,f6,f7,f8,f9,f10,f11⟩,a0,a1,a2,td,ho,he,⟨z0,z1,z2,z3,z4,z5,z6,z7,z8,z9,z10,z11⟩,fe⟩:=h
 simp only [qu] at f0 f1 f2 f3 f4 f5 f6 f7 f8 f9 f10 f11 z0 z1 z2 z3 z4 z5 z6 z7 z8 z9 z10 z11
 exact ⟨(by constructor<;>simp [go_sem, *]),by simp [go_sem,a0],by simp [go_sem,a1],by simp [go_sem,a2],by simp [go_sem,td],by simp [go_sem,ho],by simp [go_sem,he],(by constructor<;>simp [go_sem, *]),by simp [go_sem,fe]⟩
theorem DB.set8 {b:Nat} {c:Cs} {a:Ac} {t:Int} {o e:Value} {u:ql} (h:DB b c a t o e u) (x:Int):DB b ⟨c.iss,c.acq,c.cur,c.am,c.st,c.rsn,c.cl,c.bk,x,c.cop,c.sta,c.due⟩ a t o e (u.setCell (qzA b 8) (qzI x)):=by
 obtain ⟨⟨f0,f1,f2,f3,f4,f5,f6,f7,f8,f9,f10,f11⟩,a0,a1,a2,td,ho,he,⟨z0,z1,z2,z3,z4,z5,z6,z7,z8,z9,z10,z11⟩,fe⟩:=h
 simp only [qu] at f0 f1 f2 f3 f4 f5 f6 f7 f8 f9 f10 f11 z0 z1 z2 z3 z4 z5 z6 z7 z8 z9 z10 z11
 exact ⟨(by constructor<;>simp [go_sem, *]),by simp [go_sem,a0],by simp [go_sem,a1],by simp [go_sem,a2],by simp [go_sem,td],by simp [go_sem,ho],by simp [go_sem,he],(by constructor<;>simp [go_sem, *]),by simp [go_sem,fe]⟩
theorem DB.set11 {b:Nat} {c:Cs} {a:Ac} {t:Int} {o e:Value} {u:ql} (h:DB b c a t o e u) (x:Int):DB b ⟨c.iss,c.acq,c.cur,c.am,c.st,c.rsn,c.cl,c.bk,c.fee,c.cop,c.sta,x⟩ a t o e (u.setCell (qzA b 11) (qzI x)):=by
 obtain ⟨⟨f0,f1,f2,f3,f4,f5,f6,f7,f8,f9,f10,f11⟩,a0,a1,a2,td,ho,he,⟨z0,z1,z2,z3,z4,z5,z6,z7,z8,z9,z10,z11⟩,fe⟩:=h
 simp only [qu] at f0 f1 f2 f3 f4 f5 f6 f7 f8 f9 f10 f11 z0 z1 z2 z3 z4 z5 z6 z7 z8 z9 z10 z11
 exact ⟨(by constructor<;>simp [go_sem, *]),by simp [go_sem,a0],by simp [go_sem,a1],by simp [go_sem,a2],by simp [go_sem,td],by simp [go_sem,ho],by simp [go_sem,he],(by constructor<;>simp [go_sem, *]),by simp [go_sem,fe]⟩
theorem DB.set9 {b:Nat} {c:Cs} {a:Ac} {t:Int} {o e:Value} {u:ql} (h:DB b c a t o e u) (x:Bool):DB b ⟨c.iss,c.acq,c.cur,c.am,c.st,c.rsn,c.cl,c.bk,c.fee,x,c.sta,c.due⟩ a t o e (u.setCell (qzA b 9) (.bool x)):=by
 obtain ⟨⟨f0,f1,f2,f3,f4,f5,f6,f7,f8,f9,f10,f11⟩,a0,a1,a2,td,ho,he,⟨z0,z1,z2,z3,z4,z5,z6,z7,z8,z9,z10,z11⟩,fe⟩:=h
 simp only [qu] at f0 f1 f2 f3 f4 f5 f6 f7 f8 f9 f10 f11 z0 z1 z2 z3 z4 z5 z6 z7 z8 z9 z10 z11
 exact ⟨(by constructor<;>simp [go_sem, *]),by simp [go_sem,a0],by simp [go_sem,a1],by simp [go_sem,a2],by simp [go_sem,td],by simp [go_sem,ho],by simp [go_sem,he],(by constructor<;>simp [go_sem, *]),by simp [go_sem,fe]⟩
theorem DB.set17 {b:Nat} {c:Cs} {a:Ac} {t:Int} {o e:Value} {u:ql} (h:DB b c a t o e u) (x:Value):DB b c a t o x (u.setCell (qzA b 17) x):=by
 obtain ⟨⟨f0,f1,f2,f3,f4,f5,f6,f7,f8,f9,f10,f11⟩,a0,a1,a2,td,ho,he,⟨z0,z1,z2,z3,z4,z5,z6,z7,z8,z9,z10,z11⟩,fe⟩:=h
 simp only [qu] at f0 f1 f2 f3 f4 f5 f6 f7 f8 f9 f10 f11 z0 z1 z2 z3 z4 z5 z6 z7 z8 z9 z10 z11
 exact ⟨(by constructor<;>simp [go_sem, *]),by simp [go_sem,a0],by simp [go_sem,a1],by simp [go_sem,a2],by simp [go_sem,td],by simp [go_sem,ho],by simp [go_sem,he],(by constructor<;>simp [go_sem, *]),by simp [go_sem,fe]⟩
structure Env (b:Nat) (ao:qm) (zs:List Int) (u:ql):Prop where
 offs:Lb b u ao zs
 tab:Fn u
 gb:14<b
theorem Fn.under {b:Nat} {w w':ql} (h:Fn w) (hb:Below b w w') (j:14<b):Fn w':=by
 have e : prog.globalNamed "loop.example/g00126/impl.stepDays" = some 14 := by kernel_rfl
 unfold Fn Lib.TabIs World.var? at *;rw [e] at h ⊢
 simp only [Option.bind_some] at h ⊢
 rw [hb.block _ j];exact h
theorem Env.keep {b:Nat} {ao:qm} {zs:List Int} {u f:ql} (h:Env b ao zs u) (k:Below b u f):Env b ao zs f:=⟨h.offs.keep k,h.tab.under k h.gb,h.gb⟩
structure DS (b:Nat) (ao:qm) (d:Nat) (zs:List Int) (a:Ac) (t:Int) (c:Cs) (es:List En) (v:Value) (u:ql):Prop where
 db:DB b c a t (qf ao zs.length d) v u
 own:u.ownsRow (b+1) 217 4 v es.length (B9 es)
 env:Env b ao zs u
theorem DS.lt {b:Nat} {ao:qm} {d:Nat} {zs:List Int} {a:Ac} {t:Int} {c:Cs} {es:List En} {v:Value} {u:ql} (h:DS b ao d zs a t c es v u):b<u.heap.size:=h.db.cb.lt
theorem DS.below {b:Nat} {ao:qm} {d:Nat} {zs:List Int} {a:Ac} {t:Int} {c:Cs} {es:List En} {v:Value} {u f:ql} (h:DS b ao d zs a t c es v u) (k:BW u f):DS b ao d zs a t c es v f :=
 ⟨h.db.below k,A5 h.own k,h.env.keep (k.m (jb h.lt))⟩
theorem DS.offs {b:Nat} {ao:qm} {d:Nat} {zs:List Int} {a:Ac} {t:Int} {c:Cs} {es:List En} {v:Value} {u:ql} (h:DS b ao d zs a t c es v u):Bg u ao zs:=h.env.offs.at (jb h.lt)
theorem A7 {b n:Nat} {t:TypeId} {v:Value} {q:List Value} {u:ql} (h:u.ownsRow (b+1) t 4 v n q):∀ g,v.ownBlock=some g->g≠b:=λg j=>by have:=(h.lt g j).1;omega
theorem DS.set4 {b:Nat} {ao:qm} {d:Nat} {zs:List Int} {a:Ac} {t:Int} {c:Cs} {es:List En} {v:Value} {u:ql} (h:DS b ao d zs a t c es v u) (x:Int):DS b ao d zs a t ⟨c.iss,c.acq,c.cur,c.am,x,c.rsn,c.cl,c.bk,c.fee,c.cop,c.sta,c.due⟩ es v (u.setCell (qzA b 4) (qzI x)) :=
 ⟨h.db.set4 x,Bf h.own _ _ (A7 h.own),h.env.keep (Bv _ _ _ _)⟩
theorem DS.set5 {b:Nat} {ao:qm} {d:Nat} {zs:List Int} {a:Ac} {t:Int} {c:Cs} {es:List En} {v:Value} {u:ql} (h:DS b ao d zs a t c es v u) (x:Int):DS b ao d zs a t ⟨c.iss,c.acq,c.cur,c.am,c.st,x,c.cl,c.bk,c.fee,c.cop,c.sta,c.due⟩ es v (u.setCell (qzA b 5) (qzI x)) :=
 ⟨h.db.set5 x,Bf h.own _ _ (A7 h.own),h.env.keep (Bv _ _ _ _)⟩
theorem DS.set6 {b:Nat} {ao:qm} {d:Nat} {zs:List Int} {a:Ac} {t:Int} {c:Cs} {es:List En} {v:Value} {u:ql} (h:DS b ao d zs a t c es v u) (x:Int):DS b ao d zs a t ⟨c.iss,c.acq,c.cur,c.am,c.st,c.rsn,x,c.bk,c.fee,c.cop,c.sta,c.due⟩ es v (u.setCell (qzA b 6) (qzI x)) :=
 ⟨h.db.set6 x,Bf h.own _ _ (A7 h.own),h.env.keep (Bv _ _ _ _)⟩
theorem DS.set7 {b:Nat} {ao:qm} {d:Nat} {zs:List Int} {a:Ac} {t:Int} {c:Cs} {es:List En} {v:Value} {u:ql} (h:DS b ao d zs a t c es v u) (x:Int):DS b ao d zs a t ⟨c.iss,c.acq,c.cur,c.am,c.st,c.rsn,c.cl,x,c.fee,c.cop,c.sta,c.due⟩ es v (u.setCell (qzA b 7) (qzI x)) :=
 ⟨h.db.set7 x,Bf h.own _ _ (A7 h.own),h.env.keep (Bv _ _ _ _)⟩
theorem DS.set8 {b:Nat} {ao:qm} {d:Nat} {zs:List Int} {a:Ac} {t:Int} {c:Cs} {es:List En} {v:Value} {u:ql} (h:DS b ao d zs a t c es v u) (x:Int):DS b ao d zs a t ⟨c.iss,c.acq,c.cur,c.am,c.st,c.rsn,c.cl,c.bk,x,c.cop,c.sta,c.due⟩ es v (u.setCell (qzA b 8) (qzI x)) :=
 ⟨h.db.set8 x,Bf h.own _ _ (A7 h.own),h.env.keep (Bv _ _ _ _)⟩
theorem DS.set11 {b:Nat} {ao:qm} {d:Nat} {zs:List Int} {a:Ac} {t:Int} {c:Cs} {es:List En} {v:Value} {u:ql} (h:DS b ao d zs a t c es v u) (x:Int):DS b ao d zs a t ⟨c.iss,c.acq,c.cur,c.am,c.st,c.rsn,c.cl,c.bk,c.fee,c.cop,c.sta,x⟩ es v (u.setCell (qzA b 11) (qzI x)) :=
 ⟨h.db.set11 x,Bf h.own _ _ (A7 h.own),h.env.keep (Bv _ _ _ _)⟩
theorem DS.set9 {b:Nat} {ao:qm} {d:Nat} {zs:List Int} {a:Ac} {t:Int} {c:Cs} {es:List En} {v:Value} {u:ql} (h:DS b ao d zs a t c es v u) (x:Bool):DS b ao d zs a t ⟨c.iss,c.acq,c.cur,c.am,c.st,c.rsn,c.cl,c.bk,c.fee,x,c.sta,c.due⟩ es v (u.setCell (qzA b 9) (.bool x)) :=
 ⟨h.db.set9 x,Bf h.own _ _ (A7 h.own),h.env.keep (Bv _ _ _ _)⟩
def DR (b:Nat) (ao:qm) (d:Nat) (zs:List Int) (a:Ac) (t:Int) (w:ql) (r:Value) (c:Cs) (es:List En) (e:Ending) (w':ql):Prop :=
 e=.returned r/\(∃ v,DS b ao d zs a t c es v w')/\Below b w w'
theorem Ae2 (w:ql):qi 262 #[qzI 0] w (qp ((.func (.func 290) #[] #[])) w):=by
 go_enter func262,ntmps262
 go_wp2;go_ret
 exact ⟨rfl,by go_grown⟩
theorem Ad9 (w:ql):qi 262 #[qzI 1] w (qp ((.func (.func 291) #[] #[])) w):=by
 go_enter func262,ntmps262
 go_wp2;go_ret
 exact ⟨rfl,by go_grown⟩
theorem Afn (w:ql):qi 262 #[qzI 2] w (qp ((.func (.func 292) #[] #[])) w):=by
 go_enter func262,ntmps262
 go_wp2;go_ret
 exact ⟨rfl,by go_grown⟩
theorem Afh (w:ql):qi 262 #[qzI 3] w (qp ((.func (.func 293) #[] #[])) w):=by
 go_enter func262,ntmps262
 go_wp2;go_ret
 exact ⟨rfl,by go_grown⟩
theorem Ae9 (w:ql):qi 262 #[qzI 4] w (qp ((.func (.func 294) #[] #[])) w):=by
 go_enter func262,ntmps262
 go_wp2;go_ret
 exact ⟨rfl,by go_grown⟩
theorem Adr (w:ql):qi 262 #[qzI 5] w (qp ((.func (.func 295) #[] #[])) w):=by
 go_enter func262,ntmps262
 go_wp2;go_ret
 exact ⟨rfl,by go_grown⟩
theorem Adv (w:ql):qi 262 #[qzI 6] w (qp ((.func (.func 296) #[] #[])) w):=by
 go_enter func262,ntmps262
 go_wp2;go_ret
 exact ⟨rfl,by go_grown⟩
theorem Aew (w:ql):qi 262 #[qzI 7] w (qp ((.func (.func 297) #[] #[])) w):=by
 go_enter func262,ntmps262
 go_wp2;go_ret
 exact ⟨rfl,by go_grown⟩
theorem Afm (w:ql):qi 262 #[qzI 8] w (qp ((.func (.func 298) #[] #[])) w):=by
 go_enter func262,ntmps262
 go_wp2;go_ret
 exact ⟨rfl,by go_grown⟩
theorem Adj (w:ql):qi 262 #[qzI 9] w (qp ((.func (.func 299) #[] #[])) w):=by
 go_enter func262,ntmps262
 go_wp2;go_ret
 exact ⟨rfl,by go_grown⟩
theorem tG (g:Nat) (ao:qm) (cap:Nat) (ls:List Ln) (w:ql) (B:w.cell? (qzA g 0)=some (qf ao ls.length cap)) (i:Ar w ao ls) (hn:ls.length<=1048577) :
  qi 103 #[qf (some (qzA g 0)) 1 1] w λe w'=>∃ a2 f,e=.returned (qf a2 ls.length f) /\
   w'.ownsRow w.heap.size 151 3 (qf a2 ls.length f) ls.length (Ak ls)/\BW w w':=by
 have j:=Aa i;clear i
 go_enter func103,ntmps103
 go_wp2;refine wp_loop_rounds 2 ?_;rw [rounds_succ]
 go_wp2_with (at_builtin;refine Iu _ rfl (.tmp 12) (.tmp 13) rfl w.heap.size _ 0 [] rfl (jh _ _ _ _) ao cap ls rfl j.o (by omega) nL ?_;intro D y d x)
 have C:BW w y:=bR.grown x nL (λk hk=>by cases hk)
 rw [qu,List.nil_append] at d;obtain ⟨a2,f,v,-,-⟩:=Ft d;subst v;have a:=Aa d;clear d x j B;go_wp2;rw [rounds_succ];go_wp2;go_ret;exact ⟨a2,f,rfl,a.o,C⟩
theorem Jc (ao:qm) (cap:Nat) (ls:List Ln) (w:ql) (i:Ar w ao ls) (hn:ls.length<=1048577) :
  qi 72 #[.agg #[qf ao ls.length cap]] w (Ahd w ls):=by
 obtain ⟨W,c⟩:=A0 (((w.alloc (.cells #[qf ao ls.length cap] 38)).alloc (.cells #[qe] 38)).alloc (.cells #[qf ao ls.length cap] 36))
 have h:W.heap.size=w.heap.size+3:=by rw [c];simp
 have u:BW w W:=by rw [c];go_grown
 have j:=Aa (i.below u)
 have c1:W.cell? ⟨w.heap.size+1,0,none⟩=some qe:=by rw [c];simp [go_sem]
 have c2:W.cell? ⟨w.heap.size+1+1,0,none⟩=some (qf ao ls.length cap):=by rw [c];simp [go_sem]
 have z1:W.frozen? ⟨w.heap.size+1,0,none⟩=false:=by rw [c];simp [go_sem]
 have r:qj _:=c1;have s:qj _:=z1;have q:qj _:=u;have b:qj _:=h;have z:qj _:=c;clear i c1 z1 u h c
 go_enter func72,ntmps72
 go_wp2_with fail
 rw [<- z.o];refine (tG (w.heap.size+1+1) ao cap ls W c2 j.o hn).m ?_;rintro e y ⟨a2,f,rfl,d,l⟩
 have A:=(l.cell (p:=⟨w.heap.size+1,0,none⟩) (by have:=b.o;show w.heap.size+1<W.heap.size;omega)).t r.o
 have e1:=(l.frozen (p:=⟨w.heap.size+1,0,none⟩) (by have:=b.o;show w.heap.size+1<W.heap.size;omega)).t s.o
 have a:=Aa d;have n:=Aa (next q.o l);clear d l c2;go_wp2
 refine bodyPost_ret (by simp [results,results72,go_sem,A];try rfl) rfl ?_
 refine ⟨a2,f,rfl,?_,n.o.setCell (by show w.heap.size<=w.heap.size+1;omega) _⟩
 have hs:=b.o
 exact Bz (Bf a.o _ _ (λg hg=>by have:=(a.o.lt g hg).1;simp only;omega)) (by omega)
end Go.Proofs.YtfpafnefpmmofaaGreatDoor
namespace Go.Proofs.YtfpafnefpmmofaaGreatDoor
open Go.RowKit Go.Maps Go.Proofs.Tryz
theorem Vu {d5:Array Oper} {rest:List Oper} {o:Oper} {a:Act} {Q:Exit->Act->ql->Prop} (w:ql) (hg:o.guard=none) (it:Operand) (hop:o.op=Op.next it false)
  (b r n:Nat) (D:DataW Unit) (left:Lit->Bool) (Wu:Nat) (hit:a.eval it=qh r) (h:w.ranges prog 362 (plainElem (H:=Unit) prog 3) b r n D left Wu)
  (hDone:Wu=0->(∀ kl,left kl=false)->wpList prog d5 Q rest (a.put o.dst (.tuple #[.bool false])) w)
  (hMore:∀ (x c v:Int) (w':ql) (cnt':Nat),Bs x->Bs c->left (Fb x c)=true->(∀ zd,D.atKey (Fb x c) zd=.lit (.int .i64 v))->w'.ranges prog 362 (plainElem (H:=Unit) prog 3) b r n D (λz=>left z && !z.sameKey (Fb x c)) cnt'->cnt' < Wu ->
   w.grownBy w' (some r)->w'.heap.size=w.heap.size->(Instr.entry (qh r)).run prog w'=.ok (.tuple #[.agg #[.int .i64 x,.int .i64 c],.int .i64 v]) w'->wpList prog d5 Q rest (a.put o.dst (.tuple #[.bool true,.agg #[.int .i64 x,.int .i64 c],.int .i64 v])) w') :
  wpList prog d5 Q (o::rest) a w :=
 wpList_next_ranges (α:=Int×Int) (β:=Int) w hg it hop 362 cK (plainElem (H:=Unit) prog 3) (λp=>.agg #[.int .i64 p.1,.int .i64 p.2]) (Value.int .i64)
  (λkey kl hkey=>by obtain ⟨x,c,rfl,_⟩:=aL hkey;exact ⟨(x,c),rfl⟩) (λv y hv=>by obtain ⟨c,rfl,_⟩:=plainElem_int_inv underlying3 hv;exact ⟨c,rfl⟩)
  b r n D left Wu hit h hDone (λ⟨x,c⟩ v kl y w' cnt' hkey hlk hv M Z Y hgr hsz d2=>by
   obtain ⟨x',c',ex,rfl,hx,hc⟩:=aL hkey
   obtain ⟨rfl,rfl⟩:x=x'/\c=c':=by simpa using ex
   obtain ⟨v',ev,rfl,j8⟩:=plainElem_int_inv underlying3 hv
   cases ev
   exact hMore x c v w' cnt' hx hc hlk M Z Y hgr hsz d2)
structure Met (f:Int->Int->Option Int) (left:Lit->Bool) (d:List Ln):Prop where
 apart:qY d
 from_:∀ x ∈ d,f x.1 x.2.1=some x.2.2/\left (Fb x.1 x.2.1)=false/\Bs x.1/\Bs x.2.1
 into:∀ a c v,f a c=some v->left (Fb a c)=false->(a,c,v) ∈ d
theorem Met.step {f:Int->Int->Option Int} {left:Lit->Bool} {d:List Ln} (h:Met f left d) (a5:∀ a c,f a c≠none->Bs a/\Bs c) {x c v:Int} (hx:Bs x) (hc:Bs c) (hl:left (Fb x c)=true) (C:f x c=some v) :
  Met f (λz=>left z && !z.sameKey (Fb x c)) (d++[(x,c,v)]):=by
 have d3:(Fb x c).sameKey (Fb x c)=true:=WideAt.sameKey_self (Sf _ _);refine ⟨?_,?_,?_⟩
 ·refine List.pairwise_append.2 ⟨h.apart,List.pairwise_singleton _ _,λy hy z hz he=>?_⟩
  simp only [List.mem_singleton] at hz
  subst hz
  have:=(h.from_ y hy).2.1
  simp only at he
  rw [he.1,he.2,hl] at this
  cases this
 ·intro y hy
  rcases List.mem_append.1 hy with hy|hy
  ·obtain ⟨a1,a2,a3,a4⟩:=h.from_ y hy
   exact ⟨a1,by rw [a2];rfl,a3,a4⟩
  ·simp only [List.mem_singleton] at hy
   subst hy
   exact ⟨C,by simp only [d3];simp,hx,hc⟩
 ·intro a' c' v' F h4
  by_cases he:a'=x/\c'=c
  ·obtain ⟨rfl,rfl⟩:=he
   rw [C] at F
   injection F with F
   subst F;exact List.mem_append.2 (.inr (List.mem_singleton.2 rfl))
  ·obtain ⟨T,w2⟩:=a5 a' c' (by rw [F];simp)
   have i7:=Maps.sameKey_ne λe=>he (V9 T w2 hx hc e)
   rw [i7] at h4
   exact List.mem_append.2 (.inl (h.into a' c' v' F (by simpa using h4)))
theorem Met.all {f:Int->Int->Option Int} {left:Lit->Bool} {d ds:List Ln} (h:Met f left d) (hl:∀ k,left k=false) (hp:ds.Perm d) (hs:ds.Pairwise (λx y=>Gi y x=false)):rP ds/\look ds=f:=by
 have g9:=(hp.symm.pairwise_iff (R:=λx y:Ln=>¬ (x.1=y.1/\x.2.1=y.2.1)) (λhxy he=>hxy ⟨he.1.symm,he.2.symm⟩)).1 h.apart
 have b3:∀ a c v,(a,c,v) ∈ ds ↔ f a c=some v:=λa c v=>by
  rw [hp.mem_iff]
  exact ⟨λhm=>(h.from_ _ hm).1,λC=>h.into a c v C (hl _)⟩
 constructor
 ·refine (hs.and g9).imp fun {x y} ⟨h1,h2⟩=>?_
  rw [F7]
  simp [Gi] at h1
  omega
 ·funext a c
  cases C:f a c with
  | some v=>exact (We g9).1 ((b3 a c v).2 C)
  | none =>
   cases hk:look ds a c with
   | none=>rfl
   | some v =>
    have:=(b3 a c v).1 (R9 hk)
    rw [C] at this;cases this
theorem lG (b n:Nat) (f:Int->Int->Option Int) (w:ql) (hM:J2 w b n f) (hn:n<=1000) :
  qi 318 #[.map (some b)] w λe w'=>∃ ao cap L,e=.returned (.agg #[qf ao (List.length L) cap])/\rP L/\look L=f/\L.length<=n/\w'.ownsRow w.heap.size 151 3 (qf ao L.length cap) L.length (Ak L)/\BW w w':=by
 obtain ⟨i0,hi,j3,j4,j5⟩:=info_parts sD;have j7:=hM.lt;obtain ⟨W,hW⟩:=A0 (w.alloc (.cells #[qe] 38))
 have bW:BW w W:=by rw [hW];go_grown
 have g8:W.heap.size=w.heap.size+1:=by rw [hW];simp
 have r0:W.cell? ⟨w.heap.size,0,none⟩=some qe:=by rw [hW];simp
 have rf:W.frozen? ⟨w.heap.size,0,none⟩=false:=by rw [hW];simp [go_sem]
 obtain ⟨D,b5,S,a5⟩:=hM.below bW;have HO:=Aa b5;have g4:=Aa S;have g6:=Aa a5;have d7:=Aa bW;have i3:=Aa r0;have i5:=Aa rf;have s:=Aa g8;clear hM b5 S a5 bW r0 rf g8
 go_enter func318,ntmps318
 go_wp2_with (first
  | (at_range;rw [<- hW];clear hW;refine wpList_range_own _ rfl _ 358 rfl 362 3 cK underlying358 _ b n D rfl HO.o ?_;intro w0 b6 hg0 i9)
  | go_in)
 try go_frame
 have a7:=Aa b6
 have q0:=d7.o.grown hg0 d7.o.size (λj hj=>by cases hj)
 have d8:qj (w0.cell? ⟨w.heap.size,0,none⟩=some qe/\w0.frozen? ⟨w.heap.size,0,none⟩=false):=⟨(hg0.cell_far ⟨w.heap.size,0,none⟩ (by have:=s.o;show w.heap.size<W.heap.size;omega) (by simp)).t i3.o,(hg0.frozen_far ⟨w.heap.size,0,none⟩ (by have:=s.o;show w.heap.size<W.heap.size;omega) (by simp)).t i5.o⟩
 have b8:=HO.o.size_le;clear b6 hg0
 go_loopw [3] (λv3 wr=>∃ (left:Lit->Bool) (Wu:Nat) (d:List Ln),wr.ranges prog 362 (plainElem (H:=Unit) prog 3) b W.heap.size n D left Wu/\d.length+Wu<=n/\Met f left d /\
   wr.ownsRow (w.heap.size+2) 151 3 v3 d.length (Ak d)/\(wr.cell? ⟨w.heap.size,0,none⟩=some qe/\wr.frozen? ⟨w.heap.size,0,none⟩=false)/\BW w wr/\w.heap.size+2<=wr.heap.size) (λ_ wr=>wr.rangeLeft b W.heap.size)
 case atStart =>
  refine ⟨_,_,[],a7.o,by simpa using b8,⟨List.Pairwise.nil,(λx hx=>by cases hx),λa c v C hl=>?_⟩,jh _ _ _ _,d8.o,q0,by have:=s.o;omega⟩
  have G:=g6.o a c (by rw [C];simp)
  rw [(g4.o a c G.1 G.2).1,C] at hl
  cases hl
 case round =>
  obtain ⟨left,Wu,d,Z,j6,b4,b1,N,X,j0⟩:=hrel;have g2:=Aa Z;have J:=Aa b4;have q:=Aa b1;have i:=Aa N;clear Z b4 b1 N a7 q0 d8 b8 i9
  go_wp2_with (first
   | (at_next;refine Vu _ rfl _ rfl b W.heap.size n D left Wu rfl g2.o ?_ ?_)
   | go_in)
  ·intro _ h5
   obtain ⟨ao,cap,j2,-,-⟩:=Ft q.o;subst j2;have i1:=Aa h5;clear h5;go_wp2_with fail
   refine (Acd ao d.length cap (w.heap.size+2) d wr q.o (by omega) j0).m ?_
   rintro e w2 ⟨rfl,ds,hp,hs,o2,b2⟩
   have d0:=(b2.cell (p:=⟨w.heap.size,0,none⟩) (by show w.heap.size<w.heap.size+2;omega)).t i.o.1
   have d1:=(b2.frozen (p:=⟨w.heap.size,0,none⟩) (by show w.heap.size<w.heap.size+2;omega)).t i.o.2
   have u:=hp.length_eq;have a6:=Aa (J.o.all i1.o hp hs);have g1:=Aa o2
   have i2:=Aa (X.t (b2.m (by omega)))
   have d9:=Aa u;clear hp hs o2 b2 u i;go_wp2
   refine bodyPost_ret (by simp [results,results318,go_sem,d0];try rfl) rfl ?_
   have u:=d9.o
   refine ⟨ao,cap,ds,by rw [u],a6.o.1,a6.o.2,by omega,?_,i2.o.setCell nL _⟩
   have h:=Bz (Bf g1.o ⟨w.heap.size,0,none⟩ (qf ao d.length cap) (λg hg=>by have:=(g1.o.lt g hg).1;simp only;omega)) (base':=w.heap.size) (by omega)
   rw [u];exact h
  ·intro x c v T b0 G d4 h6 M b7 Y O h7 d2
   have h0:f x c=some v:=by
    have h1:=g4.o x c G d4;have h2:=Maps.has_true_of_atKey M;rw [h1.1] at h2;have h3:=(M (.lit (.int .i64 0))).symm.t h1.2
    cases C:f x c with
    | none=>rw [C] at h2;cases h2
    | some v' =>
     rw [C] at h3
     injection h3 with e1;injection e1 with _ e2
     simp at e2
     rw [e2]
   have c9:=Aa (J.o.step g6.o G d4 h6 h0)
   have B:∀ g,u3.ownBlock=some g->w.heap.size+2<=g:=λg hg=>(q.o.lt g hg).1
   have I:=Aa (Ahz q.o O (λg hg e=>by have:=B g hg;have:=s.o;cases e;omega))
   have q1:=X.grown O X.size (λj hj=>by have:=s.o;cases hj;omega)
   have a8:=Aa b7
   have b9:qj (T.cell? ⟨w.heap.size,0,none⟩=some qe/\T.frozen? ⟨w.heap.size,0,none⟩=false):=⟨(O.cell_far ⟨w.heap.size,0,none⟩ (by show w.heap.size<wr.heap.size;omega) (by have:=s.o;simp;omega)).t i.o.1,(O.frozen_far ⟨w.heap.size,0,none⟩ (by show w.heap.size<wr.heap.size;omega) (by have:=s.o;simp;omega)).t i.o.2⟩
   obtain ⟨V,U⟩:=A0 (T.alloc (.cells #[.int .i64 x,.int .i64 c] 362))
   have g7:V.heap.size=T.heap.size+1:=by rw [U];simp
   have v0:V.cell? ⟨T.heap.size,0,none⟩=some (.int .i64 x):=by rw [U];simp
   have v1:V.cell? ⟨T.heap.size,1,none⟩=some (.int .i64 c):=by rw [U];simp
   have d6:qj (V.ownsRow (w.heap.size+2) 151 3 u3 d.length (Ak d)):=by rw [qj,U];exact I.o.alloc _
   have g3:qj (V.ranges prog 362 (plainElem (H:=Unit) prog 3) b W.heap.size n D (λz=>left z && !z.sameKey (Fb x c)) b0):=by rw [qj,U];exact a8.o.alloc _
   have c8:qj (V.cell? ⟨w.heap.size,0,none⟩=some qe/\V.frozen? ⟨w.heap.size,0,none⟩=false):=by
    have g:=World.grownBy_alloc T (.cells #[.int .i64 x,.int .i64 c] 362) none;rw [qj,U]
    exact ⟨(g.cell_far ⟨w.heap.size,0,none⟩ (by show w.heap.size<T.heap.size;omega) (by simp)).t b9.o.1,(g.frozen_far ⟨w.heap.size,0,none⟩ (by show w.heap.size<T.heap.size;omega) (by simp)).t b9.o.2⟩
   have qV:BW w V:=by rw [U];exact q1.alloc q1.size _
   have l:=Aa B;have g0:=Aa Y
   have A:qj (V.heap.size=wr.heap.size+1):=by rw [qj,g7,h7]
   clear g7 h7 M b7 Y O h0 G d4 h6 J q I a8 b9 i q1 B X;go_upto_region 5 with fail
   rw [<- U];clear U d2
   go_wp2_with (at_builtin;refine wpList_append_own _ rfl (.tmp 13) (.tmp 20) 36 rfl (w.heap.size+2) 151 i0 _ 3 24 underlying36 hi j3 j4 j5 rfl (by decide) _ _ _ rfl (d6.o.alloc _) ⟨V.heap.size,0,none⟩ 1 1 [.int .i64 x,.int .i64 c,.int .i64 v] rfl rfl (World.news_of_block (heap_alloc_new V _)) (fT x c v) (by unfold maxLen;omega) (by omega) (by have:=A.o;simp;omega) ?_;intro v5 w5 o5 g5 _)
   have gA:=World.grownBy_alloc V (.cells #[.int .i64 x,.int .i64 c,.int .i64 v] 151) none
   have i4:qj (w5.ownsRow (w.heap.size+2) 151 3 v5 (d++[(x,c,v)]).length (Ak (d++[(x,c,v)]))):=by rw [qj,qv];exact nC o5
   have i6:some b≠u3.ownBlock:=λe=>by have:=l.o b e.symm;omega
   have i8:some W.heap.size≠u3.ownBlock:=λe=>by have:=l.o _ e.symm;have:=s.o;omega
   have h8:some w.heap.size≠u3.ownBlock:=λe=>by have:=l.o _ e.symm;omega
   have a9:=Aa ((g3.o.alloc _).kept g5 i6 i8)
   have h9:qj (w5.cell? ⟨w.heap.size,0,none⟩=some qe/\w5.frozen? ⟨w.heap.size,0,none⟩=false):=⟨(g5.cell_far ⟨w.heap.size,0,none⟩ (by have:=A.o;simp;omega) h8).t ((gA.cell_far ⟨w.heap.size,0,none⟩ (by have:=A.o;show w.heap.size<V.heap.size;omega) (by simp)).t c8.o.1),(g5.frozen_far ⟨w.heap.size,0,none⟩ (by have:=A.o;simp;omega) h8).t ((gA.frozen_far ⟨w.heap.size,0,none⟩ (by have:=A.o;show w.heap.size<V.heap.size;omega) (by simp)).t c8.o.2)⟩
   have q5:=(qV.alloc qV.size _).grown g5 (by have:=A.o;simp;omega) (λj hj=>by have:=l.o j hj;omega)
   have j1:w.heap.size+2<=w5.heap.size:=by have:=g5.size;have:=A.o;simp at *;omega
   clear o5 g5 gA d6 g3 c8 qV;go_wp2
   go_roundw
   case rel=>exact ⟨_,b0,_,a9.o,by have:=g0.o;simp;omega,c9.o,i4.o,h9.o,q5,j1⟩
   case measure=>rw [a9.o.left_eq,g2.o.left_eq];exact g0.o
end Go.Proofs.YtfpafnefpmmofaaGreatDoor
