import Derived.Test.YtomiclakhjncbaaGreatDoorJE2a
import Derived.Stop.Asserts
import Derived.Test.YtomiclakhjncbaaGreatDoorKEHpOps
import Derived.Laws.EntriesVeiled
import Derived.Test.YtomiclakhjncbaaGreatDoorKEFLed2
set_option maxRecDepth 100000
set_option maxHeartbeats 12800000
namespace Go.Proofs.YtomiclakhjncbaaGreatDoor
open Go.RowKit Go.Proofs.Tryz
def NoB (x:List UInt8):Prop:=∀ c ∈ x,c≠32
theorem L2 {x:List UInt8} (h:x.all (fun c=>c != 32)=true):NoB x:=fun c hc e=>by
 have:=List.all_eq_true.1 h c hc
 rw [e] at this
 exact absurd this (by decide)
theorem xI {x r:List UInt8} (hx:NoB x):∀ i,i≤x.length→B0 (x++32::r) i=([],0):=by
 intro i
 induction i with
 | zero=>intro _;rfl
 | succ i ih =>
  intro hi
  have hg:(x++32::r).getD i 0=x[i]:=by
   rw [List.getD_eq_getElem?_getD,List.getElem?_append_left (by omega),List.getElem?_eq_getElem (by omega)]
   rfl
  rw [J7 (by rw [hg];exact hx _ (List.getElem_mem _))]
  exact ih (by omega)
theorem yK (x r:List UInt8) (s:Nat):(x++32::r).drop (x.length+1+s)=r.drop s:=by
 rw [List.drop_append,List.drop_of_length_le (by omega),List.nil_append,show x.length+1+s - x.length=s+1 from by omega]
 rfl
theorem xB {x r:List UInt8} (hx:NoB x):∀ j,j≤r.length→B0 (x++32::r) (x.length+1+j)=(x::(B0 r j).1,x.length+1+(B0 r j).2):=by
 intro j
 induction j with
 | zero =>
  intro _
  have hg:(x++32::r).getD x.length 0=32:=by simp [List.getD_eq_getElem?_getD]
  show B0 (x++32::r) (x.length+1)=_
  rw [Kw hg,xI hx _ nL]
  simp [B0]
 | succ j ih =>
  intro hj
  have h:=ih (by omega)
  have hg:(x++32::r).getD (x.length+1+j) 0=r.getD j 0:=by
   rw [List.getD_eq_getElem?_getD,List.getElem?_append_right (by omega),show x.length+1+j - x.length=j+1 from by omega]
   simp [List.getD_eq_getElem?_getD]
  have hle:=(Mo r j).1
  by_cases h32:r.getD j 0=32
  ·rw [show x.length+1+(j+1)=(x.length+1+j)+1 from by omega,Kw (by rw [hg];exact h32),h,Kw h32]
   simp only [List.cons_append]
   rw [yK,show x.length+1+j - (x.length+1+(B0 r j).2)=j - (B0 r j).2 from by omega]
   rfl
  ·rw [show x.length+1+(j+1)=(x.length+1+j)+1 from by omega,J7 (by rw [hg];exact h32),h,J7 h32]
theorem L4 {x r:List UInt8} (hx:NoB x):Ab (x++32::r)=x::Ab r:=by
 have h:=xB hx (r:=r) r.length nL
 have hl:(x++32::r).length=x.length+1+r.length:=by simp;omega
 rw [Ab,hl,h,Ab]
 simp only [List.cons_append]
 rw [yK]
def K5 (l:List UInt8):Prop:=(Bq (Ab l)=true→Al (Ab l) 1≠[]∧Ae (Al (Ab l) 2)≤8)∧(Da (Ab l)=true→Ae (Al (Ab l) 1)≤8∧Ae (Al (Ab l) 2)≤8)
theorem wN {s:List UInt8} (h:Dr s≤8):Ae s≤8:=by
 unfold Ae
 split
 ·omega
 ·split
  ·omega
  ·exact h
theorem xF {m:Nat} (h:m≤8):Dr [UInt8.ofNat (48+m)]≤8:=by
 rcases (show m=0∨m=1∨m=2∨m=3∨m=4∨m=5∨m=6∨m=7∨m=8 from by omega) with rfl | rfl | rfl | rfl | rfl | rfl | rfl | rfl | rfl <;> decide
theorem Aac {m:Nat} (h:m≤9):NoB [UInt8.ofNat (48+m)]:=by
 intro c hc;rw [List.mem_singleton] at hc;subst hc
 rcases (show m=0∨m=1∨m=2∨m=3∨m=4∨m=5∨m=6∨m=7∨m=8∨m=9 from by omega) with rfl | rfl | rfl | rfl | rfl | rfl | rfl | rfl | rfl | rfl <;> decide
theorem Pl {x:List UInt8} (hx:NoB x) (h1:x≠Dy) (h2:x≠I7) (r:List UInt8):K5 (x++32::r):=by
 have e:Al (Ab (x++32::r)) 0=x:=by rw [L4 hx];rfl
 constructor
 ·intro h
  unfold Bq at h;rw [e,decide_eq_false h1] at h
  cases h
 ·intro h
  unfold Da at h;rw [e,decide_eq_false h2] at h
  cases h
theorem uC {A D:List UInt8} (hA0:A≠[]) (hA:NoB A) (hD:NoB D) (h:Dr D≤8) (r:List UInt8):K5 ([97,117,116,104]++32::(A++32::(D++32::r))):=by
 have e:Ab ([97,117,116,104]++32::(A++32::(D++32::r)))=[97,117,116,104]::A::D::Ab r:=by
  rw [L4 (L2 (by decide)),L4 hA,L4 hD]
 constructor
 ·intro _
  rw [e];exact ⟨hA0,wN h⟩
 ·intro h
  unfold Da at h
  rw [e,show Al ([97,117,116,104]::A::D::Ab r) 0=[97,117,116,104] from rfl,show decide (([97,117,116,104]:List UInt8)=I7)=false from by decide] at h
  cases h
theorem tT {A D:List UInt8} (hA:NoB A) (hD:NoB D) (h:Dr A≤8) (h':Dr D≤8) (r:List UInt8):K5 ([112,97,121]++32::(A++32::(D++32::r))):=by
 have e:Ab ([112,97,121]++32::(A++32::(D++32::r)))=[112,97,121]::A::D::Ab r:=by
  rw [L4 (L2 (by decide)),L4 hA,L4 hD]
 constructor
 ·intro h
  unfold Bq at h
  rw [e,show Al ([112,97,121]::A::D::Ab r) 0=[112,97,121] from rfl,show decide (([112,97,121]:List UInt8)=Dy)=false from by decide] at h
  cases h
 ·intro _
  rw [e];exact ⟨wN h,wN h'⟩
structure Par (b:Bk):Prop where
 ia:∀ a ∈ b.az,1≤a.iss∧a.iss≤8
 pc:∀ c ∈ b.cs,(1≤c.iss∧c.iss≤8)∧(1≤c.acq∧c.acq≤8)
namespace Kb
structure Z8 (B:Nat) (v0 v1 v2 v3 v4 v5 v6 v7:Value) (u:World):Prop where
 c0:u.cell? ⟨B,0,none⟩=some v0
 c1:u.cell? ⟨B,1,none⟩=some v1
 c2:u.cell? ⟨B,2,none⟩=some v2
 c3:u.cell? ⟨B,3,none⟩=some v3
 c4:u.cell? ⟨B,4,none⟩=some v4
 c5:u.cell? ⟨B,5,none⟩=some v5
 c6:u.cell? ⟨B,6,none⟩=some v6
 c7:u.cell? ⟨B,7,none⟩=some v7
 z0:u.frozen? ⟨B,0,none⟩=false
 z1:u.frozen? ⟨B,1,none⟩=false
 z2:u.frozen? ⟨B,2,none⟩=false
 z3:u.frozen? ⟨B,3,none⟩=false
 z4:u.frozen? ⟨B,4,none⟩=false
 z5:u.frozen? ⟨B,5,none⟩=false
 z6:u.frozen? ⟨B,6,none⟩=false
 z7:u.frozen? ⟨B,7,none⟩=false
theorem Z8.lt {B:Nat} {v0 v1 v2 v3 v4 v5 v6 v7:Value} {u:World} (h:Z8 B v0 v1 v2 v3 v4 v5 v6 v7 u):B<u.heap.size:=World.block_lt_of_cell? u _ h.c0
theorem Z8.grown {B:Nat} {v0 v1 v2 v3 v4 v5 v6 v7:Value} {u u':World} (h:Z8 B v0 v1 v2 v3 v4 v5 v6 v7 u) {row:Option Nat} (g:u.grownBy u' row) (hr:some B≠row):Z8 B v0 v1 v2 v3 v4 v5 v6 v7 u':=by
 have l:=h.lt;obtain ⟨c0,c1,c2,c3,c4,c5,c6,c7,z0,z1,z2,z3,z4,z5,z6,z7⟩:=h;exact ⟨(g.cell_far ⟨B,0,none⟩ l hr).trans c0,(g.cell_far ⟨B,1,none⟩ l hr).trans c1,(g.cell_far ⟨B,2,none⟩ l hr).trans c2,(g.cell_far ⟨B,3,none⟩ l hr).trans c3,(g.cell_far ⟨B,4,none⟩ l hr).trans c4,(g.cell_far ⟨B,5,none⟩ l hr).trans c5,(g.cell_far ⟨B,6,none⟩ l hr).trans c6,(g.cell_far ⟨B,7,none⟩ l hr).trans c7,(g.frozen_far ⟨B,0,none⟩ l hr).trans z0,(g.frozen_far ⟨B,1,none⟩ l hr).trans z1,(g.frozen_far ⟨B,2,none⟩ l hr).trans z2,(g.frozen_far ⟨B,3,none⟩ l hr).trans z3,(g.frozen_far ⟨B,4,none⟩ l hr).trans z4,(g.frozen_far ⟨B,5,none⟩ l hr).trans z5,(g.frozen_far ⟨B,6,none⟩ l hr).trans z6,(g.frozen_far ⟨B,7,none⟩ l hr).trans z7⟩
theorem Z8.set0 {B:Nat} {v0 v1 v2 v3 v4 v5 v6 v7:Value} {u:World} (h:Z8 B v0 v1 v2 v3 v4 v5 v6 v7 u) (x:Value):Z8 B x v1 v2 v3 v4 v5 v6 v7 (u.setCell ⟨B,0,none⟩ x):=by
 obtain ⟨c0,c1,c2,c3,c4,c5,c6,c7,z0,z1,z2,z3,z4,z5,z6,z7⟩:=h
 constructor<;>simp [go_sem, *]
theorem Z8.set2 {B:Nat} {v0 v1 v2 v3 v4 v5 v6 v7:Value} {u:World} (h:Z8 B v0 v1 v2 v3 v4 v5 v6 v7 u) (x:Value):Z8 B v0 v1 x v3 v4 v5 v6 v7 (u.setCell ⟨B,2,none⟩ x):=by
 obtain ⟨c0,c1,c2,c3,c4,c5,c6,c7,z0,z1,z2,z3,z4,z5,z6,z7⟩:=h
 constructor<;>simp [go_sem, *]
theorem Z8.set3 {B:Nat} {v0 v1 v2 v3 v4 v5 v6 v7:Value} {u:World} (h:Z8 B v0 v1 v2 v3 v4 v5 v6 v7 u) (x:Value):Z8 B v0 v1 v2 x v4 v5 v6 v7 (u.setCell ⟨B,3,none⟩ x):=by
 obtain ⟨c0,c1,c2,c3,c4,c5,c6,c7,z0,z1,z2,z3,z4,z5,z6,z7⟩:=h
 constructor<;>simp [go_sem, *]
theorem Z8.set5 {B:Nat} {v0 v1 v2 v3 v4 v5 v6 v7:Value} {u:World} (h:Z8 B v0 v1 v2 v3 v4 v5 v6 v7 u) (x:Value):Z8 B v0 v1 v2 v3 v4 x v6 v7 (u.setCell ⟨B,5,none⟩ x):=by
 obtain ⟨c0,c1,c2,c3,c4,c5,c6,c7,z0,z1,z2,z3,z4,z5,z6,z7⟩:=h
 constructor<;>simp [go_sem, *]
theorem Z8.set6 {B:Nat} {v0 v1 v2 v3 v4 v5 v6 v7:Value} {u:World} (h:Z8 B v0 v1 v2 v3 v4 v5 v6 v7 u) (x:Value):Z8 B v0 v1 v2 v3 v4 v5 x v7 (u.setCell ⟨B,6,none⟩ x):=by
 obtain ⟨c0,c1,c2,c3,c4,c5,c6,c7,z0,z1,z2,z3,z4,z5,z6,z7⟩:=h
 constructor<;>simp [go_sem, *]
theorem Z8.set7 {B:Nat} {v0 v1 v2 v3 v4 v5 v6 v7:Value} {u:World} (h:Z8 B v0 v1 v2 v3 v4 v5 v6 v7 u) (x:Value):Z8 B v0 v1 v2 v3 v4 v5 v6 x (u.setCell ⟨B,7,none⟩ x):=by
 obtain ⟨c0,c1,c2,c3,c4,c5,c6,c7,z0,z1,z2,z3,z4,z5,z6,z7⟩:=h
 constructor<;>simp [go_sem, *]
theorem Z8.new (w:World) (v0 v1 v2 v3 v4 v5 v6 v7:Value) (ty:TypeId):Z8 w.heap.size v0 v1 v2 v3 v4 v5 v6 v7 (w.alloc (.cells #[v0,v1,v2,v3,v4,v5,v6,v7] ty)) :=
 ⟨by simp,by simp,by simp,by simp,by simp,by simp,by simp,by simp,by simp [go_sem],by simp [go_sem],by simp [go_sem],by simp [go_sem],by simp [go_sem],by simp [go_sem],by simp [go_sem],by simp [go_sem]⟩
theorem Pv {u:World} {base n size:Nat} {t:TypeId} {v:Value} {xs:List Value} (h:u.ownsRow base t size v n xs):∀ g,v.ownBlock=some g→∃ uV fz,u.heap[g]?=some (.cells uV t fz):=by
 intro g hg
 rcases h.2 with ⟨hv,_⟩ | ⟨g',cap,uV,hv,_,hh,_⟩
 ·rw [hv] at hg;cases hg
 ·rw [hv] at hg
  injection hg with hg
  subst hg;exact ⟨uV,(0,0),hh⟩
def El (u:World) (g:Nat) (t:TypeId):Prop:=∃ uV fz,u.heap[g]?=some (.cells uV t fz)
theorem Bj {u:World} {b1 n1 s1 b2 n2 s2:Nat} {t1 t2:TypeId} {v1 v2:Value} {x1 x2:List Value} (h1:u.ownsRow b1 t1 s1 v1 n1 x1) (h2:u.ownsRow b2 t2 s2 v2 n2 x2) (ht:t1≠t2):v1.ownBlock=none∨v1.ownBlock≠v2.ownBlock:=by
 cases hv:v1.ownBlock with
 | none=>exact .inl rfl
 | some g =>
  refine .inr fun e=>ht ?_
  obtain ⟨c1,f1,e1⟩:=Pv h1 g hv;obtain ⟨c2,f2,e2⟩:=Pv h2 g e.symm;rw [e1] at e2
  simp only [Option.some.injEq,Obj.cells.injEq] at e2
  exact e2.2.1
theorem dB {u:World} {b1 n1 s1 K:Nat} {t1 t2:TypeId} {v1:Value} {x1:List Value} (h1:u.ownsRow b1 t1 s1 v1 n1 x1) (h2:El u K t2) (ht:t1≠t2):v1.ownBlock=none∨v1.ownBlock≠some K:=by
 cases hv:v1.ownBlock with
 | none=>exact .inl rfl
 | some g =>
  refine .inr fun e=>ht ?_
  injection e with e
  subst e;obtain ⟨c1,f1,e1⟩:=Pv h1 g hv;obtain ⟨c2,f2,e2⟩:=h2;rw [e1] at e2
  simp only [Option.some.injEq,Obj.cells.injEq] at e2
  exact e2.2.1
theorem D8 {u:World} {b1 n1 s1 K:Nat} {t1 t2:TypeId} {v1:Value} {x1:List Value} (h1:u.ownsRow b1 t1 s1 v1 n1 x1) (h2:El u K t2) (ht:t1≠t2):some K≠v1.ownBlock:=by
 rcases dB h1 h2 ht with h | h
 ·rw [h];exact fun e=>by cases e
 ·exact fun e=>h e.symm
theorem El.grown {u u':World} {g:Nat} {t:TypeId} {row:Option Nat} (h:El u g t) (hg:u.grownBy u' row) (hr:some g≠row):El u' g t:=by
 obtain ⟨uV,fz,e⟩:=h
 have hl:g<u.heap.size:=by
  rcases Nat.lt_or_ge g u.heap.size with h | h
  ·exact h
  ·rw [Array.getElem?_eq_none h] at e;cases e
 exact ⟨uV,fz,(hg.block g hl hr).trans e⟩
theorem El.set {u:World} {g:Nat} {t:TypeId} (h:El u g t) (i:Nat) (x:Value):El (u.setCell ⟨g,i,none⟩ x) g t:=by
 obtain ⟨uV,fz,e⟩:=h;refine ⟨uV.setIfInBounds i x,fz,?_⟩;unfold World.setCell
 simp only [Array.getElem?_modify,if_true,e,Option.map_some]
 rfl
theorem Ez {u:World} {base base' n size:Nat} {t:TypeId} {v:Value} {xs:List Value} (h:u.ownsRow base t size v n xs) (hb:base'≤base):u.ownsRow base' t size v n xs :=
 ⟨h.1,h.2.imp id (fun ⟨g,cap,uV,hv,hg,r⟩=>⟨g,cap,uV,hv,Nat.le_trans hb hg,r⟩)⟩
def tF (o:Obj):Prop:=∃ uV t fz,o=.cells uV t fz∧(t=61∨t=9∨t=143)
structure Ce (B:Nat) (w w':World):Prop where
 b:Below B w w'
 i:∀ (k:Nat) (o:Obj),w.heap[k]?=some o→¬ tF o→w'.heap[k]?=some o
theorem Ed {w:World} {k:Nat} {o:Obj} (h:w.heap[k]?=some o):k<w.heap.size:=by
 rcases Nat.lt_or_ge k w.heap.size with h' | h'
 ·exact h'
 ·rw [Array.getElem?_eq_none h'] at h;cases h
theorem Ce.refl (B:Nat) (w:World):Ce B w w:=⟨bR,fun _ _ h _=>h⟩
theorem Ce.trans {B:Nat} {w u v:World} (h:Ce B w u) (g:Ce B u v):Ce B w v:=⟨h.b.trans g.b,fun k o e m=>g.i k o (h.i k o e m) m⟩
theorem Ce.of {B:Nat} {w u:World} (h:BW w u) (hB:B≤w.heap.size):Ce B w u:=⟨h.mono hB,fun k _ e _=>(h.block k (Ed e)).trans e⟩
theorem Ce.drew {B:Nat} {w u:World} (h:Ce B w u):Ce B w u.drew:=⟨h.b.drew,h.i⟩
theorem Ce.setK {B K i:Nat} {w u:World} {x:Value} (h:Ce B w u) (kt:El u K 143) (hK:B≤K):Ce B w (u.setCell ⟨K,i,none⟩ x) :=
 ⟨h.b.setCell hK _,fun k o e m=>by
  have e1:=h.i k o e m
  refine ((An u K i x).block k (Ed e1) (fun c=>m ?_)).trans e1
  injection c with c
  subst c;obtain ⟨uV,fz,e2⟩:=kt;rw [e1] at e2
  injection e2 with e2
  exact ⟨uV,_,fz,e2,.inr (.inr rfl)⟩⟩
theorem Ce.grownO {B n size:Nat} {w u u':World} {t:TypeId} {v:Value} {xs:List Value} (h:Ce B w u) (g:u.grownBy u' v.ownBlock) (o:u.ownsRow B t size v n xs) (hs:B≤u.heap.size) (ht:t=61∨t=9):Ce B w u' :=
 ⟨h.b.grown g hs (fun k hk=>(o.lt k hk).1),fun k x e m=>by
  have e1:=h.i k x e m
  refine (g.block k (Ed e1) (fun c=>m ?_)).trans e1
  obtain ⟨uV,fz,e2⟩:=Pv o k c.symm;rw [e1] at e2
  injection e2 with e2
  exact ⟨uV,_,fz,e2,ht.elim .inl (fun e=>.inr (.inl e))⟩⟩
theorem iS {B m n size:Nat} {t:TypeId} {v:Value} {xs:List Value} {w w':World} (h:w.ownsRow m t size v n xs) (hb:Ce B w w') (ht:t≠61∧t≠9∧t≠143):w'.ownsRow m t size v n xs :=
 ⟨h.1,h.2.imp id (fun ⟨g,cap,uV,hv,hg,hh,r⟩=>⟨g,cap,uV,hv,hg,hb.i g _ hh (by
  rintro ⟨c2,t2,f2,e,h⟩
  injection e with _ e _
  subst e
  rcases h with h | h | h
  ·exact ht.1 h
  ·exact ht.2.1 h
  ·exact ht.2.2 h),r⟩)⟩
structure KS (B K:Nat) (st:Int) (b:Bk) (q:Bp) (u:World):Prop where
 z:Z8 K (.int .i32 st) (.int .u32 0) (.slice q.l b.ls.length q.lc) (.int .i64 b.today) (.slice q.o b.off.length q.oc) (.slice q.a b.az.length q.ac) (.slice q.c b.cs.length q.cc) (.slice q.g b.log.length q.gc) u
 kt:El u K 143
 off:u.ownsRow B 3 1 (.slice q.o b.off.length q.oc) b.off.length (b.off.map (Value.int .i64))
 az:u.ownsRow B 107 6 (.slice q.a b.az.length q.ac) b.az.length (Ah b.az)
 cs:u.ownsRow B 61 12 (.slice q.c b.cs.length q.cc) b.cs.length (Aj b.cs)
 ls:u.ownsRow B 113 3 (.slice q.l b.ls.length q.lc) b.ls.length (Ag b.ls)
 log:u.ownsRow B 9 1 (.slice q.g b.log.length q.gc) b.log.length (Am b.log)
 hK:B≤K
theorem KS.at {B K:Nat} {st:Int} {b:Bk} {q:Bp} {u:World} (h:KS B K st b q u):Aq u b q:=⟨Hq h.off,Fd h.az,F2 h.cs,Df h.ls,Ep h.log⟩
theorem KS.far {B K:Nat} {st:Int} {b:Bk} {q:Bp} {u u':World} {row:Option Nat} (h:KS B K st b q u) (g:u.grownBy u' row) (hr:∀ x,row=some x→x<B):KS B K st b q u':=by
 have hK:=h.hK
 have ne:∀ {t:TypeId} {s n:Nat} {v:Value} {xs:List Value},u.ownsRow B t s v n xs→v.ownBlock=none∨v.ownBlock≠row:=fun o=>by
  rename_i t s n v xs
  cases hv:v.ownBlock with
  | none=>exact .inl rfl
  | some j =>
   refine .inr fun e=>?_
   have h1:=(o.lt j hv).1;have h2:=hr j e.symm
   omega
 have nK:some K≠row:=fun e=>by have:=hr K e.symm;omega
 exact ⟨h.z.grown g nK,h.kt.grown g nK,h.off.kept g (ne h.off),h.az.kept g (ne h.az),h.cs.kept g (ne h.cs),h.ls.kept g (ne h.ls),h.log.kept g (ne h.log),h.hK⟩
theorem KS.below {B K:Nat} {st:Int} {b:Bk} {q:Bp} {u u':World} (h:KS B K st b q u) (hb:BW u u'):KS B K st b q u' :=
 h.far (row:=none) ⟨hb.os,hb.tape,hb.output,hb.size,fun k hk _=>hb.block k hk⟩ (fun x hx=>by cases hx)
theorem KS.drew {B K:Nat} {st:Int} {b:Bk} {q:Bp} {u:World} (h:KS B K st b q u):KS B K st b q u.drew:=h.below (bR.drew)
theorem KS.al {B K:Nat} {st:Int} {b:Bk} {q:Bp} {u:World} (h:KS B K st b q u) (o:Obj):KS B K st b q (u.alloc o):=h.below (bR.alloc nL _)
theorem Em {u:World} {b1 n1 s1 K i:Nat} {t1 t2:TypeId} {v1 x:Value} {x1:List Value} (h1:u.ownsRow b1 t1 s1 v1 n1 x1) (h2:El u K t2) (ht:t1≠t2):(u.setCell ⟨K,i,none⟩ x).ownsRow b1 t1 s1 v1 n1 x1 :=
 h1.kept (An u K i x) (dB h1 h2 ht)
theorem KS.setSt {B K:Nat} {st:Int} {b:Bk} {q:Bp} {u:World} (h:KS B K st b q u) (s:Int):KS B K s b q (u.setCell ⟨K,0,none⟩ (.int .i32 s)) :=
 ⟨h.z.set0 _,h.kt.set _ _,Em h.off h.kt (by decide),Em h.az h.kt (by decide),Em h.cs h.kt (by decide),Em h.ls h.kt (by decide),Em h.log h.kt (by decide),h.hK⟩
theorem KS.setDay {B K:Nat} {st:Int} {b:Bk} {q:Bp} {u:World} (h:KS B K st b q u) (n:Int):KS B K st ⟨n,b.off,b.az,b.cs,b.ls,b.log⟩ q (u.setCell ⟨K,3,none⟩ (.int .i64 n)) :=
 ⟨h.z.set3 _,h.kt.set _ _,Em h.off h.kt (by decide),Em h.az h.kt (by decide),Em h.cs h.kt (by decide),Em h.ls h.kt (by decide),Em h.log h.kt (by decide),h.hK⟩
theorem KS.setA {B K:Nat} {st:Int} {b:Bk} {q:Bp} {u:World} (h:KS B K st b q u) {L:List Au} {a:Option Addr} {c m:Nat} (o:u.ownsRow m 107 6 (.slice a L.length c) L.length (Ah L)) (hm:B≤m) :
  KS B K st ⟨b.today,b.off,L,b.cs,b.ls,b.log⟩ ⟨q.o,q.oc,a,c,q.c,q.cc,q.l,q.lc,q.g,q.gc⟩ (u.setCell ⟨K,5,none⟩ (.slice a L.length c)) :=
 ⟨h.z.set5 _,h.kt.set _ _,Em h.off h.kt (by decide),Em (Ez o hm) h.kt (by decide),Em h.cs h.kt (by decide),Em h.ls h.kt (by decide),Em h.log h.kt (by decide),h.hK⟩
theorem KS.setL {B K:Nat} {st:Int} {b:Bk} {q:Bp} {u:World} (h:KS B K st b q u) {L:List Ln} {a:Option Addr} {c m:Nat} (o:u.ownsRow m 113 3 (.slice a L.length c) L.length (Ag L)) (hm:B≤m) :
  KS B K st ⟨b.today,b.off,b.az,b.cs,L,b.log⟩ ⟨q.o,q.oc,q.a,q.ac,q.c,q.cc,a,c,q.g,q.gc⟩ (u.setCell ⟨K,2,none⟩ (.slice a L.length c)) :=
 ⟨h.z.set2 _,h.kt.set _ _,Em h.off h.kt (by decide),Em h.az h.kt (by decide),Em h.cs h.kt (by decide),Em (Ez o hm) h.kt (by decide),Em h.log h.kt (by decide),h.hK⟩
theorem KS.setC {B K:Nat} {st:Int} {b:Bk} {q:Bp} {u u':World} (h:KS B K st b q u) (g:u.grownBy u' (Value.slice q.c b.cs.length q.cc).ownBlock) {L:List Cs} {a:Option Addr} {c:Nat} (o:u'.ownsRow B 61 12 (.slice a L.length c) L.length (Aj L)) :
  KS B K st ⟨b.today,b.off,b.az,L,b.ls,b.log⟩ ⟨q.o,q.oc,q.a,q.ac,a,c,q.l,q.lc,q.g,q.gc⟩ (u'.setCell ⟨K,6,none⟩ (.slice a L.length c)):=by
 have nK:=D8 h.cs h.kt (by decide)
 have kt:=h.kt.grown g nK
 exact ⟨(h.z.grown g nK).set6 _,kt.set _ _,Em (h.off.kept g (Bj h.off h.cs (by decide))) kt (by decide),Em (h.az.kept g (Bj h.az h.cs (by decide))) kt (by decide),Em o kt (by decide),Em (h.ls.kept g (Bj h.ls h.cs (by decide))) kt (by decide),Em (h.log.kept g (Bj h.log h.cs (by decide))) kt (by decide),h.hK⟩
theorem KS.setG {B K:Nat} {st:Int} {b:Bk} {q:Bp} {u u':World} (h:KS B K st b q u) (g:u.grownBy u' (Value.slice q.g b.log.length q.gc).ownBlock) {L:Be} {a:Option Addr} {c:Nat} (o:u'.ownsRow B 9 1 (.slice a L.length c) L.length (Am L)) :
  KS B K st ⟨b.today,b.off,b.az,b.cs,b.ls,L⟩ ⟨q.o,q.oc,q.a,q.ac,q.c,q.cc,q.l,q.lc,a,c⟩ (u'.setCell ⟨K,7,none⟩ (.slice a L.length c)):=by
 have nK:=D8 h.log h.kt (by decide)
 have kt:=h.kt.grown g nK
 exact ⟨(h.z.grown g nK).set7 _,kt.set _ _,Em (h.off.kept g (Bj h.off h.log (by decide))) kt (by decide),Em (h.az.kept g (Bj h.az h.log (by decide))) kt (by decide),Em (h.cs.kept g (Bj h.cs h.log (by decide))) kt (by decide),Em (h.ls.kept g (Bj h.ls h.log (by decide))) kt (by decide),Em o kt (by decide),h.hK⟩
def Rp (x:Int):Prop:=0≤x∧x<1000000000000000000
structure Rq (F:Ff) (E:World→Prop) (G:Nat):Prop where
 keep:∀ w w',E w→Below G w w'→E w'
 size:∀ w,E w→G≤w.heap.size
 num:∀ (l:List UInt8) (w:World),l.length≤1048576→Calls prog 275 #[.string ⟨l.toArray⟩] w fun e w'=>e=.returned (.int .i64 (Dr l))∧BW w w'
 dec:∀ (m:Nat) (w:World),m<1000000000000000000→E w→Calls prog 127 #[.int .i64 m] w fun e w'=>e=.returned (.string ⟨(Lib.decDigits m).toArray⟩)∧BW w w'
 clone:∀ (l:List UInt8) (w:World),l.length≤1048576→Calls prog 138 #[.string ⟨l.toArray⟩] w fun e w'=>e=.returned (.string ⟨l.toArray⟩)∧BW w w'
 split:∀ (l:List UInt8) (w:World),l.length≤1048576→E w→Calls prog 66 #[.string ⟨l.toArray⟩,.string ⟨#[32]⟩] w fun e w'=>∃ a,e=.returned (.slice a (Ab l).length (Ab l).length)∧Bh w' a (Ab l)∧BW w w'
 eFull:∀ w,E w→∃ t a,w.cell? ⟨1,0,none⟩=some (.iface t (.pointer (some a)))
 eLine:∀ w,E w→∃ t a,w.cell? ⟨3,0,none⟩=some (.iface t (.pointer (some a)))
 eDay:∀ w,E w→∃ t a,w.cell? ⟨4,0,none⟩=some (.iface t (.pointer (some a)))
 eAuth:∀ w,E w→∃ t a,w.cell? ⟨5,0,none⟩=some (.iface t (.pointer (some a)))
 eCases:∀ w,E w→∃ t a,w.cell? ⟨6,0,none⟩=some (.iface t (.pointer (some a)))
 eCase:∀ w,E w→∃ t a,w.cell? ⟨7,0,none⟩=some (.iface t (.pointer (some a)))
 eMoney:∀ w,E w→∃ t a,w.cell? ⟨8,0,none⟩=some (.iface t (.pointer (some a)))
 eAct:∀ w,E w→∃ t a,w.cell? ⟨9,0,none⟩=some (.iface t (.pointer (some a)))
 words:∀ w,E w→∀ k,k<10→w.cell? ⟨0,k,none⟩=some (.string ⟨(Al Dm k).toArray⟩)
 prune:∀ (ao:Option Addr) (cap:Nat) (az:List Au) (t:Int) (w:World),Ar w ao az→az.length≤1048576→(∀ a ∈ az,a.ref.length≤1048576)→Calls prog 207 #[.slice ao az.length cap,.int .i64 t] w (pA w (F.prune az t))
 use:∀ (ao:Option Addr) (cap:Nat) (az:List Au) (i:Int) (w:World),Ar w ao az→az.length≤1048576→(∀ a ∈ az,a.ref.length≤1048576)→Calls prog 212 #[.slice ao az.length cap,.int .i64 i] w (Pi w (F.use az i) (F.useOk az i))
 add:∀ (ao:Option Addr) (cap:Nat) (az:List Au) (a:Au) (w:World),Ar w ao az→az.length≤1048576→(∀ x ∈ az,x.ref.length≤1048576)→a.ref.length≤1048576→Rp a.cur→Calls prog 208 #[.slice ao az.length cap,Fe a] w (Pi w (F.add az a) (F.addOk az a))
 best:∀ (ao:Option Addr) (cap:Nat) (az:List Au) (iY uV am day:Int) (w:World),Ar w ao az→az.length≤1048576→(∀ a ∈ az,a.ref.length≤1048576)→(∀ a ∈ az,(Lit.int .i64 a.cur).wf=true)→(Lit.int .i64 am).wf=true→(Lit.int .i64 day).wf=true →
  Calls prog 209 #[.slice ao az.length cap,.int .i64 iY,.int .i64 uV,.int .i64 am,.int .i64 day] w fun e w'=>∃ x,e=.returned (.int .i64 x)∧F.best az iY uV am day x∧BW w w'
 start:∀ (iY aZ uV am day:Int) (w:World),Rp uV→Calls prog 210 #[.int .i64 iY,.int .i64 aZ,.int .i64 uV,.int .i64 am,.int .i64 day] w fun e w'=>∃ ao cap,e=.returned (.tuple #[cv (F.stC iY aZ uV am day),.slice ao (F.stE iY aZ uV am day).length cap,.bool (F.stOk iY aZ uV am day)])∧w'.ownsRow w.heap.size 269 4 (.slice ao (F.stE iY aZ uV am day).length cap) (F.stE iY aZ uV am day).length (Ba (F.stE iY aZ uV am day))∧BW w w'
 small:∀ iY aZ uV am day,(F.stE iY aZ uV am day).length≤1048576∧(Rp iY→Rp aZ→Rp uV→Rp am→∀ x ∈ F.stE iY aZ uV am day,Ma x)
 act:∀ (c:Cs) (a:Ac) (t:Int) (ao:Option Addr) (cp:Nat) (zs:List Int) (w:World),Aw w ao zs→zs.length≤1048576→E w→Qk c→Calls prog 214 #[cv c,av a,.int .i64 t,.slice ao zs.length cp] w fun e w'=>∃ ao cap,e=.returned (.tuple #[cv (F.doC c a t zs),.slice ao (F.doE c a t zs).length cap,.int .i64 (F.doV c a t zs)])∧w'.ownsRow w.heap.size 269 4 (.slice ao (F.doE c a t zs).length cap) (F.doE c a t zs).length (Ba (F.doE c a t zs))∧BW w w'
 few:∀ c a t zs,(F.doE c a t zs).length≤1048576∧(Qk c→Rp a.am→∀ x ∈ F.doE c a t zs,Ma x)
 low:∀ az i c a d x,F.best az i c a d x→-1≤x
 stay:∀ ls es,F.allOk ls es=false→F.all ls es=ls
 code:∀ c a t zs,0≤F.doV c a t zs∧F.doV c a t zs≤1000
 post:∀ (ao:Option Addr) (cap:Nat) (ls:List Ln) (eo:Option Addr) (ec:Nat) (es:List En) (w:World),Ai w ao ls→ls.length≤1048576→(∀ x ∈ ls,Hw x)→C8 w eo es→es.length≤1048576→(∀ x ∈ es,Ma x) →
  Calls prog 255 #[.agg #[.slice ao ls.length cap],.slice eo es.length ec] w fun e w'=>∃ ao cap,e=.returned (.tuple #[.agg #[.slice ao (F.all ls es).length cap],.bool (F.allOk ls es)])∧w'.ownsRow w.heap.size 113 3 (.slice ao (F.all ls es).length cap) (F.all ls es).length (Ag (F.all ls es))∧BW w w'
theorem Rq.grow {F:Ff} {E:World→Prop} {G:Nat} (K:Rq F E G) {w w':World} (h:E w) (hb:BW w w'):E w':=K.keep w w' h (hb.mono (K.size w h))
def Qv (s:List UInt8):Int:=if 0≤Ae s then Ae s else 0
theorem jJ {s:List UInt8} (h:Dr s<0):Ae s = -1:=by
 unfold Ae
 split
 ·rfl
 ·rw [if_pos (.inl h)]
theorem pB {s:List UInt8} (h:Lib.decDigits (Dr s).toNat≠s):Ae s = -1:=by
 unfold Ae
 split
 ·rfl
 ·rw [if_pos (.inr h)]
theorem qW (m:Nat):Lib.decDigits m≠[]:=by
 intro h;rw [Lib.decDigits] at h
 split at h <;> simp at h
theorem Oc {a b:Int} {p q:Bool} (h1:a=b) (h2:p=q):Ending.returned (.tuple #[.int .i64 a,.bool p])=.returned (.tuple #[.int .i64 b,.bool q]):=by rw [h1,h2]
theorem Xv {s:List UInt8} (h:Ae s = -1):Qv s=0∧decide (0≤Ae s)=false:=by
 unfold Qv;rw [h]
 exact ⟨by simp,by simp⟩
theorem dY {F:Ff} {E:World→Prop} {G:Nat} (K:Rq F E G) (s:List UInt8) (w:World) (hl:s.length≤1048576) (hE:E w) :
  Calls prog 246 #[.string ⟨s.toArray⟩] w fun e w'=>e=.returned (.tuple #[.int .i64 (Qv s),.bool (decide (0≤Ae s))])∧BW w w':=by
 have HN:Hid (∀ u,Calls prog 275 #[.string ⟨s.toArray⟩] u fun e w'=>e=.returned (.int .i64 (Dr s))∧BW u w'):=fun u=>K.num s u hl
 have hbd:=Qj s
 by_cases h2:Dr s<0
 ·obtain ⟨e1,e2⟩:=Xv (jJ h2)
  have HE:Hid (Qv s=0∧decide (0≤Ae s)=false):=⟨e1,e2⟩;obtain ⟨n,hn⟩:∃ n,Dr s=n:=⟨_,rfl⟩;rw [hn] at HN h2 hbd;clear hn e1 e2
  go_enter func246,ntmps246
  go_wp2_with (go_at_call 275;refine (HN.o _).mono ?_;rintro e w' ⟨rfl,b1⟩)
  go_ret2;exact ⟨Oc HE.o.1.symm HE.o.2.symm,b1⟩
 obtain ⟨m,hm⟩:=Int.eq_ofNat_of_zero_le (show 0≤Dr s by omega)
 have HD:Hid (∀ u,E u→Calls prog 127 #[.int .i64 (m:Int)] u fun e w'=>e=.returned (.string ⟨(Lib.decDigits m).toArray⟩)∧BW u w'):=fun u h=>K.dec m u (by omega) h
 have HG:Hid (∀ u,BW w u→E u):=fun u h=>K.grow hE h
 by_cases h1:15<s.length
 ·have h1':(15:Int)<(s.length:Int):=by omega
  obtain ⟨e1,e2⟩:=Xv (jY h1);have HE:Hid (Qv s=0∧decide (0≤Ae s)=false):=⟨e1,e2⟩;rw [hm] at HN h2 hbd
  have hmm:¬ (m:Int)<0:=by omega
  clear hm e1 e2 h1
  go_enter func246,ntmps246
  go_wp2_with (go_at_call 275;refine (HN.o _).mono ?_;rintro e w' ⟨rfl,b1⟩)
  go_ret2;exact ⟨Oc HE.o.1.symm HE.o.2.symm,b1⟩
 have h1':¬ (15:Int)<(s.length:Int):=by omega
 by_cases h3:Lib.decDigits m=s
 ·have h0:s≠[]:=fun e=>qW m (h3.trans e)
  have hW:Ae s=(m:Int):=by rw [kY h0 h1 h2 (by rw [hm];exact h3),hm]
  have HE:Hid (Qv s=(m:Int)∧decide (0≤Ae s)=true):=by
   unfold Qv;rw [hW]
   exact ⟨if_pos (by omega),decide_eq_true (by omega)⟩
  rw [hm] at HN h2 hbd;rw [h3] at HD
  have hmm:¬ (m:Int)<0:=by omega
  clear h1 h3 hW h0 hm
  go_enter func246,ntmps246
  go_wp2_with (first | (go_at_call 275;refine (HN.o _).mono ?_;rintro e w' ⟨rfl,b1⟩) | (go_at_call 127;refine (HD.o _ (HG.o _ b1)).mono ?_;rintro e w2 ⟨rfl,b2⟩))
  go_ret2;exact ⟨Oc HE.o.1.symm HE.o.2.symm,next b1 b2⟩
 ·obtain ⟨e1,e2⟩:=Xv (pB (s:=s) (by rw [hm];exact h3))
  have HE:Hid (Qv s=0∧decide (0≤Ae s)=false):=⟨e1,e2⟩;rw [hm] at HN h2 hbd;obtain ⟨D,hD⟩:∃ D,Lib.decDigits m=D:=⟨_,rfl⟩;rw [hD] at HD h3
  have hds:(D == s)=false:=by simpa using h3
  have hmm:¬ (m:Int)<0:=by omega
  clear h1 hD hm e1 e2
  go_enter func246,ntmps246
  go_wp2_with (first | (go_at_call 275;refine (HN.o _).mono ?_;rintro e w' ⟨rfl,b1⟩) | (go_at_call 127;refine (HD.o _ (HG.o _ b1)).mono ?_;rintro e w2 ⟨rfl,b2⟩))
  go_ret2;exact ⟨Oc HE.o.1.symm HE.o.2.symm,next b1 b2⟩
theorem Ks {F:Ff} {E:World→Prop} {G:Nat} (K:Rq F E G) (ao:Option Addr) (cap:Nat) (rs:Be) (w:World) (hz:Bh w ao rs) (hn:rs.length≤1048576) (hd:∀ r ∈ rs,r.length≤1048576) (hE:E w) :
  Calls prog 206 #[.slice ao rs.length cap] w fun e w'=>∃ a k,e=.returned (.tuple #[.slice a (A7 rs).length k,.bool (Ap rs)])∧w'.ownsRow w.heap.size 3 1 (.slice a (A7 rs).length k) (A7 rs).length ((A7 rs).map (Value.int .i64))∧BW w w':=by
 obtain ⟨i0,hi,hz0,hz1,hz2⟩:=info_parts mG;have HX:Hid (Bh w ao rs):=hz
 have HD:Hid (∀ k,k<rs.length→(Al rs k).length≤1048576):=fun k hk=>hd _ (F7 hk)
 have HG:Hid (∀ u,BW w u→E u):=fun u h=>K.grow hE h
 have HK:Hid (Rq F E G):=K;clear hz hd hE K
 go_enter func206,ntmps206
 go_wp2
 go_loopw [4,11] (fun s i wr=>∃ (v:Value) (k:Nat),v=s∧k≤rs.length∧i=.int .i64 (k:Int)∧(∀ j,j<k→0≤Ae (Al rs j))∧wr.ownsRow w.heap.size 3 1 v ((rs.take k).map Ae).length (((rs.take k).map Ae).map (Value.int .i64))∧BW w wr) (fun _ i _=>rs.length - (intOf i).toNat)
 case atStart=>exact ⟨_,0,rfl,Nat.zero_le _,rfl,fun j hj=>absurd hj (Nat.not_lt_zero _),World.ownsRow_nil _ _ _ _,bR⟩
 case round =>
  obtain ⟨v,k,hvs,hk,rfl,hall,hown,hbr⟩:=hrel;subst hvs;have HBR:Hid (BW w wr):=hbr;have HALL:Hid (∀ j,j<k→0≤Ae (Al rs j)):=hall;have HSZ:Hid (w.heap.size≤wr.heap.size):=hbr.size
  have HLT:Hid (∀ j,v.ownBlock=some j→w.heap.size≤j):=fun j hj=>(hown.lt j hj).1
  have hml:((rs.take k).map Ae).length≤1048576:=by simp;omega
  by_cases hlt:k<rs.length
  ·have hki:(k:Int)<(rs.length:Int):=by omega
   obtain ⟨gb,off,rfl,hgb,hcell⟩:∃ gb off,ao=some ⟨gb,off,none⟩∧gb<wr.heap.size∧wr.cell? ⟨gb,off+k,none⟩=some (.string ⟨(Al rs k).toArray⟩):=by
    rcases HX.o.below hbr with h | ⟨gb,off,h1,h2,h3⟩
    ·rw [h] at hlt;simp at hlt
    ·exact ⟨gb,off,h1,h2,h3 k hlt⟩
   have HNX:Hid _:=Tm rs k hlt;have hrl:=HD.o k hlt;have HNO:Hid _:=@S0 rs k hlt
   have HNM:Hid (∀ u,BW w u→Calls prog 246 #[.string ⟨(Al rs k).toArray⟩] u fun e w'=>e=.returned (.tuple #[.int .i64 (Qv (Al rs k)),.bool (decide (0≤Ae (Al rs k)))])∧BW u w'):=fun u h=>dY HK.o _ u hrl (HG.o u h)
   have HAL2:Hid (0≤Ae (Al rs k)→∀ j,j<k+1→0≤Ae (Al rs j)):=fun h j hj=>by
    rcases (show j<k∨j=k by omega) with hj | rfl
    ·exact HALL.o j hj
    ·exact h
   have HPN:Hid (0≤Ae (Al rs k)→Qv (Al rs k)=Ae (Al rs k)):=fun h=>if_pos h
   obtain ⟨L,hL⟩:∃ L,(rs.take k).map Ae=L:=⟨_,rfl⟩;rw [hL] at HNX hown hml;obtain ⟨y,hy⟩:∃ y,Qv (Al rs k)=y:=⟨_,rfl⟩;rw [hy] at HNM HPN;obtain ⟨x,hx⟩:∃ x,Ae (Al rs k)=x:=⟨_,rfl⟩;rw [hx] at HNX HNM HNO HAL2 HPN;obtain ⟨r,hr⟩:∃ r,Al rs k=r:=⟨_,rfl⟩;rw [hr] at hcell HNM hrl;have HO:Hid (wr.ownsRow w.heap.size 3 1 v L.length (L.map (Value.int .i64))):=hown;clear hL hx hr hy hown hbr hall
   by_cases hxn:x<0
   ·have HE:Hid (Ap rs=false):=HNO.o hxn
    have HE2:Hid (A7 rs=[]):=if_neg (by rw [HE.o];decide)
    have hdx:decide (0≤x)=false:=decide_eq_false (by omega)
    rw [hdx] at HNM;clear hdx
    go_wp2_with (go_at_call 246;refine (HNM.o _ HBR.o).mono ?_;rintro e w' ⟨rfl,b1⟩)
    have HB1:Hid (BW w w'):=next HBR.o b1;clear b1;go_ret2;rw [HE.o,HE2.o];exact ⟨_,_,rfl,World.ownsRow_nil _ _ _ _,HB1.o⟩
   ·have hdx:decide (0≤x)=true:=decide_eq_true (by omega)
    rw [hdx] at HNM
    have HYX:Hid (y=x):=HPN.o (by omega)
    clear hdx;go_wp2_with fail
    refine (HNM.o _ HBR.o).mono ?_;rintro e w1 ⟨rfl,b1⟩;have HB1:Hid (BW w w1):=next HBR.o b1;have HO1:Hid (w1.ownsRow w.heap.size 3 1 v L.length (L.map (Value.int .i64))):=Av HO.o b1;have HS1:Hid (w.heap.size≤w1.heap.size):=HB1.o.size;rw [HYX.o];clear b1 hcell
    go_wp2_with (at_builtin;refine wpList_append_own _ rfl (.tmp 22) (.tmp 24) 22 rfl w.heap.size 3 i0 (.int .i64 0) 1 8 underlying22 hi hz0 hz1 hz2 rfl (by decide) _ _ _ rfl (HO1.o.alloc _) ⟨w1.heap.size,0,none⟩ 1 1 [.int .i64 x] rfl rfl (World.news_of_block (heap_alloc_new w1 _)) (cJ _) (by unfold maxLen;omega) (by omega) (by simp;have:=HS1.o;omega) ?_;intro v5 w5 o5 g5 _)
    have q5:BW w w5:=(HB1.o.alloc (by have:=HS1.o;omega) _).grown g5 (by have:=HS1.o;simp;omega) HLT.o
    have HR5:Hid (w5.ownsRow w.heap.size 3 1 v5 ((rs.take (k+1)).map Ae).length (((rs.take (k+1)).map Ae).map (Value.int .i64))):=by
     rw [Hid,HNX.o,List.length_append,List.map_append];exact o5
    clear o5 g5;go_wp2
    go_roundw
    case rel=>exact ⟨_,k+1,rfl,by omega,by go_num,HAL2.o (by omega),HR5.o,q5⟩
    case measure=>simp [intOf];omega
  ·have hke:k=rs.length:=by omega
   subst hke
   have hki:¬ (rs.length:Int)<(rs.length:Int):=by omega
   have HE:Hid (Ap rs=true):=Qe HALL.o;have HE2:Hid (A7 rs=rs.map Ae):=if_pos HE.o;rw [List.take_length] at hown;obtain ⟨L,hL⟩:∃ L,rs.map Ae=L:=⟨_,rfl⟩;rw [hL] at hown HE2;clear hL hml;obtain ⟨va,vk,hva⟩:=Fz hown;subst hva;have HO:Hid _:=hown;clear hbr hown hall;go_wp2;go_ret2;rw [HE.o,HE2.o];exact ⟨_,_,rfl,HO.o,HBR.o⟩
def aL:List Nat:=[3,4,5,6,7,8,9]
def NF (E:World→Prop) (y:Value):Prop:=∃ w g,E w∧g ∈ aL∧w.cell? ⟨g,0,none⟩=some y
def sQ (E:World→Prop) (code:Int) (v:Value):Prop:=(code=0∧v=.nilIface)∨(code≠0∧∃ y,NF E y∧v=.iface 170 (.agg #[y,.int .i64 code]))
def Wz (E:World→Prop) (B K:Nat) (w:World) (r:Bk×Int) (e:Ending) (w':World):Prop:=∃ q v,e=.returned v∧sQ E r.2 v∧KS B K 1 r.1 q w'∧Ce B w w'
theorem Et {E:World→Prop} {B K:Nat} {w w':World} {b:Bk} {q:Bp} {c:Int} {y:Value} (hy:NF E y) (hc:c≠0) (k:KS B K 1 b q w') (hb:Ce B w w'):Wz E B K w (b,c) (.returned (.iface 170 (.agg #[y,.int .i64 c]))) w' :=
 ⟨q,_,rfl,.inr ⟨hc,y,hy,rfl⟩,k,hb⟩
theorem Uv {E:World→Prop} {B K:Nat} {w w':World} {b:Bk} {q:Bp} (k:KS B K 1 b q w') (hb:Ce B w w'):Wz E B K w (b,0) (.returned .nilIface) w':=⟨q,_,rfl,.inl ⟨rfl,rfl⟩,k,hb⟩
structure Ej (b:Bk):Prop where
 sm:D0 b
 ref:∀ a ∈ b.az,a.ref.length≤1048576
 cur:∀ a ∈ b.az,(Lit.int .i64 a.cur).wf=true
 cc:∀ c ∈ b.cs,Qk c
 lb:∀ x ∈ b.ls,Hw x
 day:(Lit.int .i64 b.today).wf=true
def N8 (F:Ff) (b:Bk) (rs:Be):Bk×Int:=if Ap rs=true∧rs.length=1 then Fr F b (Ae (Al rs 0)) else (b,1)
theorem KS.lt {B K:Nat} {st:Int} {b:Bk} {q:Bp} {u:World} (h:KS B K st b q u):B≤u.heap.size:=by have:=h.z.lt;have:=h.hK;omega
theorem lF {F:Ff} {E:World→Prop} {G B K:Nat} (KI:Rq F E G) (b:Bk) (q:Bp) (ao:Option Addr) (cap:Nat) (rs:Be) (w:World) (hk:KS B K 1 b q w) (hE:E w) (hP:Ej b) (hz:Bh w ao rs) (hn:rs.length≤1048576) (hd:∀ r ∈ rs,r.length≤1048576) :
  Calls prog 172 #[.pointer (some ⟨K,0,none⟩),.slice ao rs.length cap] w (Wz E B K w (N8 F b rs)):=by
 have HNS:Hid (Calls prog 206 #[.slice ao rs.length cap] w fun e w'=>∃ a k,e=.returned (.tuple #[.slice a (A7 rs).length k,.bool (Ap rs)])∧w'.ownsRow w.heap.size 3 1 (.slice a (A7 rs).length k) (A7 rs).length ((A7 rs).map (Value.int .i64))∧BW w w'):=Ks KI ao cap rs w hz hn hd hE
 have HB0:Hid (B≤w.heap.size):=hk.lt;have HK0:Hid (KS B K 1 b q w):=hk;have HE0:Hid (E w):=hE;have HPR:Hid (Ej b):=hP;have HKI:Hid (Rq F E G):=KI;clear hz hd hk hE hP KI
 by_cases hok:Ap rs=true∧rs.length=1
 ·obtain ⟨h1,h2⟩:=hok
  obtain ⟨r0,hr0⟩:∃ r0,rs=[r0]:=by
   match rs,h2 with
   | [r],_=>exact ⟨r,rfl⟩
  have hv:A7 rs=[Ae r0]:=by rw [A7,if_pos h1,hr0];rfl
  have HR:Hid (N8 F b rs=Fr F b (Ae r0)):=by rw [Hid,N8,if_pos ⟨h1,h2⟩,hr0];rfl
  rw [hv,h1] at HNS;rw [HR.o];have hbd:=Ib r0;obtain ⟨n,hnn⟩:∃ n,Ae r0=n:=⟨_,rfl⟩;rw [hnn] at HNS hbd ⊢
  simp only [List.length_singleton,List.map_cons,List.map_nil] at HNS
  clear hv hnn HR h1 hr0 h2
  go_enter func172,ntmps172
  go_wp2_with fail
  refine Calls.mono HNS.o ?_;rintro e w1 ⟨a,k,rfl,o1,b1⟩
  obtain ⟨g,rfl,-,-⟩:=Hf o1 (by omega)
  have hcell:w1.cell? ⟨g,0,none⟩=some (.int .i64 n):=by simpa using o1.cellAt 0 (by omega)
  have HK1:Hid (KS B K 1 b q w1):=HK0.o.below b1;have HB1:Hid (Ce B w w1):=.of b1 HB0.o;have HE1:Hid (E w1):=HKI.o.grow HE0.o b1;clear o1 b1 HNS
  have HDO:Hid (∀ u,Calls prog 99 #[.int .i64 n] u fun e w'=>e=.returned (.bool (Dn n))∧w'=u):=fun u=>Bm n u
  obtain ⟨c0,c1,c2,c3,c4,c5,c6,c7,z0,z1,z2,z3,z4,z5,z6,z7⟩:=HK1.o.z;obtain ⟨et,ea,hee⟩:=HKI.o.eDay w1 HE1.o
  have HYY:Hid (NF E (.iface et (.pointer (some ea)))):=⟨w1,4,HE1.o,by decide,hee⟩
  by_cases hdy:Dn n=true
  ·rw [hdy] at HDO
   by_cases hlt:b.today<n
   ·have hle:¬ n≤b.today:=by omega
    have HDB:Hid _:=cA F hdy hlt;clear hdy hee
    go_upto_region 8 with (go_at_call 99;refine (HDO.o _).mono ?_;rintro e w' ⟨rfl,hw'⟩;replace hw':=hw'.symm;subst hw')
    obtain ⟨W,hW⟩:∃ W,W=w1.setCell ⟨K,3,none⟩ (.int .i64 n):=⟨_,rfl⟩;rw [← hW]
    have HK2:Hid (KS B K 1 ⟨n,b.off,b.az,b.cs,b.ls,b.log⟩ q W):=by rw [hW];exact HK1.o.setDay n
    have HB2:Hid (Ce B w W):=by rw [hW];exact HB1.o.setK HK1.o.kt HK1.o.hK
    clear hW c0 c1 c2 c3 c4 c5 c6 c7 z0 z1 z2 z3 z4 z5 z6 z7 hcell;obtain ⟨c0,c1,c2,c3,c4,c5,c6,c7,z0,z1,z2,z3,z4,z5,z6,z7⟩:=HK2.o.z;go_wp2_with fail
    refine Calls.mono (HKI.o.prune q.a q.ac b.az n W HK2.o.at.az HPR.o.sm.2.1 HPR.o.ref) ?_;rintro e w3 ⟨a3,k3,rfl,o3,b3⟩;have HBW:Hid (B≤W.heap.size):=HK2.o.lt;have HK3:Hid _:=(HK2.o.below b3).setA o3 HBW.o;have HB3:Hid (Ce B w (w3.setCell ⟨K,5,none⟩ (.slice a3 (F.prune b.az n).length k3))):=(HB2.o.trans (.of b3 HBW.o)).setK (HK2.o.below b3).kt HK1.o.hK;have z5':=(HK2.o.below b3).z.z5;have c5':=(HK2.o.below b3).z.c5;clear o3 b3 c0 c1 c2 c3 c4 c5 c6 c7 z0 z1 z2 z3 z4 z5 z6 z7;go_wp2;go_ret;rw [HDB.o];exact Uv HK3.o HB3.o
   ·have hle:n≤b.today:=by omega
    have HDB:Hid _:=cS F hlt;clear hdy
    go_wp2_with (go_at_call 99;refine (HDO.o _).mono ?_;rintro e w' ⟨rfl,hw'⟩;replace hw':=hw'.symm;subst hw')
    go_ret;rw [HDB.o]
    exact Et HYY.o (by decide) HK1.o HB1.o
  ·have hdf:Dn n=false:=by simpa using hdy
   rw [hdf] at HDO;have HDB:Hid _:=bH F b hdf;clear hdy hdf
   go_wp2_with (go_at_call 99;refine (HDO.o _).mono ?_;rintro e w' ⟨rfl,hw'⟩;replace hw':=hw'.symm;subst hw')
   go_ret;rw [HDB.o]
   exact Et HYY.o (by decide) HK1.o HB1.o
 ·have HR:Hid (N8 F b rs=(b,1)):=if_neg hok
  have hne:Ap rs=true→¬ (A7 rs).length=1:=fun h1 h2=>hok ⟨h1,by rw [A7,if_pos h1] at h2;simpa using h2⟩
  rw [HR.o]
  have hln:(A7 rs).length≤1048576:=by unfold A7;split <;> simp;omega
  obtain ⟨L,hL⟩:∃ L,A7 rs=L:=⟨_,rfl⟩;rw [hL] at HNS hne hln;obtain ⟨ok,hok2⟩:∃ x,Ap rs=x:=⟨_,rfl⟩;rw [hok2] at HNS hne;clear hL hok2 hok HR
  go_enter func172,ntmps172
  go_wp2_with fail
  refine Calls.mono HNS.o ?_;rintro e w1 ⟨a,k,rfl,o1,b1⟩;have HK1:Hid (KS B K 1 b q w1):=HK0.o.below b1;have HB1:Hid (Ce B w w1):=.of b1 HB0.o;obtain ⟨et,ea,hee⟩:=HKI.o.eLine w1 (HKI.o.grow HE0.o b1)
  have HYY:Hid (NF E (.iface et (.pointer (some ea)))):=⟨w1,3,(HKI.o.grow HE0.o b1),by decide,hee⟩
  clear o1 b1 HNS
  cases ok
  ·clear hne
   go_wp2;go_ret
   exact Et HYY.o (by decide) HK1.o HB1.o
  ·have hl1:((L.length:Int) == 1)=false:=by
     have:=hne rfl
     simp;omega
   clear hne;go_wp2;go_ret
   exact Et HYY.o (by decide) HK1.o HB1.o
def Gt (F:Ff) (b:Bk) (rs:Be):Bk×Int :=
 if rs.length=4∧Al rs 0≠[]∧Ap (rs.drop 1)=true then Fq F b (Al rs 0) (Ae (Al rs 1)) (Ae (Al rs 2)) (Ae (Al rs 3)) else (b,1)
theorem kK (F:Ff) {b:Bk} {ref:List UInt8} {n0 n1 n2:Int} (h:F.addOk b.az ⟨ref,n0,n1,n2,b.today,false⟩=true):Fq F b ref n0 n1 n2=(⟨b.today,b.off,F.add b.az ⟨ref,n0,n1,n2,b.today,false⟩,b.cs,b.ls,b.log⟩,0):=if_pos h
theorem bZ (F:Ff) {b:Bk} {ref:List UInt8} {n0 n1 n2:Int} (h:F.addOk b.az ⟨ref,n0,n1,n2,b.today,false⟩=false):Fq F b ref n0 n1 n2=(b,3):=if_neg (by rw [h];decide)
theorem nP {α:Type} {rs:List α} (h:rs.length=4):∃ a b c d,rs=[a,b,c,d]:=by
 match rs,h with
 | [a,b,c,d],_=>exact ⟨a,b,c,d,rfl⟩
theorem pV {w:World} {ao:Option Addr} {a b c d:List UInt8} (h:Bh w ao [a,b,c,d]):∃ g off,ao=some ⟨g,off,none⟩∧g<w.heap.size∧w.cell? ⟨g,off,none⟩=some (.string ⟨a.toArray⟩)∧w.cell? ⟨g,off+1,none⟩=some (.string ⟨b.toArray⟩)∧w.cell? ⟨g,off+2,none⟩=some (.string ⟨c.toArray⟩)∧w.cell? ⟨g,off+3,none⟩=some (.string ⟨d.toArray⟩):=by
 rcases h with h | ⟨g,off,h1,h2,h3⟩
 ·cases h
 ·exact ⟨g,off,h1,h2,h3 0 (by simp),h3 1 (by simp),h3 2 (by simp),h3 3 (by simp)⟩
theorem pY {w:World} {g off:Nat} {b c d:List UInt8} (hg:g<w.heap.size) (h1:w.cell? ⟨g,off,none⟩=some (.string ⟨b.toArray⟩)) (h2:w.cell? ⟨g,off+1,none⟩=some (.string ⟨c.toArray⟩)) (h3:w.cell? ⟨g,off+2,none⟩=some (.string ⟨d.toArray⟩)):Bh w (some ⟨g,off,none⟩) [b,c,d] :=
 .inr ⟨g,off,rfl,hg,fun i hi=>by
  rcases (show i=0∨i=1∨i=2 by simp at hi;omega) with rfl | rfl | rfl
  ·exact h1
  ·exact h2
  ·exact h3⟩
theorem eM {F:Ff} {E:World→Prop} {G B K:Nat} (KI:Rq F E G) (b:Bk) (q:Bp) (ao:Option Addr) (cap:Nat) (rs:Be) (w:World) (hk:KS B K 1 b q w) (hE:E w) (hP:Ej b) (hz:Bh w ao rs) (hcap:rs.length≤cap) (hcm:cap≤1048577) (hd:∀ r ∈ rs,r.length≤1048576) :
  Calls prog 173 #[.pointer (some ⟨K,0,none⟩),.slice ao rs.length cap] w (Wz E B K w (Gt F b rs)):=by
 have HB0:Hid (B≤w.heap.size):=hk.lt;have HK0:Hid (KS B K 1 b q w):=hk;have HE0:Hid (E w):=hE;have HPR:Hid (Ej b):=hP;have HKI:Hid (Rq F E G):=KI;obtain ⟨et,ea,hee⟩:=KI.eLine w hE
 have HYY:Hid (NF E (.iface et (.pointer (some ea)))):=⟨w,3,hE,by decide,hee⟩
 have HBR:Hid (Ce B w w):=.refl _ _
 by_cases hl4:rs.length=4
 ·obtain ⟨r0,r1,r2,r3,hrs⟩:=nP hl4
  have d0:=hd r0 (by rw [hrs];simp)
  have d1:=hd r1 (by rw [hrs];simp)
  have d2:=hd r2 (by rw [hrs];simp)
  have d3:=hd r3 (by rw [hrs];simp)
  rw [hrs] at hz;obtain ⟨g,off,rfl,hg,t0,t1,t2,t3⟩:=pV hz;rw [hrs] at hcap ⊢
  simp only [List.length_cons,List.length_nil] at hcap
  clear hd hz hl4 hk hE hP KI hrs
  by_cases hr0:r0=[]
  ·have HR:Hid (Gt F b [r0,r1,r2,r3]=(b,1)):=if_neg (by rintro ⟨_,h,_⟩;exact h hr0)
   rw [HR.o];subst hr0;clear HR
   go_enter func173,ntmps173
   go_wp2;go_ret
   exact Et HYY.o (by decide) HK0.o HBR.o
  ·have hrb:(r0 == [])=false:=by simpa using hr0
   have HNS:Hid (Calls prog 206 #[.slice (some ⟨g,off+1,none⟩) 3 (cap - 1)] w fun e w'=>∃ a k,e=.returned (.tuple #[.slice a (A7 [r1,r2,r3]).length k,.bool (Ap [r1,r2,r3])])∧w'.ownsRow w.heap.size 3 1 (.slice a (A7 [r1,r2,r3]).length k) (A7 [r1,r2,r3]).length ((A7 [r1,r2,r3]).map (Value.int .i64))∧BW w w') :=
    Ks HKI.o (some ⟨g,off+1,none⟩) (cap - 1) [r1,r2,r3] w (pY hg t1 t2 t3) (by simp) (by
     intro r hr
     simp at hr
     rcases hr with rfl | rfl | rfl <;> assumption) HE0.o
   have HRR:Hid (Gt F b [r0,r1,r2,r3]=if Ap [r1,r2,r3]=true then Fq F b r0 (Ae r1) (Ae r2) (Ae r3) else (b,1)):=by
    rw [Hid,Gt]
    by_cases h:Ap [r1,r2,r3]=true
    ·rw [if_pos ⟨rfl,hr0,h⟩,if_pos h];rfl
    ·rw [if_neg (fun e=>h e.2.2),if_neg h]
   rw [HRR.o];clear HRR hr0
   by_cases hok:Ap [r1,r2,r3]=true
   ·have hv:A7 [r1,r2,r3]=[Ae r1,Ae r2,Ae r3]:=if_pos hok
    have b1':=Ib r1;have b2':=Ib r2;have b3':=Ib r3
    have hn2:0≤Ae r2:=by
     have:=List.all_eq_true.1 hok r2 (by simp)
     simpa using this
    rw [hv,hok] at HNS;rw [if_pos hok];obtain ⟨n1,e1⟩:∃ n,Ae r1=n:=⟨_,rfl⟩;obtain ⟨n2,e2⟩:∃ n,Ae r2=n:=⟨_,rfl⟩;obtain ⟨n3,e3⟩:∃ n,Ae r3=n:=⟨_,rfl⟩;rw [e1] at HNS b1' ⊢;rw [e2] at HNS b2' hn2 ⊢;rw [e3] at HNS b3' ⊢
    simp only [List.length_cons,List.length_nil,List.map_cons,List.map_nil] at HNS
    clear hv e1 e2 e3 hok hee
    go_enter func173,ntmps173
    go_wp2_with fail
    refine Calls.mono HNS.o ?_;rintro e w1 ⟨a,k,rfl,o1,p1⟩
    obtain ⟨g1,rfl,-,-⟩:=Hf o1 (by omega)
    have m0:w1.cell? ⟨g1,0,none⟩=some (.int .i64 n1):=by simpa using o1.cellAt 0 (by omega)
    have m1:w1.cell? ⟨g1,1,none⟩=some (.int .i64 n2):=by simpa using o1.cellAt 1 (by omega)
    have m2:w1.cell? ⟨g1,2,none⟩=some (.int .i64 n3):=by simpa using o1.cellAt 2 (by omega)
    have s0:w1.cell? ⟨g,off,none⟩=some (.string ⟨r0.toArray⟩):=(p1.cell (p:=⟨g,off,none⟩) hg).trans t0;have HK1:Hid (KS B K 1 b q w1):=HK0.o.below p1;have HB1:Hid (Ce B w w1):=.of p1 HB0.o;have HE1:Hid (E w1):=HKI.o.grow HE0.o p1;have hz:=HK1.o.z;have lK:=hz.lt
    have HS:Hid (∀ u,BW w1 u→u.cell? ⟨K,3,none⟩=some (.int .i64 b.today)∧u.cell? ⟨K,5,none⟩=some (.slice q.a b.az.length q.ac)∧u.cell? ⟨g,off,none⟩=some (.string ⟨r0.toArray⟩)∧u.cell? ⟨g1,0,none⟩=some (.int .i64 n1)∧u.cell? ⟨g1,1,none⟩=some (.int .i64 n2)∧u.cell? ⟨g1,2,none⟩=some (.int .i64 n3)):=fun u h=>by
     have l1:=World.block_lt_of_cell? w1 _ m0;have l2:=World.block_lt_of_cell? w1 _ s0;exact ⟨(h.cell (p:=⟨K,3,none⟩) lK).trans hz.c3,(h.cell (p:=⟨K,5,none⟩) lK).trans hz.c5,(h.cell (p:=⟨g,off,none⟩) l2).trans s0,(h.cell (p:=⟨g1,0,none⟩) l1).trans m0,(h.cell (p:=⟨g1,1,none⟩) l1).trans m1,(h.cell (p:=⟨g1,2,none⟩) l1).trans m2⟩
    have HAD:Hid (∀ u,BW w1 u→Calls prog 208 #[.slice q.a b.az.length q.ac,.agg #[.string ⟨r0.toArray⟩,.int .i64 n1,.int .i64 n2,.int .i64 n3,.int .i64 b.today,.bool false]] u (Pi u (F.add b.az ⟨r0,n1,n2,n3,b.today,false⟩) (F.addOk b.az ⟨r0,n1,n2,n3,b.today,false⟩))):=fun u h =>
     HKI.o.add q.a q.ac b.az ⟨r0,n1,n2,n3,b.today,false⟩ u (HK1.o.below h).at.az HPR.o.sm.2.1 HPR.o.ref d0 ⟨hn2,b2'.2⟩
    have k0:BW w1 w1:=bR;have HY:Hid _:=@kK F b r0 n1 n2 n3;have HNO:Hid _:=@bZ F b r0 n1 n2 n3;obtain ⟨L,hL⟩:∃ L,F.add b.az ⟨r0,n1,n2,n3,b.today,false⟩=L:=⟨_,rfl⟩;obtain ⟨ok,hok⟩:∃ o,F.addOk b.az ⟨r0,n1,n2,n3,b.today,false⟩=o:=⟨_,rfl⟩;rw [hL] at HAD HY;rw [hok] at HAD HY HNO;clear o1 p1 HNS hL hok hz lK t0 t1 t2 t3 hn2 b1' b2' b3';obtain ⟨q3,q5,qg,qa,qb,qc⟩:=HS.o _ k0;clear m0 m1 m2 s0;go_upto_region 6 with fail
    go_region_held3 (fun u=>u.cell? ⟨K,3,none⟩=some (.int .i64 b.today)∧u.cell? ⟨K,5,none⟩=some (.slice q.a b.az.length q.ac)∧u.cell? ⟨g,off,none⟩=some (.string ⟨r0.toArray⟩)∧u.cell? ⟨g1,0,none⟩=some (.int .i64 n1)∧u.cell? ⟨g1,1,none⟩=some (.int .i64 n2)∧u.cell? ⟨g1,2,none⟩=some (.int .i64 n3)) (first | with_reducible exact HS.o _ k0 | with_reducible exact HS.o _ k0.drew | with_reducible exact HS.o _ k3) ((go_at_call 208;(first | with_reducible refine Calls.mono (HAD.o _ k0) ?_ | with_reducible refine Calls.mono (HAD.o _ k0.drew) ?_);rintro e w3 ⟨a3,c3,rfl,o3,p3⟩;have k3:BW w1 w3:=(by first | exact p3 | exact (Below.trans (Below.refl w1.heap.size w1).drew p3))))
    all_goals
     rename_i hheld
     have HK3:Hid (KS B K 1 b q w3):=HK1.o.below k3;have HBW:Hid (B≤w1.heap.size):=HK1.o.lt;have HB3:Hid (Ce B w w3):=HB1.o.trans (.of k3 HBW.o);obtain ⟨et,ea,hee⟩:=HKI.o.eAuth w3 (HKI.o.grow HE1.o k3)
     have HYY:Hid (NF E (.iface et (.pointer (some ea)))):=⟨w3,5,(HKI.o.grow HE1.o k3),by decide,hee⟩
     have HO3:Hid (w3.ownsRow w1.heap.size 107 6 (.slice a3 L.length c3) L.length (Ah L)):=(by first | exact o3 | exact (by simpa using o3))
     clear hheld q3 q5 qg qa qb qc k0 k3 p3 o3
     cases ok
     ·have HQ:Hid _:=HNO.o rfl
      clear HY HNO;go_wp2;go_ret;rw [HQ.o]
      exact Et HYY.o (by decide) HK3.o HB3.o
     ·have HQ:Hid _:=HY.o rfl
      have HKA:Hid _:=HK3.o.setA HO3.o HBW.o;have HBA:Hid (Ce B w (w3.setCell ⟨K,5,none⟩ (.slice a3 L.length c3))):=HB3.o.setK HK3.o.kt HK1.o.hK;have z5:=HK3.o.z.z5;have c5:=HK3.o.z.c5;clear HY HNO;go_wp2;go_ret;rw [HQ.o];exact Uv HKA.o HBA.o
   ·have hokf:Ap [r1,r2,r3]=false:=by simpa using hok
    rw [if_neg hok];obtain ⟨L,hL⟩:∃ L,A7 [r1,r2,r3]=L:=⟨_,rfl⟩;rw [hL,hokf] at HNS;clear hL hok hokf hee
    go_enter func173,ntmps173
    go_wp2_with fail
    refine Calls.mono HNS.o ?_;rintro e w1 ⟨a,k,rfl,o1,p1⟩;have HK1:Hid (KS B K 1 b q w1):=HK0.o.below p1;have HB1:Hid (Ce B w w1):=.of p1 HB0.o;obtain ⟨et,ea,hee⟩:=HKI.o.eLine w1 (HKI.o.grow HE0.o p1)
    have HYY:Hid (NF E (.iface et (.pointer (some ea)))):=⟨w1,3,(HKI.o.grow HE0.o p1),by decide,hee⟩
    clear o1 p1 HNS t0 t1 t2 t3;go_wp2;go_ret
    exact Et HYY.o (by decide) HK1.o HB1.o
 ·have HR:Hid (Gt F b rs=(b,1)):=if_neg (fun e=>hl4 e.1)
  rw [HR.o];obtain ⟨n,hnl⟩:∃ n,rs.length=n:=⟨_,rfl⟩;rw [hnl] at hl4 hcap ⊢
  have hl4':((n:Int) == 4)=false:=by
   have:¬ (n:Int)=4:=by omega
   simpa using this
  have hl5:((n:Int) != 4)=true:=by
   have:¬ (n:Int)=4:=by omega
   simpa using this
  clear HR hl4 hd hz hk hE hP KI hnl hcap hcm
  go_enter func173,ntmps173
  go_wp2;go_ret
  exact Et HYY.o (by decide) HK0.o HBR.o
def PsR (B K:Nat) (F:Ff) (b:Bk) (q:Bp) (es:List En) (w:World) (e:Ending) (w':World):Prop :=
 e=.returned (.bool (F.allOk b.ls es))∧(∃ a c,KS B K 1 ⟨b.today,b.off,b.az,b.cs,F.all b.ls es,b.log⟩ ⟨q.o,q.oc,q.a,q.ac,q.c,q.cc,a,c,q.g,q.gc⟩ w')∧Ce B w w'∧w.grownBy w' (some K)
theorem K9 {F:Ff} {E:World→Prop} {G B K:Nat} (KI:Rq F E G) (b:Bk) (q:Bp) (eo:Option Addr) (ec:Nat) (es:List En) (w:World) (hk:KS B K 1 b q w) (hP:Ej b) (hz:C8 w eo es) (hn:es.length≤1048576) (hd:∀ x ∈ es,Ma x) :
  Calls prog 211 #[.pointer (some ⟨K,2,none⟩),.slice eo es.length ec] w (PsR B K F b q es w):=by
 have HPO:Hid (Calls prog 255 #[.agg #[.slice q.l b.ls.length q.lc],.slice eo es.length ec] w fun e w'=>∃ ao cap,e=.returned (.tuple #[.agg #[.slice ao (F.all b.ls es).length cap],.bool (F.allOk b.ls es)])∧w'.ownsRow w.heap.size 113 3 (.slice ao (F.all b.ls es).length cap) (F.all b.ls es).length (Ag (F.all b.ls es))∧BW w w'):=KI.post q.l q.lc b.ls eo ec es w hk.at.ls hP.sm.2.2.2.1 hP.lb hz hn hd
 have HB0:Hid (B≤w.heap.size):=hk.lt;have HK0:Hid (KS B K 1 b q w):=hk;obtain ⟨L,hL⟩:∃ L,F.all b.ls es=L:=⟨_,rfl⟩;obtain ⟨ok,hok⟩:∃ o,F.allOk b.ls es=o:=⟨_,rfl⟩;have HLL:Hid (F.all b.ls es=L):=hL;have HOK:Hid (F.allOk b.ls es=ok):=hok;rw [hL,hok] at HPO;obtain ⟨c0,c1,c2,c3,c4,c5,c6,c7,z0,z1,z2,z3,z4,z5,z6,z7⟩:=hk.z;clear hz hd hk hP KI hL hok
 go_enter func211,ntmps211
 go_wp2_with fail
 refine Calls.mono HPO.o ?_;rintro e w1 ⟨a,k,rfl,o1,b1⟩;have bA:Below w1.heap.size w1 (w1.alloc (.cells #[.slice a L.length k] 29)):=bR.alloc nL _;have HO:Hid ((w1.alloc (.cells #[.slice a L.length k] 29)).ownsRow w.heap.size 113 3 (.slice a L.length k) L.length (Ag L)):=Av o1 bA;have HK2:Hid (KS B K 1 b q (w1.alloc (.cells #[.slice a L.length k] 29))):=(HK0.o.below b1).below bA;have HB2:Hid (Below w.heap.size w (w1.alloc (.cells #[.slice a L.length k] 29))):=next b1 bA
 have bc:(w1.alloc (.cells #[.slice a L.length k] 29)).cell? ⟨w1.heap.size,0,none⟩=some (.slice a L.length k):=by simp
 clear c0 c1 c2 c3 c4 c5 c6 c7 z0 z1 z2 z3 z4 z5 z6 z7 o1 b1 bA HPO;go_upto_region 2 with fail
 obtain ⟨W,hW⟩:∃ W,W=w1.alloc (.cells #[.slice a L.length k] 29):=⟨_,rfl⟩;rw [← hW] at HO HK2 HB2 bc ⊢;clear hW;have c2:=HK2.o.z.c2;have z2:=HK2.o.z.z2;have HKL:Hid _:=HK2.o.setL HO.o HB0.o
 have HGR:Hid (w.grownBy (W.setCell ⟨K,2,none⟩ (.slice a L.length k)) (some K)):=by
  have h:=HB2.o
  exact (World.grownBy.trans ⟨h.os,h.tape,h.output,h.size,fun j hj _=>h.block j hj⟩ (An W K 2 _))
 have HBS:Hid (Ce B w (W.setCell ⟨K,2,none⟩ (.slice a L.length k))):=(Ce.of HB2.o HB0.o).setK HK2.o.kt HK0.o.hK;go_wp2;go_ret;refine ⟨?_,⟨a,k,?_⟩,HBS.o,HGR.o⟩
 ·rw [HOK.o];rfl
 ·rw [HLL.o];exact HKL.o
def Fh (F:Ff) (b:Bk) (rs:Be) (r:Bk×Int):Prop :=
 if Ap rs=true∧rs.length=4 then ∃ x,F.best b.az (Ae (Al rs 0)) (Ae (Al rs 2)) (Ae (Al rs 3)) b.today x∧r=Jk F b (Ae (Al rs 0)) (Ae (Al rs 1)) (Ae (Al rs 2)) (Ae (Al rs 3)) x else r=(b,1)
theorem Xf {u:World} {base n size:Nat} {t:TypeId} {v:Value} {xs:List Value} (h:u.ownsRow base t size v n xs):∃ a c,v=.slice a n c:=by
 rcases h.2 with ⟨hv,h0⟩ | ⟨g,cap,uV,hv,_⟩
 ·exact ⟨none,0,by rw [hv,h0]⟩
 ·exact ⟨_,_,hv⟩
theorem kbC {B K:Nat} {st:Int} {b:Bk} {q:Bp} {W u u':World} (k:KS B K st b q W) (g:u.grownBy u' (Value.slice q.c b.cs.length q.cc).ownBlock) (h:BW W u):u'.cell? ⟨K,6,none⟩=some (.slice q.c b.cs.length q.cc)∧u'.frozen? ⟨K,6,none⟩=false:=by
 have ku:=k.below h
 have zz:=ku.z.grown g (D8 ku.cs ku.kt (by decide))
 exact ⟨zz.c6,zz.z6⟩
def PaR (E:World→Prop) (B K:Nat) (F:Ff) (b:Bk) (rs:Be) (w:World) (e:Ending) (w':World):Prop:=∃ r,Fh F b rs r∧Wz E B K w r e w'
theorem tM {x:Int} (h1:-1≤x) (h2:x<1000000000000000000):(Lit.int .i64 x).wf=true:=by
 simp [Lit.wf,IntKind.min,IntKind.max,IntKind.signed,IntKind.bits];omega
theorem iE (b:Bk):(⟨b.today,b.off,b.az,b.cs,b.ls,b.log⟩:Bk)=b:=by cases b;rfl
theorem lE {F:Ff} {E:World→Prop} {G B K:Nat} (KI:Rq F E G) (hGB:G≤B) (b:Bk) (q:Bp) (ao:Option Addr) (cap:Nat) (rs:Be) (w:World) (hk:KS B K 1 b q w) (hE:E w) (hP:Ej b) (hz:Bh w ao rs) (hn:rs.length≤1048576) (hd:∀ r ∈ rs,r.length≤1048576) :
  Calls prog 174 #[.pointer (some ⟨K,0,none⟩),.slice ao rs.length cap] w (PaR E B K F b rs w):=by
 have HNS:Hid (Calls prog 206 #[.slice ao rs.length cap] w fun e w'=>∃ a k,e=.returned (.tuple #[.slice a (A7 rs).length k,.bool (Ap rs)])∧w'.ownsRow w.heap.size 3 1 (.slice a (A7 rs).length k) (A7 rs).length ((A7 rs).map (Value.int .i64))∧BW w w'):=Ks KI ao cap rs w hz hn hd hE
 have HB0:Hid (B≤w.heap.size):=hk.lt;have HK0:Hid (KS B K 1 b q w):=hk;have HE0:Hid (E w):=hE;have HPR:Hid (Ej b):=hP;have HKI:Hid (Rq F E G):=KI;have HGB:Hid (G≤B):=hGB;clear hz hd hk hE hP KI
 by_cases hok:Ap rs=true∧rs.length=4
 ·obtain ⟨h1,h2⟩:=hok
  obtain ⟨r0,r1,r2,r3,hr0⟩:=nP h2
  have hv:A7 rs=[Ae r0,Ae r1,Ae r2,Ae r3]:=by rw [A7,if_pos h1,hr0];rfl
  have hg:∀ r ∈ rs,Rp (Ae r):=fun r hr=>⟨by simpa using List.all_eq_true.1 h1 r hr,(Ib r).2⟩
  have g0:=hg r0 (by rw [hr0];simp)
  have g1:=hg r1 (by rw [hr0];simp)
  have g2:=hg r2 (by rw [hr0];simp)
  have g3:=hg r3 (by rw [hr0];simp)
  have HR:Hid (∀ r x,F.best b.az (Ae r0) (Ae r2) (Ae r3) b.today x→r=Jk F b (Ae r0) (Ae r1) (Ae r2) (Ae r3) x→Fh F b rs r):=fun r x hx hr=>by
   rw [Fh,if_pos ⟨h1,h2⟩,hr0];exact ⟨x,hx,hr⟩
  rw [hv,h1] at HNS;obtain ⟨n0,e0⟩:∃ n,Ae r0=n:=⟨_,rfl⟩;obtain ⟨n1,e1⟩:∃ n,Ae r1=n:=⟨_,rfl⟩;obtain ⟨n2,e2⟩:∃ n,Ae r2=n:=⟨_,rfl⟩;obtain ⟨n3,e3⟩:∃ n,Ae r3=n:=⟨_,rfl⟩;rw [e0,e1,e2,e3] at HNS HR;rw [e0] at g0;rw [e1] at g1;rw [e2] at g2;rw [e3] at g3
  simp only [List.length_cons,List.length_nil,List.map_cons,List.map_nil] at HNS
  have HG0:Hid (Rp n0):=g0;have HG1:Hid (Rp n1):=g1;have HG2:Hid (Rp n2):=g2;have HG3:Hid (Rp n3):=g3;clear hv e0 e1 e2 e3 h1 h2 hr0 hg g0 g1 g2 g3
  go_enter func174,ntmps174
  go_wp2_with fail
  refine Calls.mono HNS.o ?_;rintro e w1 ⟨a,k,rfl,o1,p1⟩
  obtain ⟨gn,rfl,-,-⟩:=Hf o1 (by omega)
  have m0:w1.cell? ⟨gn,0,none⟩=some (.int .i64 n0):=by simpa using o1.cellAt 0 (by omega)
  have m1:w1.cell? ⟨gn,1,none⟩=some (.int .i64 n1):=by simpa using o1.cellAt 1 (by omega)
  have m2:w1.cell? ⟨gn,2,none⟩=some (.int .i64 n2):=by simpa using o1.cellAt 2 (by omega)
  have m3:w1.cell? ⟨gn,3,none⟩=some (.int .i64 n3):=by simpa using o1.cellAt 3 (by omega)
  have HK1:Hid (KS B K 1 b q w1):=HK0.o.below p1;have HB1:Hid (Ce B w w1):=.of p1 HB0.o;have HE1:Hid (E w1):=HKI.o.grow HE0.o p1;have HBW1:Hid (B≤w1.heap.size):=HK1.o.lt;clear o1 p1 HNS;go_upto_region 4 with fail
  go_quiet (fail)
  go_upto_region 5 with fail
  obtain ⟨W1,hW1⟩:∃ W,W=w1.drewN nq:=⟨_,rfl⟩;rw [← hW1]
  have pW:BW w1 W1:=by rw [hW1];exact below_drewN bR _
  clear m0 m1 m2 m3;obtain ⟨HK1,-⟩:∃ _k:Hid (KS B K 1 b q W1),True:=⟨HK1.o.below pW,trivial⟩;obtain ⟨HB1,-⟩:∃ _k:Hid (Ce B w W1),True:=⟨HB1.o.trans (.of pW HBW1.o),trivial⟩;obtain ⟨HE1,-⟩:∃ _k:Hid (E W1),True:=⟨HKI.o.grow HE1.o pW,trivial⟩;obtain ⟨HBW1,-⟩:∃ _k:Hid (B≤W1.heap.size),True:=⟨HK1.o.lt,trivial⟩;clear hW1 pW;have hz1:=HK1.o.z;have c3:=hz1.c3;have c5:=hz1.c5
  have HS:Hid (∀ u,BW W1 u→u.cell? ⟨K,3,none⟩=some (.int .i64 b.today)∧u.cell? ⟨K,5,none⟩=some (.slice q.a b.az.length q.ac)):=fun u h=>⟨(HK1.o.below h).z.c3,(HK1.o.below h).z.c5⟩
  have HMB:Hid (∀ u,BW W1 u→Calls prog 209 #[.slice q.a b.az.length q.ac,.int .i64 n0,.int .i64 n2,.int .i64 n3,.int .i64 b.today] u fun e w'=>∃ x,e=.returned (.int .i64 x)∧F.best b.az n0 n2 n3 b.today x∧BW u w'):=fun u h =>
   HKI.o.best q.a q.ac b.az n0 n2 n3 b.today u (HK1.o.below h).at.az HPR.o.sm.2.1 HPR.o.ref HPR.o.cur (tM (by have:=HG3.o.1;omega) HG3.o.2) HPR.o.day
  have k0:BW W1 W1:=bR;clear hz1
  go_region_held3 (fun u=>u.cell? ⟨K,3,none⟩=some (.int .i64 b.today)∧u.cell? ⟨K,5,none⟩=some (.slice q.a b.az.length q.ac)) (first | with_reducible exact HS.o _ k0 | with_reducible exact HS.o _ k0.drew | with_reducible exact HS.o _ k2) ((go_at_call 209;(first | with_reducible refine Calls.mono (HMB.o _ k0) ?_ | with_reducible refine Calls.mono (HMB.o _ k0.drew) ?_);rintro e w2 ⟨x,rfl,hx,p2⟩;have k2:BW W1 w2:=(by first | exact p2 | exact (Below.trans (Below.refl W1.heap.size W1).drew p2))))
  all_goals
   rename_i hheld
   have HK2:Hid (KS B K 1 b q w2):=HK1.o.below k2;have HB2:Hid (Ce B w w2):=HB1.o.trans (.of k2 HBW1.o);have HE2:Hid (E w2):=HKI.o.grow HE1.o k2
   have HRX:Hid (∀ r,r=Jk F b n0 n1 n2 n3 x→Fh F b rs r):=fun r h=>HR.o r x hx h
   have hlow:=HKI.o.low _ _ _ _ _ _ hx;clear hheld c3 c5 k0 k2 p2 hx HR HS HMB;have zz:=HK2.o.z
   by_cases hx1:x = -1
   ·subst hx1
    obtain ⟨et,ea,hee⟩:=HKI.o.eAuth w2 HE2.o
    have HYY:Hid (NF E (.iface et (.pointer (some ea)))):=⟨w2,5,HE2.o,by decide,hee⟩
    have HQ:Hid (Fh F b rs (b,3)):=HRX.o _ (cK F (b:=b) (n0:=n0) (n1:=n1) (n2:=n2) (n3:=n3) (x:=-1) (by omega)).symm
    clear zz HRX hlow;go_wp2;go_ret
    exact ⟨_,HQ.o,Et HYY.o (by decide) HK2.o HB2.o⟩
   have hx0:¬ x<0:=by omega
   have hxe:(x == -1)=false:=by simpa using hx1
   clear hlow hx1;have c6:=zz.c6;have hcm:b.cs.length≤1048576:=HPR.o.sm.2.2.1
   by_cases hcs:150≤b.cs.length
   ·have hci:(150:Int)≤(b.cs.length:Int):=by omega
    obtain ⟨et,ea,hee⟩:=HKI.o.eCases w2 HE2.o
    have HYY:Hid (NF E (.iface et (.pointer (some ea)))):=⟨w2,6,HE2.o,by decide,hee⟩
    have HQ:Hid (Fh F b rs (b,2)):=HRX.o _ (bQ F (n0:=n0) (n1:=n1) (n2:=n2) (n3:=n3) hx0 hcs).symm;clear zz HRX hcs;go_wp2;go_ret
    exact ⟨_,HQ.o,Et HYY.o (by decide) HK2.o HB2.o⟩
   have hci:¬ (150:Int)≤(b.cs.length:Int):=by omega
   have c3:=zz.c3
   have HST:Hid (Calls prog 210 #[.int .i64 n0,.int .i64 n1,.int .i64 n2,.int .i64 n3,.int .i64 b.today] w2 fun e w'=>∃ ao cap,e=.returned (.tuple #[cv (F.stC n0 n1 n2 n3 b.today),.slice ao (F.stE n0 n1 n2 n3 b.today).length cap,.bool (F.stOk n0 n1 n2 n3 b.today)])∧w'.ownsRow w2.heap.size 269 4 (.slice ao (F.stE n0 n1 n2 n3 b.today).length cap) (F.stE n0 n1 n2 n3 b.today).length (Ba (F.stE n0 n1 n2 n3 b.today))∧BW w2 w'):=HKI.o.start n0 n1 n2 n3 b.today w2 HG2.o
   have HSM:Hid _:=HKI.o.small n0 n1 n2 n3 b.today;have P3:Hid _:=@cO F b n0 n1 n2 n3 x hx0 hcs;have P4:Hid _:=@cM F b n0 n1 n2 n3 x hx0 hcs;have P5:Hid _:=@bF F b n0 n1 n2 n3 x hx0 hcs;obtain ⟨C,hC⟩:∃ C,F.stC n0 n1 n2 n3 b.today=C:=⟨_,rfl⟩;obtain ⟨ES,hES⟩:∃ C,F.stE n0 n1 n2 n3 b.today=C:=⟨_,rfl⟩;obtain ⟨so,hso⟩:∃ C,F.stOk n0 n1 n2 n3 b.today=C:=⟨_,rfl⟩;rw [hC,hES,hso] at HST;rw [hES] at HSM P4;rw [hC,hES] at P5;rw [hso] at P3 P4 P5;clear hC hES hso hcs zz;unfold cv at HST;go_wp2_with fail
   refine Calls.mono HST.o ?_;rintro e w3 ⟨eo,ec,rfl,o3,p3⟩;obtain ⟨W3,hW3⟩:∃ W,W=w3.alloc (.cells #[.int .i64 C.iss,.int .i64 C.acq,.int .i64 C.cur,.int .i64 C.am,.int .i64 C.st,.int .i64 C.rsn,.int .i64 C.cl,.int .i64 C.bk,.int .i64 C.fee,.bool C.cop,.int .i64 C.sta,.int .i64 C.due] 61):=⟨_,rfl⟩
   have bA:BW w3 W3:=by rw [hW3];exact bR.alloc nL _
   have HBW2:Hid (B≤w2.heap.size):=HK2.o.lt;have HK3:Hid (KS B K 1 b q W3):=(HK2.o.below p3).below bA;have HB3:Hid (Ce B w W3):=HB2.o.trans (.of (next p3 bA) HBW2.o);have HE3:Hid (E W3):=HKI.o.grow HE2.o (next p3 bA);have HEN:Hid (C8 W3 eo ES):=Hk (Av o3 bA);have hlt3:K<w3.heap.size:=(HK2.o.below p3).z.lt
   have HX:Hid (CB w3.heap.size 0 C W3):=by rw [hW3];exact CB.new w3 C _
   have HBW3:Hid (B≤W3.heap.size):=HK3.o.lt;clear o3 p3 bA c3 c6 HST;go_upto_region 11 with fail
   rw [← hW3];obtain ⟨X,hX⟩:∃ X,X=w3.heap.size:=⟨_,rfl⟩;rw [← hX] at HX hlt3 ⊢
   have hXK:X≠K:=by omega
   clear hW3 hX hlt3
   cases so
   ·obtain ⟨et,ea,hee⟩:=HKI.o.eCase W3 HE3.o
    have HYY:Hid (NF E (.iface et (.pointer (some ea)))):=⟨W3,7,HE3.o,by decide,hee⟩
    have HQ:Hid (Fh F b rs (b,5)):=HRX.o _ (P3.o (by simp)).symm
    clear HRX P3 P4 P5 HSM;go_wp2;go_ret
    exact ⟨_,HQ.o,Et HYY.o (by decide) HK3.o HB3.o⟩
   have HPO:Hid (Calls prog 211 #[.pointer (some ⟨K,2,none⟩),.slice eo ES.length ec] W3 (PsR B K F b q ES W3)):=K9 HKI.o b q eo ec ES W3 HK3.o HPR.o HEN.o HSM.o.1 (HSM.o.2 HG0.o HG1.o HG2.o HG3.o);go_wp2_with fail
   refine Calls.mono HPO.o ?_;rintro e w4 ⟨rfl,⟨la,lc,k4⟩,p4,g4⟩;have HB4:Hid (Ce B w w4):=HB3.o.trans p4;have HE4:Hid (E w4):=HKI.o.keep _ _ HE0.o (HB4.o.b.mono HGB.o)
   have HX4:Hid (CB X 0 C w4):=HX.o.grown g4 (by simpa using hXK)
   have HSTY:Hid _:=HKI.o.stay b.ls ES;have HK4:Hid (KS B K 1 ⟨b.today,b.off,b.az,b.cs,F.all b.ls ES,b.log⟩ ⟨q.o,q.oc,q.a,q.ac,q.c,q.cc,la,lc,q.g,q.gc⟩ w4):=k4;obtain ⟨LL,hLL⟩:∃ L,F.all b.ls ES=L:=⟨_,rfl⟩;obtain ⟨ok,hok⟩:∃ L,F.allOk b.ls ES=L:=⟨_,rfl⟩;rw [hLL] at HK4 HSTY P5;rw [hok] at HSTY P4 P5 ⊢;clear p4 g4 k4 hLL hok HPO HEN HSM
   cases ok
   ·obtain ⟨et,ea,hee⟩:=HKI.o.eMoney w4 HE4.o
    have HYY:Hid (NF E (.iface et (.pointer (some ea)))):=⟨w4,8,HE4.o,by decide,hee⟩
    have HQ:Hid (Fh F b rs (b,6)):=HRX.o _ (P4.o (by simp) (by simp)).symm
    have HKF:Hid (∃ q',KS B K 1 b q' w4):=by
     have h:=HK4.o
     rw [HSTY.o (by simp),iE] at h
     exact ⟨_,h⟩
    clear HRX P3 P4 P5;go_wp2;go_ret;obtain ⟨q',hq'⟩:=HKF.o
    exact ⟨_,HQ.o,Et HYY.o (by decide) hq' HB4.o⟩
   have HQ:Hid (Fh F b rs (⟨b.today,b.off,F.use b.az x,b.cs++[C],LL,b.log⟩,0)):=HRX.o _ (P5.o (by simp) (by simp)).symm
   clear HRX P3 P4 P5 HSTY;have c5:=HK4.o.z.c5;have HUS:Hid (Calls prog 212 #[.slice q.a b.az.length q.ac,.int .i64 x] w4 (Pi w4 (F.use b.az x) (F.useOk b.az x))):=HKI.o.use q.a q.ac b.az x w4 HK4.o.at.az HPR.o.sm.2.1 HPR.o.ref;obtain ⟨LU,hLU⟩:∃ L,F.use b.az x=L:=⟨_,rfl⟩;rw [hLU] at HUS HQ;clear hLU;go_wp2_with fail
   refine Calls.mono HUS.o ?_;rintro e w5 ⟨ua,uc,rfl,o5,p5⟩;have HBW4:Hid (B≤w4.heap.size):=HK4.o.lt;have HK5':Hid _:=HK4.o.below p5;have HK5:Hid (KS B K 1 ⟨b.today,b.off,LU,b.cs,LL,b.log⟩ ⟨q.o,q.oc,ua,uc,q.c,q.cc,la,lc,q.g,q.gc⟩ (w5.setCell ⟨K,5,none⟩ (.slice ua LU.length uc))):=HK5'.o.setA o5 HBW4.o;have HB5:Hid (Ce B w (w5.setCell ⟨K,5,none⟩ (.slice ua LU.length uc))):=(HB4.o.trans (.of p5 HBW4.o)).setK HK5'.o.kt HK4.o.hK
   have HX5:Hid (CB X 0 C (w5.setCell ⟨K,5,none⟩ (.slice ua LU.length uc))):=(HX4.o.below p5).grown (An w5 K 5 _) (by simpa using hXK)
   have c5:=HK5'.o.z.c5;have z5:=HK5'.o.z.z5;clear o5 p5 HUS HK5';go_upto_region 16 with fail
   obtain ⟨W5,hW5⟩:∃ W,W=w5.setCell ⟨K,5,none⟩ (.slice ua LU.length uc):=⟨_,rfl⟩;rw [← hW5] at HK5 HB5 HX5 ⊢;clear hW5 c5 z5;have c6:=HK5.o.z.c6;have z6:=HK5.o.z.z6
   have a6:=fun o=>(HK5.o.al o).z.c6
   obtain ⟨d0,d1,d2,d3,d4,d5,d6,d7,d8,d9,d10,d11⟩:=HX5.o;have lX:X<W5.heap.size:=World.block_lt_of_cell? W5 _ d0;have HBW5:Hid (B≤W5.heap.size):=HK5.o.lt
   have HEND:Hid (∀ (u u':World) (a:Option Addr) (c:Nat),BW W5 u→u.grownBy u' (Value.slice q.c b.cs.length q.cc).ownBlock→u'.ownsRow B 61 12 (.slice a (b.cs.length+1) c) (b.cs.length+1) (Aj b.cs++Aj [C])→Wz E B K w (⟨b.today,b.off,LU,b.cs++[C],LL,b.log⟩,0) (.returned .nilIface) (u'.setCell ⟨K,6,none⟩ (.slice a (b.cs.length+1) c))):=fun u u' a c h g o=>by
    have o':u'.ownsRow B 61 12 (.slice a (b.cs++[C]).length c) (b.cs++[C]).length (Aj (b.cs++[C])):=by
     rw [J5,List.length_append,List.length_singleton];exact o
    have h2:=(HK5.o.below h).setC g o';rw [List.length_append,List.length_singleton] at h2;refine Uv h2 ?_;have kh:=HK5.o.below h;have hu:Ce B w u':=(HB5.o.trans (.of h HBW5.o)).grownO g kh.cs (Nat.le_trans HBW5.o h.size) (.inl rfl)
    exact hu.setK (kh.kt.grown g (D8 kh.cs kh.kt (by decide))) HK5.o.hK
   go_region_law (first
    | (refine Cv rfl (.tmp 110) (.tmp 112) rfl B (.slice q.c b.cs.length q.cc) b.cs.length (Aj b.cs) (by simp [Act.eval]) (Av HK5.o.cs (by go_grown)) (some ⟨W5.heap.size,0,none⟩) 1 [C] (by simp [Act.eval];try rfl) (by first | exact J3 (CB.new W5 C _) | exact J3 ((CB.new W5 C _).below (bR.drew))) (by simp;omega) (by simp;have:=HBW5.o;omega) ?_
       intro v6 w6 o6 g6 _
       (try simp only [List.length_singleton] at o6)
       obtain ⟨va,vc,hva⟩:=Xf o6;subst hva;have HO6:Hid (w6.ownsRow B 61 12 (.slice va (b.cs.length+1) vc) (b.cs.length+1) (Aj b.cs++Aj [C])):=o6;have HG6:Hid _:=g6
       obtain ⟨y6,x6⟩:=kbC HK5.o g6 (by go_grown)
       clear o6 g6)
    | fail)
   all_goals
    go_wp2;go_ret
    exact ⟨_,HQ.o,HEND.o _ _ _ _ (by go_grown) HG6.o HO6.o⟩
 ·have HR:Hid (∀ r,r=(b,1)→Fh F b rs r):=fun r h=>by rw [Fh,if_neg hok];exact h
  have hne:Ap rs=true→¬ (A7 rs).length=4:=fun h1 h2=>hok ⟨h1,by rw [A7,if_pos h1] at h2;simpa using h2⟩
  have hln:(A7 rs).length≤1048576:=by unfold A7;split <;> simp;omega
  obtain ⟨L,hL⟩:∃ L,A7 rs=L:=⟨_,rfl⟩;rw [hL] at HNS hne hln;obtain ⟨ok,hok2⟩:∃ x,Ap rs=x:=⟨_,rfl⟩;rw [hok2] at HNS hne;clear hL hok2 hok
  go_enter func174,ntmps174
  go_wp2_with fail
  refine Calls.mono HNS.o ?_;rintro e w1 ⟨a,k,rfl,o1,b1⟩;have HK1:Hid (KS B K 1 b q w1):=HK0.o.below b1;have HB1:Hid (Ce B w w1):=.of b1 HB0.o;obtain ⟨et,ea,hee⟩:=HKI.o.eLine w1 (HKI.o.grow HE0.o b1)
  have HYY:Hid (NF E (.iface et (.pointer (some ea)))):=⟨w1,3,(HKI.o.grow HE0.o b1),by decide,hee⟩
  clear o1 b1 HNS
  cases ok
  ·clear hne
   go_wp2;go_ret
   exact ⟨_,HR.o _ rfl,Et HYY.o (by decide) HK1.o HB1.o⟩
  ·have hl1:((L.length:Int) == 4)=false:=by
     have:=hne rfl
     simp;omega
   have hl2:((L.length:Int) != 4)=true:=by
    have:=hne rfl
    simp;omega
   clear hne;go_wp2;go_ret
   exact ⟨_,HR.o _ rfl,Et HYY.o (by decide) HK1.o HB1.o⟩
def sL:Array Value:=#[.string ⟨#[97,115,107]⟩,.string ⟨#[103,105,118,101]⟩,.string ⟨#[99,104,97,114,103,101]⟩,.string ⟨#[97,110,115,119,101,114]⟩,.string ⟨#[115,101,99,111,110,100]⟩,.string ⟨#[97,99,99,101,112,116]⟩,.string ⟨#[114,101,102,117,115,101]⟩,.string ⟨#[114,117,108,101]⟩,.string ⟨#[101,120,112,105,114,101]⟩,.string ⟨#[99,108,111,115,101]⟩]
theorem pJ (k:Nat) (h:k<10) (V:World):(Instr.index 156 (.agg sL) (.int .i64 (k:Int))).run prog V=.ok (.string ⟨(Al Dm k).toArray⟩) V:=by
 rcases (show k=0∨k=1∨k=2∨k=3∨k=4∨k=5∨k=6∨k=7∨k=8∨k=9 by omega) with rfl | rfl | rfl | rfl | rfl | rfl | rfl | rfl | rfl | rfl <;> kernel_rfl
def Oz (s:List UInt8):Int:=if 0≤Bz s then Bz s else 0
theorem fD {F:Ff} {E:World→Prop} {G:Nat} (K:Rq F E G) (s:List UInt8) (w:World) (hE:E w) :
  Calls prog 213 #[.string ⟨s.toArray⟩] w fun e w'=>e=.returned (.tuple #[.int .i64 (Oz s),.bool (decide (0≤Bz s))])∧BW w w':=by
 have HK:Hid (Bz s=Dh s (Dm.drop 0) 0):=rfl;have hw:=K.words w hE
 have g0:w.cell? ⟨0,0,none⟩=some (.string ⟨#[97,115,107]⟩):=hw 0 (by decide)
 have g1:w.cell? ⟨0,1,none⟩=some (.string ⟨#[103,105,118,101]⟩):=hw 1 (by decide)
 have g2:w.cell? ⟨0,2,none⟩=some (.string ⟨#[99,104,97,114,103,101]⟩):=hw 2 (by decide)
 have g3:w.cell? ⟨0,3,none⟩=some (.string ⟨#[97,110,115,119,101,114]⟩):=hw 3 (by decide)
 have g4:w.cell? ⟨0,4,none⟩=some (.string ⟨#[115,101,99,111,110,100]⟩):=hw 4 (by decide)
 have g5:w.cell? ⟨0,5,none⟩=some (.string ⟨#[97,99,99,101,112,116]⟩):=hw 5 (by decide)
 have g6:w.cell? ⟨0,6,none⟩=some (.string ⟨#[114,101,102,117,115,101]⟩):=hw 6 (by decide)
 have g7:w.cell? ⟨0,7,none⟩=some (.string ⟨#[114,117,108,101]⟩):=hw 7 (by decide)
 have g8:w.cell? ⟨0,8,none⟩=some (.string ⟨#[101,120,112,105,114,101]⟩):=hw 8 (by decide)
 have g9:w.cell? ⟨0,9,none⟩=some (.string ⟨#[99,108,111,115,101]⟩):=hw 9 (by decide)
 clear hw hE K
 go_enter func213,ntmps213
 go_wp2;clear g0 g1 g2 g3 g4 g5 g6 g7 g8 g9
 go_loopw [7] (fun i wr=>∃ (k:Nat),k≤10∧i=.int .i64 (k:Int)∧Bz s=Dh s (Dm.drop k) k∧BW w wr) (fun i _=>10 - (intOf i).toNat)
 case atStart=>exact ⟨0,Nat.zero_le _,rfl,HK.o,bR⟩
 case round =>
  obtain ⟨k,hk,rfl,hkw,hbr⟩:=hrel;have HBR:Hid (BW w wr):=hbr
  by_cases hlt:k<10
  ·have hki:(k:Int)<10:=by omega
   have hst:=Sz s Dm k hlt;have hix:=pJ k hlt;unfold sL at hix;obtain ⟨r,hr⟩:∃ r,Al Dm k=r:=⟨_,rfl⟩;rw [hr] at hst hix;clear hr hbr HK
   by_cases hrs:r=s
   ·subst hrs
    rw [if_pos rfl] at hst
    have HE:Hid (Oz r=(k:Int)∧decide (0≤Bz r)=true):=by
     have e:Bz r=(k:Int):=hkw.trans hst;unfold Oz;rw [e]
     exact ⟨if_pos (by omega),decide_eq_true (by omega)⟩
    clear hst hkw;go_wp2;go_ret2;exact ⟨Oc HE.o.1.symm HE.o.2.symm,HBR.o⟩
   ·rw [if_neg hrs] at hst
    have HE:Hid (Bz s=Dh s (Dm.drop (k+1)) (k+1)):=hkw.trans hst
    have hds:(r == s)=false:=by simpa using hrs
    clear hst hkw;go_wp2
    go_roundw
    case rel=>exact ⟨k+1,by omega,by go_num,HE.o,HBR.o⟩
    case measure=>simp [intOf];omega
  ·have hke:k=10:=by omega
   subst hke
   have HE:Hid (Oz s=0∧decide (0≤Bz s)=false):=by
    have e:Bz s = -1:=hkw;unfold Oz;rw [e]
    exact ⟨by simp,by simp⟩
   clear hbr hkw;go_wp2;go_ret2;exact ⟨Oc HE.o.1.symm HE.o.2.symm,HBR.o⟩
theorem Om (u:World) (g k:Nat) (D:Cs):u.grownBy (Gs u g k D) (some g):=by
 unfold Gs;exact ((((((((((((An _ g (k*12) _).trans (An _ g (k*12+1) _)).trans (An _ g (k*12+2) _)).trans (An _ g (k*12+3) _)).trans (An _ g (k*12+4) _)).trans (An _ g (k*12+5) _)).trans (An _ g (k*12+6) _)).trans (An _ g (k*12+7) _)).trans (An _ g (k*12+8) _)).trans (An _ g (k*12+9) _)).trans (An _ g (k*12+10) _)).trans (An _ g (k*12+11) _))
theorem KS.putC {B K:Nat} {st:Int} {b:Bk} {q:Bp} {u:World} (h:KS B K st b q u) {g:Nat} (hg:q.c=some ⟨g,0,none⟩) {k:Nat} (hk:k<b.cs.length) (D:Cs) :
  KS B K st ⟨b.today,b.off,b.az,b.cs.set k D,b.ls,b.log⟩ q (Gs u g k D):=by
 have gr:u.grownBy (Gs u g k D) (Value.slice q.c b.cs.length q.cc).ownBlock:=by
  rw [hg];exact Om u g k D
 have nK:=D8 h.cs h.kt (by decide)
 have hc:=h.cs;rw [hg] at hc;have r:=Od D hk hc;have z:=h.z.grown gr nK
 refine ⟨?_,h.kt.grown gr nK,h.off.kept gr (Bj h.off h.cs (by decide)),h.az.kept gr (Bj h.az h.cs (by decide)),?_,h.ls.kept gr (Bj h.ls h.cs (by decide)),h.log.kept gr (Bj h.log h.cs (by decide)),h.hK⟩
 ·simp only [List.length_set];exact z
 ·simp only [List.length_set];rw [hg];exact r
def Hx (F:Ff) (b:Bk) (rs:Be):Bk×Int :=
 if rs.length=4∧0≤Bz (Al rs 1)∧Ap [Al rs 0,Al rs 2,Al rs 3]=true then Ja F b (Ae (Al rs 0)) ⟨Bz (Al rs 1),Ae (Al rs 2),Ae (Al rs 3)⟩ else (b,1)
def kM (F:Ff) (E:World→Prop) (B K:Nat):Prop:=∀ (b:Bk) (q:Bp) (ao:Option Addr) (cap:Nat) (rs:Be) (w:World),KS B K 1 b q w→E w→Ej b→Bh w ao rs→(∀ r ∈ rs,r.length≤1048576) →
  Calls prog 175 #[.pointer (some ⟨K,0,none⟩),.slice ao rs.length cap] w (Wz E B K w (Hx F b rs))
def D6 (F:Ff) (b:Bk) (ws:Be) (r:Bk×Int):Prop :=
 if Al ws 0=Eo then r=N8 F b (ws.drop 1) else if Al ws 0=Dy then r=Gt F b (ws.drop 1) else if Al ws 0=I7 then Fh F b (ws.drop 1) r else if Al ws 0=Nz then r=Hx F b (ws.drop 1) else r=(b,1)
def ObR (E:World→Prop) (B K:Nat) (F:Ff) (b:Bk) (ws:Be) (w:World) (e:Ending) (w':World):Prop:=∃ r,D6 F b ws r∧Wz E B K w r e w'
theorem eU {w:World} {ao:Option Addr} {r:List UInt8} {rs:Be} (h:Bh w ao (r::rs)):∃ g off,ao=some ⟨g,off,none⟩∧w.cell? ⟨g,off,none⟩=some (.string ⟨r.toArray⟩)∧Bh w (some ⟨g,off+1,none⟩) rs:=by
 rcases h with h | ⟨g,off,h1,h2,h3⟩
 ·cases h
 ·refine ⟨g,off,h1,h3 0 (by simp),.inr ⟨g,off+1,rfl,h2,fun i hi=>?_⟩⟩
  have:=h3 (i+1) (by simp;omega)
  rw [show off+1+i=off+(i+1) from by omega]
  exact this
theorem aG:prog.elem 23=9:=by simp [Program.elem,underlying23]
theorem cU:prog.underlying 23=some (.slice (prog.elem 23)):=by rw [aG];exact underlying23
theorem kX (w:World):(sizeOf 9).run prog w=.ok 1 w:=by
 obtain ⟨i0,hi,hz0,hz1,hz2⟩:=info_parts S1
 simp [sizeOf,typeInfo,hi,hz1]
theorem Zt {g off n c:Nat} (hn:n≤c):∃ aS:Option Addr,(n=0∨aS=some ⟨g,off+1,none⟩) ∧
  ∀ W:World,(Instr.slice 23 (.slice (some ⟨g,off,none⟩) (n+1) (c+1)) (some (.int .i64 1)) none none).run prog W=.ok (.slice aS n c) W:=by
 by_cases h0:c=0
 ·refine ⟨some ⟨g,off,none⟩,.inl (by omega),fun W=>?_⟩
  rw [run_slice_l W _ _ _ _ cU .i64 _ (by omega) (by omega),aG,kX]
  simp [Result.andThen,sliced,h0]
  try omega
 ·refine ⟨some ⟨g,off+1,none⟩,.inr rfl,fun W=>?_⟩
  rw [run_slice_l W _ _ _ _ cU .i64 _ (by omega) (by omega),aG,kX]
  simp [Result.andThen,sliced,h0,Addr.add]
  try omega
theorem Xe {E:World→Prop} {B K:Nat} {F:Ff} {b:Bk} {ws:Be} {w w':World} {e:Ending} {r:Bk×Int} (h:D6 F b ws r) (hs:Wz E B K w r e w'):ObR E B K F b ws w e w':=⟨r,h,hs⟩
theorem gG {F:Ff} {E:World→Prop} {G B K:Nat} (KI:Rq F E G) (hGB:G≤B) (HA:kM F E B K) (b:Bk) (q:Bp) (ao:Option Addr) (c:Nat) (r0:List UInt8) (rs:Be) (w:World) (hk:KS B K 1 b q w) (hE:E w) (hP:Ej b) (hz:Bh w ao (r0::rs)) (hn:rs.length≤1048576) (hcap:rs.length≤c) (hcm:c≤1048576) (hd:∀ r ∈ rs,r.length≤1048576) :
  Calls prog 137 #[.pointer (some ⟨K,0,none⟩),.slice ao (rs.length+1) (c+1)] w (ObR E B K F b (r0::rs) w):=by
 obtain ⟨g,off,rfl,t0,ht0⟩:=eU hz;obtain ⟨aS,haS,hsl⟩:=Zt (g:=g) (off:=off) hcap
 have ht:Bh w aS rs:=by
  rcases haS with h | h
  ·exact .inl (List.eq_nil_of_length_eq_zero h)
  ·rw [h];exact ht0
 obtain ⟨et,ea,hee⟩:=KI.eLine w hE
 have HYY:Hid (NF E (.iface et (.pointer (some ea)))):=⟨w,3,hE,by decide,hee⟩
 have HDY:Hid (Calls prog 172 #[.pointer (some ⟨K,0,none⟩),.slice aS rs.length c] w (Wz E B K w (N8 F b rs))):=lF KI b q _ c rs w hk hE hP ht hn hd
 have HAU:Hid (Calls prog 173 #[.pointer (some ⟨K,0,none⟩),.slice aS rs.length c] w (Wz E B K w (Gt F b rs))):=eM KI b q _ c rs w hk hE hP ht hcap (by omega) hd
 have HPA:Hid (Calls prog 174 #[.pointer (some ⟨K,0,none⟩),.slice aS rs.length c] w (PaR E B K F b rs w)):=lE KI hGB b q _ c rs w hk hE hP ht hn hd;have HAC:Hid (Calls prog 175 #[.pointer (some ⟨K,0,none⟩),.slice aS rs.length c] w (Wz E B K w (Hx F b rs))):=HA b q _ c rs w hk hE hP ht hd;have HK0:Hid (KS B K 1 b q w):=hk;have HBR:Hid (Ce B w w):=.refl _ _
 have HW:Hid (∀ r,(if r0=Eo then r=N8 F b rs else if r0=Dy then r=Gt F b rs else if r0=I7 then Fh F b rs r else if r0=Nz then r=Hx F b rs else r=(b,1))→D6 F b (r0::rs) r):=fun r h=>h
 obtain ⟨n,hnn⟩:∃ n,rs.length=n:=⟨_,rfl⟩;rw [hnn] at HDY HAU HPA HAC hcap hn hsl ⊢;clear hz ht ht0 haS hk hE hP hd KI HA hGB hnn
 by_cases h1:r0=Eo
 ·have HQ:Hid (D6 F b (r0::rs) (N8 F b rs)):=HW.o _ (by rw [if_pos h1])
  have hb1:(r0 == [100,97,121])=true:=by rw [h1];decide
  clear HW h1 hee
  go_enter func137,ntmps137
  go_wp2_with fail
  refine Calls.mono HDY.o ?_;rintro e w' hs;obtain ⟨q',v,rfl,hv⟩:=hs;have HS:Hid (Wz E B K w (N8 F b rs) (.returned v) w'):=⟨q',v,rfl,hv⟩;clear hv;go_wp2;go_ret;exact Xe HQ.o HS.o
 have b1:(r0 == [100,97,121])=false:=by simpa [Eo] using h1
 by_cases h2:r0=Dy
 ·have HQ:Hid (D6 F b (r0::rs) (Gt F b rs)):=HW.o _ (by rw [if_neg h1,if_pos h2])
  have hb1:(r0 == [97,117,116,104])=true:=by rw [h2];decide
  clear HW h1 h2 hee
  go_enter func137,ntmps137
  go_wp2_with fail
  refine Calls.mono HAU.o ?_;rintro e w' hs;obtain ⟨q',v,rfl,hv⟩:=hs;have HS:Hid (Wz E B K w (Gt F b rs) (.returned v) w'):=⟨q',v,rfl,hv⟩;clear hv;go_wp2;go_ret;exact Xe HQ.o HS.o
 have b2:(r0 == [97,117,116,104])=false:=by simpa [Dy] using h2
 by_cases h3:r0=I7
 ·have HQ:Hid (∀ r,Fh F b rs r→D6 F b (r0::rs) r):=fun r hr=>HW.o _ (by rw [if_neg h1,if_neg h2,if_pos h3];exact hr)
  have hb1:(r0 == [112,97,121])=true:=by rw [h3];decide
  clear HW h1 h2 h3 hee
  go_enter func137,ntmps137
  go_wp2_with fail
  refine Calls.mono HPA.o ?_;rintro e w' ⟨r,hr,q',v,rfl,hv⟩;have HS:Hid (Wz E B K w r (.returned v) w'):=⟨q',v,rfl,hv⟩;have HR:Hid (D6 F b (r0::rs) r):=HQ.o r hr;clear hv hr HQ;go_wp2;go_ret;exact Xe HR.o HS.o
 have b3:(r0 == [112,97,121])=false:=by simpa [I7] using h3
 by_cases h4:r0=Nz
 ·have HQ:Hid (D6 F b (r0::rs) (Hx F b rs)):=HW.o _ (by rw [if_neg h1,if_neg h2,if_neg h3,if_pos h4])
  have hb1:(r0 == [97,99,116])=true:=by rw [h4];decide
  clear HW h1 h2 h3 h4 hee
  go_enter func137,ntmps137
  go_wp2_with fail
  refine Calls.mono HAC.o ?_;rintro e w' hs;obtain ⟨q',v,rfl,hv⟩:=hs;have HS:Hid (Wz E B K w (Hx F b rs) (.returned v) w'):=⟨q',v,rfl,hv⟩;clear hv;go_wp2;go_ret;exact Xe HQ.o HS.o
 have b4:(r0 == [97,99,116])=false:=by simpa [Nz] using h4
 have HQ:Hid (D6 F b (r0::rs) (b,1)):=HW.o _ (by rw [if_neg h1,if_neg h2,if_neg h3,if_neg h4])
 clear HW h1 h2 h3 h4
 go_enter func137,ntmps137
 go_wp2;go_ret
 exact Xe HQ.o (Et HYY.o (by decide) HK0.o HBR.o)
end Kb
namespace Kb
open Go.RowKit Go.MuLone Go.Proofs.Tryz
def Jd (b:Bk) (line:List UInt8):Bk:=⟨b.today,b.off,b.az,b.cs,b.ls,b.log++[line]⟩
def D9 (F:Ff) (b:Bk) (line:List UInt8) (r:Bk×Int):Prop :=
 if 600≤b.log.length then r=(b,2) else ∃ r0,D6 F b (Ab line) r0∧r=if r0.2=0 then (Jd r0.1 line,0) else r0
def FV (E:World→Prop) (y:Value):Prop:=∃ w,E w∧w.cell? ⟨1,0,none⟩=some y
def rY (E:World→Prop) (b:Bk) (code:Int) (v:Value):Prop:=(code=0∧v=.nilIface)∨(code≠0∧∃ y,(if 600≤b.log.length then FV E y else NF E y)∧v=.iface 170 (.agg #[y,.int .i64 code]))
def pM (E:World→Prop) (B K:Nat) (F:Ff) (b:Bk) (line:List UInt8) (w:World) (e:Ending) (w':World):Prop:=∃ r q v,D9 F b line r∧e=.returned v∧rY E b r.2 v∧KS B K 0 r.1 q w'∧Ce B w w'
theorem N7 {ops:Array Oper} {o:Oper} {a:Act} {w:World} {K:Act→World→Prop} {Q:Exit→Act→World→Prop} {E:Prop} (hgd:o.guard=none) (s x:Operand)
  (ho:o.op=.call { callee:=.builtin .append,args:=#[s,x],argTypes:=#[23,23] }) (base:Nat) (v:Value) (n:Nat) (xs:List Value) (hs:a.eval s=v) (hown:w.ownsRow base 9 1 v n xs)
  (ao:Option Addr) (c:Nat) (rs:Be) (hx:a.eval x=.slice ao rs.length c) (hz:Bh w ao rs) (hn:n+rs.length≤4000000) (hbase:base≤w.heap.size)
  (h:∀ v' w',w'.ownsRow base 9 1 v' (n+rs.length) (xs++Am rs)→w.grownBy w' v.ownBlock→K (a.put o.dst v') w') :
  if Region.wanted o (yielded ops a.tmps)=true then Oper.wp prog o a w K Q else E:=by
 have hw:Region.wanted o (yielded ops a.tmps)=true:=by simp [Region.wanted,hgd]
 rw [if_pos hw];obtain ⟨v',w',hr,h1,h2⟩:=Ie w base o.type v n xs hown ao c rs hz hn hbase;unfold Oper.wp execOp
 simp only [ho,resolve,invoke,builtin,Sem.run_bind,Sem.run_pure,Result.andThen_ok,List.map_toArray,List.map_cons,List.map_nil,hs,hx,hr]
 exact h v' w' h1 h2
theorem jD {u:World} {g:Nat} {r:List UInt8} (h:u.cell? ⟨g,0,none⟩=some (.string ⟨r.toArray⟩)):Bh u (some ⟨g,0,none⟩) [r] :=
 .inr ⟨g,0,rfl,World.block_lt_of_cell? u _ h,fun i hi=>by
  obtain rfl:i=0:=by simpa using hi
  simpa [Al] using h⟩
theorem kbG {B K:Nat} {st:Int} {b:Bk} {q:Bp} {W u u':World} (k:KS B K st b q W) (g:u.grownBy u' (Value.slice q.g b.log.length q.gc).ownBlock) (h:BW W u):u'.cell? ⟨K,7,none⟩=some (.slice q.g b.log.length q.gc)∧u'.frozen? ⟨K,7,none⟩=false:=by
 have ku:=k.below h
 have zz:=ku.z.grown g (D8 ku.log ku.kt (by decide))
 exact ⟨zz.c7,zz.z7⟩
theorem jK (l:List UInt8):∃ r0 rs,Ab l=r0::rs:=by
 cases h:Ab l with
 | nil=>have:=(Fy l).1;rw [h] at this;simp at this
 | cons r rs=>exact ⟨r,rs,rfl⟩
theorem Sw {F:Ff} {b:Bk} {ws:Be} {r:Bk×Int} (h:D6 F b ws r):r.1.log=b.log:=by
 unfold D6 at h
 split at h
 ·rw [h];unfold N8 Fr;split
  ·split <;> rfl
  ·rfl
 split at h
 ·rw [h];unfold Gt Fq;split
  ·split <;> rfl
  ·rfl
 split at h
 ·unfold Fh at h
  split at h
  ·obtain ⟨x,-,rfl⟩:=h
   unfold Jk
   repeat' split
   all_goals rfl
  ·rw [h]
 split at h
 ·rw [h];unfold Hx Ja;split
  ·repeat' split
   all_goals rfl
  ·rfl
 ·rw [h]
theorem iDo_any {F:Ff} {E:World→Prop} {G B K:Nat} (KI:Rq F E G) (hGB:G≤B) (HA:kM F E B K) (b:Bk) (q:Bp) (line:List UInt8) (w:World) (hk:KS B K 0 b q w) (hE:E w) (hP:Ej b) (hl:line.length<1048576) :
  Calls prog 83 #[.pointer (some ⟨K,0,none⟩),.string ⟨line.toArray⟩] w (pM E B K F b line w):=by
 have HKI:Hid (Rq F E G):=KI;have HGB:Hid (G≤B):=hGB;have HAC:Hid (kM F E B K):=HA;have HK0:Hid (KS B K 0 b q w):=hk;have HE0:Hid (E w):=hE;have HPR:Hid (Ej b):=hP;have c0:=hk.z.c0;have z0:=hk.z.z0;clear KI hGB HA hk hE hP
 go_enter_defers func83,ntmps83
 go_wp2_with fail
 refine (lock_free muH ⟨K,0,none⟩ w c0 z0).mono ?_;rintro e w1 ⟨rfl,hw1⟩
 have HK1:Hid (KS B K 1 b q w1):=by rw [Hid,hw1];exact HK0.o.setSt 1
 have HB1:Hid (Ce B w w1):=by rw [Hid,hw1];exact (Ce.refl _ _).setK HK0.o.kt HK0.o.hK
 have HE1:Hid (E w1):=HKI.o.keep _ _ HE0.o (HB1.o.b.mono HGB.o);clear hw1 c0 z0;have c7:=HK1.o.z.c7;have hlm:b.log.length≤1048576:=HPR.o.sm.2.2.2.2
 by_cases hfull:600≤b.log.length
 ·have hfi:(600:Int)≤(b.log.length:Int):=by omega
  obtain ⟨et,ea,hee⟩:=HKI.o.eFull w1 HE1.o
  have HYY:Hid (if 600≤b.log.length then FV E (.iface et (.pointer (some ea))) else NF E (.iface et (.pointer (some ea)))):=by rw [Hid,if_pos hfull];exact ⟨w1,HE1.o,hee⟩
  have HQ:Hid (D9 F b line (b,2)):=by rw [Hid,D9,if_pos hfull]
  clear hfull;go_wp2_with fail
  refine leaves_cons (f:=114) (args:=#[.pointer (some ⟨K,0,none⟩)]) (by simp) (by simp [go_sem]) ?_
  refine (unlock_deferred muH ⟨K,0,none⟩ .returning _ HK1.o.z.c0 HK1.o.z.z0).mono ?_;rintro e u' w2 ⟨rfl,rfl,rfl⟩
  exact ⟨_,results_tmp rfl _ _ _,(b,2),q,_,HQ.o,rfl,.inr ⟨(by show (2:Int)≠0;decide),_,HYY.o,rfl⟩,HK1.o.setSt 0,HB1.o.setK HK1.o.kt HK1.o.hK⟩
 have hfi:¬ (600:Int)≤(b.log.length:Int):=by omega
 have HRL:Hid (∀ r0,D6 F b (Ab line) r0→D9 F b line (if r0.2=0 then (Jd r0.1 line,0) else r0)):=fun r0 h=>by
  rw [D9,if_neg hfull];exact ⟨r0,h,rfl⟩
 have HSP:Hid (Calls prog 66 #[.string ⟨line.toArray⟩,.string ⟨#[32]⟩] w1 fun e w'=>∃ a,e=.returned (.slice a (Ab line).length (Ab line).length)∧Bh w' a (Ab line)∧BW w1 w'):=HKI.o.split line w1 (by omega) HE1.o
 have hwl:=Fy line
 have HSH:Hid (∀ r ∈ Ab line,r.length≤1048576):=fun r hr=>by have:=Ee line r hr;omega
 obtain ⟨r0,rs,hrs⟩:=jK line;rw [hrs] at HRL HSP hwl HSH
 simp only [List.length_cons] at HSP hwl
 clear hrs hfull;go_wp2_with fail
 refine Calls.mono HSP.o ?_;rintro e w2 ⟨a,rfl,ht,p2⟩;have HBW1:Hid (B≤w1.heap.size):=HK1.o.lt;have HK2:Hid (KS B K 1 b q w2):=HK1.o.below p2;have HB2:Hid (Ce B w w2):=HB1.o.trans (.of p2 HBW1.o);have HE2:Hid (E w2):=HKI.o.grow HE1.o p2
 have HOB:Hid (Calls prog 137 #[.pointer (some ⟨K,0,none⟩),.slice a (rs.length+1) (rs.length+1)] w2 (ObR E B K F b (r0::rs) w2)):=gG HKI.o HGB.o HAC.o b q a rs.length r0 rs w2 HK2.o HE2.o HPR.o ht (by omega) nL (by omega) (fun r hr=>HSH.o r (by simp [hr]))
 clear p2 ht HSP c7;go_wp2_with fail
 refine Calls.mono HOB.o ?_;rintro e w3 ⟨⟨b3,c3⟩,hr,q3,v,rfl,hv,k3,p3⟩;have HK3:Hid (KS B K 1 b3 q3 w3):=k3;have HB3:Hid (Ce B w w3):=HB2.o.trans p3
 have HQ:Hid (D9 F b line (if c3=0 then (Jd b3 line,0) else (b3,c3))):=HRL.o (b3,c3) hr
 have hlog:b3.log=b.log:=Sw hr
 have hl3:b3.log.length≤1048576:=by rw [hlog];exact hlm
 have HBW3:Hid (B≤w3.heap.size):=HK3.o.lt;clear hr k3 p3 HOB HRL hlog
 simp only at hv
 rcases hv with ⟨hc,rfl⟩ | ⟨hc,y,hy,rfl⟩
 ·subst hc
  have HQ2:Hid (D9 F b line (Jd b3 line,0)):=HQ.o;have c7:=HK3.o.z.c7
  have a7:=fun o=>(HK3.o.al o).z.c7
  have HCL:Hid (∀ u,Calls prog 138 #[.string ⟨line.toArray⟩] u fun e w'=>e=.returned (.string ⟨line.toArray⟩)∧BW u w'):=fun u=>HKI.o.clone line u (by omega)
  have HEND:Hid (∀ (u u':World) (a:Option Addr) (c:Nat),BW w3 u→u.grownBy u' (Value.slice q3.g b3.log.length q3.gc).ownBlock→u'.ownsRow B 9 1 (.slice a (b3.log.length+1) c) (b3.log.length+1) (Am b3.log++Am [line])→∃ q',KS B K 1 (Jd b3 line) q' (u'.setCell ⟨K,7,none⟩ (.slice a (b3.log.length+1) c))∧Ce B w (u'.setCell ⟨K,7,none⟩ (.slice a (b3.log.length+1) c))):=fun u u' a c h g o=>by
   have o':u'.ownsRow B 9 1 (.slice a (b3.log++[line]).length c) (b3.log++[line]).length (Am (b3.log++[line])):=by
    rw [F6,List.length_append,List.length_singleton];exact o
   have h2:=(HK3.o.below h).setG g o';rw [List.length_append,List.length_singleton] at h2;have kh:=HK3.o.below h;have hu:Ce B w u':=(HB3.o.trans (.of h HBW3.o)).grownO g kh.log (Nat.le_trans HBW3.o h.size) (.inr rfl)
   exact ⟨_,h2,hu.setK (kh.kt.grown g (D8 kh.log kh.kt (by decide))) HK3.o.hK⟩
  clear HQ;go_upto_region 8 with fail
  refine wp_region_noPanic ?_
  go_region_law (first
   | (go_simp;go_at_call 138;(first | refine Calls.mono (HCL.o _) ?_);rintro e u2 ⟨rfl,p2⟩;have k2:BW w3 u2:=next (by go_grown) p2;have cc7:=(HK3.o.below k2).z.c7;have aa7:=fun o=>((HK3.o.below k2).al o).z.c7;have HS2:Hid (w3.heap.size≤u2.heap.size):=k2.size;clear p2)
   | (refine N7 rfl (.tmp 33) (.tmp 36) rfl B (.slice q3.g b3.log.length q3.gc) b3.log.length (Am b3.log) (by simp [Act.eval]) (Av HK3.o.log (by have:=HS2.o;go_grown)) (some ⟨u2.heap.size,0,none⟩) 1 [line] (by simp [Act.eval];try rfl) (jD (by simp)) (by simp;omega) (by have:=HBW3.o;have:=k2.size;simp;omega) ?_
      intro v6 w6 o6 g6
      (try simp only [List.length_singleton] at o6)
      obtain ⟨va,vc,hva⟩:=Xf o6;subst hva;have HO6:Hid (w6.ownsRow B 9 1 (.slice va (b3.log.length+1) vc) (b3.log.length+1) (Am b3.log++Am [line])):=o6
      obtain ⟨y6,x6⟩:=kbG HK3.o g6 (by have:=HS2.o;go_grown)
      have HG6:Hid _:=HEND.o _ _ va vc (by have:=HS2.o;go_grown) g6 o6
      clear o6 g6)
   | fail)
  all_goals
   refine NoPanic.normal ?_;go_wp2_with fail
   obtain ⟨q',hk6,hb6⟩:=HG6.o
   refine leaves_cons (f:=114) (args:=#[.pointer (some ⟨K,0,none⟩)]) (by simp) (by simp [go_sem]) ?_
   refine (unlock_deferred muH ⟨K,0,none⟩ .returning _ hk6.z.c0 hk6.z.z0).mono ?_;rintro e u' w7 ⟨rfl,rfl,rfl⟩;exact ⟨_,results_tmp rfl _ _ _,(Jd b3 line,0),q',_,HQ2.o,rfl,.inl ⟨rfl,rfl⟩,hk6.setSt 0,hb6.setK hk6.kt hk6.hK⟩
 ·have HYY:Hid (if 600≤b.log.length then FV E y else NF E y):=by rw [Hid,if_neg (by have:=hfi;omega)];exact hy
  clear hy
  have HQ2:Hid (D9 F b line (b3,c3)):=by have h:=HQ.o;rw [if_neg hc] at h;exact h
  clear HQ;go_wp2_with fail
  refine leaves_cons (f:=114) (args:=#[.pointer (some ⟨K,0,none⟩)]) (by simp) (by simp [go_sem]) ?_
  refine (unlock_deferred muH ⟨K,0,none⟩ .returning _ HK3.o.z.c0 HK3.o.z.z0).mono ?_;rintro e u' w4 ⟨rfl,rfl,rfl⟩;exact ⟨_,results_tmp rfl _ _ _,(b3,c3),q3,_,HQ2.o,rfl,.inr ⟨hc,_,HYY.o,rfl⟩,HK3.o.setSt 0,HB3.o.setK HK3.o.kt HK3.o.hK⟩
theorem KS.past {B K R:Nat} {st0 st:Int} {b:Bk} {q:Bp} {w u u':World} (h0:KS B K st0 b q w) (h:KS B K st b q u) (g:u.grownBy u' (some R)) (hR:w.heap.size≤R):KS B K st b q u':=by
 have ne:∀ {t:TypeId} {s n:Nat} {v:Value} {xs:List Value},w.ownsRow B t s v n xs→v.ownBlock=none∨v.ownBlock≠some R:=fun o=>.inr fun e=>by
  have:=(o.lt _ e).2;omega
 have nK:some K≠some R:=fun e=>by injection e with e;have:=h0.z.lt;omega
 exact ⟨h.z.grown g nK,h.kt.grown g nK,h.off.kept g (ne h0.off),h.az.kept g (ne h0.az),h.cs.kept g (ne h0.cs),h.ls.kept g (ne h0.ls),h.log.kept g (ne h0.log),h.hK⟩
theorem mL {R i:Nat} {a w:World} {v:Value} (h:Below R a w):Below R a (w.setCell ⟨R,i,none⟩ v):=h.setCell nL _
theorem gU {R:Nat} {u u':World} (h:Below R u u') (hs:u.heap.size≤R+1):u.grownBy u' (some R) :=
 ⟨h.os,h.tape,h.output,h.size,fun k hk hr=>h.block k (by
  have:k≠R:=fun e=>hr (by rw [e])
  omega)⟩
theorem eG {B K:Nat} (b:Bk) (q:Bp) (w:World) (hk:KS B K 0 b q w) :
  Calls prog 52 #[.pointer (some ⟨K,0,none⟩)] w fun e w'=>e=.returned (C5 b q)∧KS B K 0 b q w'∧Below B w w':=by
 obtain ⟨R,hR⟩:∃ R,w.heap.size=R:=⟨_,rfl⟩;have HKw:Hid (KS B K 0 b q w):=hk;obtain ⟨W,hW⟩:∃ W,W=w.alloc (.cells qzB 31):=⟨_,rfl⟩
 have HK0:Hid (KS B K 0 b q W):=by rw [Hid,hW];exact hk.al _
 have HZ0:Hid (Z0 R W):=by rw [Hid,hW,← hR];exact Z6.new w _ _ _ _ _ _ _
 have HBW:Hid (Below R w W):=by rw [Hid,hW,← hR];exact bR.alloc nL _
 have HSZ:Hid (W.heap.size=R+1):=by rw [Hid,hW,← hR];simp
 have HKR:Hid (K<R):=by rw [Hid,← hR];exact hk.z.lt
 have HBR:Hid (B≤R):=by have:=HKR.o;have:=hk.hK;rw [Hid];omega
 have HW:Hid _:=hW;have HRR:Hid _:=hR;have c0:=HK0.o.z.c0;have z0:=HK0.o.z.z0
 have hne:R≠K:=by have:=HKR.o;omega
 clear hk hW hR
 go_enter_defers func52,ntmps52
 go_wp2_with fail
 rw [← HW.o,HRR.o];refine (lock_free muH ⟨K,0,none⟩ W c0 z0).mono ?_;rintro e w1 ⟨rfl,hw1⟩
 have HK1:Hid (KS B K 1 b q w1):=by rw [Hid,hw1];exact HK0.o.setSt 1
 have HZ1:Hid (Z0 R w1):=by rw [Hid,hw1];exact HZ0.o.far (fun e=>hne e.symm)
 have HB1:Hid (Below B w w1):=by rw [Hid,hw1];exact (HBW.o.mono HBR.o).setCell HK0.o.hK _
 have HS1:Hid (w1.heap.size≤R+1):=by rw [Hid,hw1];have:=HSZ.o;simp;omega
 clear hw1 c0 z0 HW HZ0 HSZ;go_upto_region 3 with fail
 have HS:Hid (∀ u,Below R w1 u→u.cell? ⟨K,2,none⟩=some (.slice q.l b.ls.length q.lc)∧u.cell? ⟨K,3,none⟩=some (.int .i64 b.today)∧u.cell? ⟨K,4,none⟩=some (.slice q.o b.off.length q.oc)∧u.cell? ⟨K,5,none⟩=some (.slice q.a b.az.length q.ac)∧u.cell? ⟨K,6,none⟩=some (.slice q.c b.cs.length q.cc)∧u.cell? ⟨K,7,none⟩=some (.slice q.g b.log.length q.gc)):=fun u h=>by
  have l:=HKR.o;have z:=HK1.o.z;exact ⟨(h.cell (p:=⟨K,2,none⟩) l).trans z.c2,(h.cell (p:=⟨K,3,none⟩) l).trans z.c3,(h.cell (p:=⟨K,4,none⟩) l).trans z.c4,(h.cell (p:=⟨K,5,none⟩) l).trans z.c5,(h.cell (p:=⟨K,6,none⟩) l).trans z.c6,(h.cell (p:=⟨K,7,none⟩) l).trans z.c7⟩
 have k0:Below R w1 w1:=bR;obtain ⟨t0,t1,t2,t3,t4,t5,s0,s1,s2,s3,s4,s5⟩:=HZ1.o
 have HST:Hid (∀ u,Below R w1 u→KS B K 1 b q u∧Below B w u):=fun u h=>⟨HKw.o.past HK1.o (gU h HS1.o) (by rw [HRR.o];exact nL),HB1.o.trans (h.mono HBR.o)⟩
 go_region_held3 (fun u=>u.cell? ⟨K,2,none⟩=some (.slice q.l b.ls.length q.lc)∧u.cell? ⟨K,3,none⟩=some (.int .i64 b.today)∧u.cell? ⟨K,4,none⟩=some (.slice q.o b.off.length q.oc)∧u.cell? ⟨K,5,none⟩=some (.slice q.a b.az.length q.ac)∧u.cell? ⟨K,6,none⟩=some (.slice q.c b.cs.length q.cc)∧u.cell? ⟨K,7,none⟩=some (.slice q.g b.log.length q.gc)) (first | with_reducible exact HS.o _ k0.drew | with_reducible exact HS.o _ k0 | (refine HS.o _ ?_;repeat (first | with_reducible exact k0 | with_reducible refine mL ?_ | with_reducible refine Below.drew ?_))) (fail)
 all_goals
  go_wp2_with fail
  have HZF:Hid _:=(((((((((((((HZ1.o.set0 (.int .i64 0)).set1 (.slice none 0 0)).set2 (.slice none 0 0)).set3 (.slice none 0 0)).set4 (.slice none 0 0)).set5 (.slice none 0 0)).set0 (.int .i64 b.today)).set1 (.slice q.o b.off.length q.oc)).set2 (.slice q.a b.az.length q.ac)).set3 (.slice q.c b.cs.length q.cc)).set4 (.slice q.l b.ls.length q.lc)).set5 (.slice q.g b.log.length q.gc)).below (bR.drew)).far (B':=K) (i:=0) (x:=.int .i32 0) (fun e=>hne e.symm)
  clear t0 t1 t2 t3 t4 t5 s0 s1 s2 s3 s4 s5
  refine leaves_cons (f:=114) (args:=#[.pointer (some ⟨K,0,none⟩)]) (by simp) (by simp [go_sem]) ?_
  refine (unlock_deferred muH ⟨K,0,none⟩ .returning _ (HST.o _ (by repeat (first | with_reducible exact k0 | with_reducible refine mL ?_ | with_reducible refine Below.drew ?_))).1.z.c0 (HST.o _ (by repeat (first | with_reducible exact k0 | with_reducible refine mL ?_ | with_reducible refine Below.drew ?_))).1.z.z0).mono ?_
  rintro e u' w4 ⟨rfl,rfl,hw4⟩
  have HK4:Hid (KS B K 0 b q w4):=by rw [Hid,hw4];exact (HST.o _ (by repeat (first | with_reducible exact k0 | with_reducible refine mL ?_ | with_reducible refine Below.drew ?_))).1.setSt 0
  have HB4:Hid (Below B w w4):=by rw [Hid,hw4];exact (HST.o _ (by repeat (first | with_reducible exact k0 | with_reducible refine mL ?_ | with_reducible refine Below.drew ?_))).2.setCell HK1.o.hK _
  have HZ4:Hid (ZQ R b q w4):=by rw [Hid,hw4];exact HZF.o
  clear hw4 HZF;obtain ⟨t0,t1,t2,t3,t4,t5,-,-,-,-,-,-⟩:=HZ4.o;refine ⟨C5 b q,?_,rfl,HK4.o,HB4.o⟩
  simp [results,results52,go_sem,t0,t1,t2,t3,t4,t5,C5]
  try rfl
end Kb
namespace Kb
open Go.RowKit Go.Extern.Stop Go.Stop Go.Extern Go.Proofs.Tryz
def kQ : TypeId → Sem Value := fun t => do Rtype.noPackHeld "Comparable" t; pure (.bool (← typeInfo t).comparable)
theorem So (v:Value) (w:World):(Extern.ReflectliteType.typeOf #[.iface 372 v]).run prog w=.ok (.iface 247 (.agg #[.pointer (some ⟨17,372,none⟩)])) w:=by kernel_rfl
theorem Ll (w:World):((Extern.ReflectliteType.method kQ) #[.agg #[.pointer (some ⟨17,372,none⟩)]]).run prog w=.ok (.bool true) w:=by kernel_rfl
theorem Qd (v : Value) (w : World) : (Go.method 501 247 v "Comparable").run prog w = .ok (390, v) w := by kernel_rfl
theorem dJ:(prog.info? 372).map (·.comparable)=some true:=by kernel_rfl
theorem cQ:(prog.info? 390).map (·.size)=some 1:=by kernel_rfl
theorem Wy (v:Value) (xT:TypeId) (w:World):(Instr.typeAssert (.iface 372 v) xT 249 true).run prog w=.ok (.tuple #[.nilIface,.bool false]) w:=run_typeAssert_lacksB underlying249 (by kernel_rfl) (by kernel_rfl) v xT w
theorem Xj (v:Value) (xT:TypeId) (w:World):(Instr.typeAssert (.iface 372 v) xT 252 true).run prog w=.ok (.tuple #[.nilIface,.bool false]) w:=run_typeAssert_lacksB underlying252 (by kernel_rfl) (by kernel_rfl) v xT w
theorem Wl (v:Value) (xT:TypeId) (w:World):(Instr.typeAssert (.iface 372 v) xT 254 true).run prog w=.ok (.tuple #[.nilIface,.bool false]) w:=run_typeAssert_lacksB underlying254 (by kernel_rfl) (by kernel_rfl) v xT w
theorem We (v:Value) (xT:TypeId) (w:World):(Instr.typeAssert (.iface 170 v) xT 249 true).run prog w=.ok (.tuple #[.nilIface,.bool false]) w:=run_typeAssert_lacksB underlying249 (by kernel_rfl) (by kernel_rfl) v xT w
theorem Ta (v:Value) (xT:TypeId) (w:World):(Instr.typeAssert (.iface 170 v) xT 252 true).run prog w=.ok (.tuple #[.iface 170 v,.bool true]) w:=run_typeAssert_hasB underlying252 (by kernel_rfl) v xT w
theorem Qa (v : Value) (w : World) : (Go.method 501 170 v "Unwrap").run prog w = .ok (381, v) w := by kernel_rfl
theorem kO (y:Value) (c:Int) (w:World):Calls prog 381 #[.agg #[y,.int .i64 c]] w fun e w'=>e=.returned y∧BW w w':=by
 go_enter func381,ntmps381
 go_wp2;go_ret
 exact ⟨by simp,by go_grown⟩
theorem qM (b:Addr) (w:World) :
  Calls prog 128 #[.nilIface,.iface 372 (.pointer (some b))] w fun e w'=>e=.returned (.bool false)∧w'=w:=by
 have hn:=run_eql_iface_nil_left (P:=prog) w 372 (.pointer (some b)) underlying104
 go_enter func128,ntmps128
 go_wp2;go_ret;exact ⟨rfl,rfl⟩
theorem qD (c:Int) (b:Addr) (w:World) :
  Calls prog 128 #[.iface 170 (.agg #[.iface 372 (.pointer (some b)),.int .i64 c]),.iface 372 (.pointer (some b))] w fun e w'=>e=.returned (.bool true)∧BW w w':=by
 obtain ⟨i,hi,hcmp⟩:=Option.map_eq_some_iff.1 dJ;obtain ⟨j,hj,hjs⟩:=Option.map_eq_some_iff.1 cQ
 have h8:=@run_callFunc_extern prog 164 _ Extern.ReflectliteType.typeOf func164 (by kernel_rfl) (by kernel_rfl) (by kernel_rfl) (by kernel_rfl)
 have h32:=@run_callFunc_extern prog 390 _ (Extern.ReflectliteType.method kQ) func390 (by kernel_rfl) (by kernel_rfl) (by kernel_rfl) (by kernel_rfl)
 have tT:=So;have cT:=Ll;have mR:=Qd;have nE:=Wy;have uE:=Xj;have vE:=Wl;have nW:=We;have uW:=Ta;have mU:=Qa
 have heq:=fun W=>run_eql_iface_ptr_same (P:=prog) W b underlying104 underlying372 hi hcmp hj
 have hty:=run_eql_iface_types (P:=prog) 170 372 (.agg #[.iface 372 (.pointer (some b)),.int .i64 c]) (.pointer (some b)) underlying104 (by decide) w
 go_enter func128,ntmps128
 go_wp2;refine wp_loop_rounds 2 ?_;rw [rounds_succ]
 go_wp2_with (go_at_call 381;refine Calls.mono (kO _ _ _) ?_;rintro e w1 ⟨rfl,b1⟩;have HB1:Hid (BW w w1):=next (by go_grown) b1;clear b1)
 rw [rounds_succ];go_wp2;go_ret;exact ⟨rfl,HB1.o⟩
theorem nA (c:Int) (a b:Addr) (ca cb:Array Value) (ta tb:TypeId) (w:World) (hne:a≠b) (ha:w.heap[a.block]?=some (.cells ca ta (0,0))) (hb:w.heap[b.block]?=some (.cells cb tb (0,0))) :
  Calls prog 128 #[.iface 170 (.agg #[.iface 372 (.pointer (some a)),.int .i64 c]),.iface 372 (.pointer (some b))] w fun e w'=>e=.returned (.bool false)∧BW w w':=by
 obtain ⟨i,hi,hcmp⟩:=Option.map_eq_some_iff.1 dJ;obtain ⟨j,hj,hjs⟩:=Option.map_eq_some_iff.1 cQ
 have h8:=@run_callFunc_extern prog 164 _ Extern.ReflectliteType.typeOf func164 (by kernel_rfl) (by kernel_rfl) (by kernel_rfl) (by kernel_rfl)
 have h32:=@run_callFunc_extern prog 390 _ (Extern.ReflectliteType.method kQ) func390 (by kernel_rfl) (by kernel_rfl) (by kernel_rfl) (by kernel_rfl)
 have tT:=So;have cT:=Ll;have mR:=Qd;have nE:=Wy;have uE:=Xj;have vE:=Wl;have nW:=We;have uW:=Ta;have mU:=Qa
 have hty:=run_eql_iface_types (P:=prog) 170 372 (.agg #[.iface 372 (.pointer (some a)),.int .i64 c]) (.pointer (some b)) underlying104 (by decide) w
 have HA:Hid (w.heap[a.block]?=some (.cells ca ta (0,0))):=ha;have HB:Hid (w.heap[b.block]?=some (.cells cb tb (0,0))):=hb;clear ha hb
 go_enter func128,ntmps128
 go_wp2;refine wp_loop_rounds 2 ?_;rw [rounds_succ]
 go_wp2_with (go_at_call 381;refine Calls.mono (kO _ _ _) ?_;rintro e w1 ⟨rfl,b1⟩;have HB1:Hid (BW w w1):=next (by go_grown) b1;clear b1)
 have heq:=run_eql_iface_ptr_other (P:=prog) w1 underlying104 underlying372 hi hcmp hj (by rw [hjs];decide) hne ((HB1.o.block _ (Ed HA.o)).trans HA.o) ((HB1.o.block _ (Ed HB.o)).trans HB.o)
 rw [rounds_succ];go_wp2;go_ret;exact ⟨rfl,HB1.o⟩
end Kb
theorem Ua (w:World) (base:Nat) (ty:TypeId) (v:Value) (n:Nat) (xs:List Value) (hown:w.ownsRow base 294 2 v n xs) (gs c:Nat) (x:Cd) (h0:w.cell? ⟨gs,0,none⟩=some (.int .i64 x.1)) (h1:w.cell? ⟨gs,1,none⟩=some (.int .i64 x.2))
  (hn:n+1≤5000000) (hbase:base≤w.heap.size) :
  ∃ v' w',(Builtin.append_ #[291,291] ty #[v,.slice (some ⟨gs,0,none⟩) 1 c]).run prog w=.ok v' w'∧w'.ownsRow base 294 2 v' (n+1) (xs++Nj x)∧w.grownBy w' v.ownBlock:=by
 obtain ⟨i0,hi,hz0,hz1,hz2⟩:=info_parts iP
 have hnews:∀ j u,(Nj x)[j]?=some u→w.cell? ((⟨gs,0,none⟩:Addr).add j)=some u:=by
  intro j u hj
  have hlt:j<2:=by have:=(List.getElem?_eq_some_iff.1 hj).1;simpa [Nj] using this
  rcases (show j=0∨j=1 by omega) with rfl | rfl
  ·simp [Nj] at hj;subst hj;simpa [Addr.add] using h0
  ·simp [Nj] at hj;subst hj;simpa [Addr.add] using h1
 obtain ⟨v',w',h1,h2,h3,_⟩:=run_append_own_at (P:=prog) w base 291 ty 294 i0 _ 2 16 underlying291 hi hz0 hz1 hz2 rfl (by decide) v n xs hown ⟨gs,0,none⟩ 1 c (Nj x) rfl hnews (Yu [x]) (by unfold maxLen;omega) (by omega) hbase
 exact ⟨v',w',h1,h2,h3⟩
theorem Rs {ops:Array Oper} {o:Oper} {a:Act} {w:World} {K:Act→World→Prop} {Q:Exit→Act→World→Prop} {E:Prop} (hgd:o.guard=none) (s x:Operand)
  (ho:o.op=.call { callee:=.builtin .append,args:=#[s,x],argTypes:=#[291,291] }) (base:Nat) (v:Value) (n:Nat) (xs:List Value) (hs:a.eval s=v) (hown:w.ownsRow base 294 2 v n xs)
  (gs c:Nat) (y:Cd) (hx:a.eval x=.slice (some ⟨gs,0,none⟩) 1 c) (h0:w.cell? ⟨gs,0,none⟩=some (.int .i64 y.1)) (h1:w.cell? ⟨gs,1,none⟩=some (.int .i64 y.2)) (hn:n+1≤5000000) (hbase:base≤w.heap.size)
  (h:∀ v' w',w'.ownsRow base 294 2 v' (n+1) (xs++Nj y)→w.grownBy w' v.ownBlock→K (a.put o.dst v') w') :
  if Region.wanted o (yielded ops a.tmps)=true then Oper.wp prog o a w K Q else E:=by
 have hw:Region.wanted o (yielded ops a.tmps)=true:=by simp [Region.wanted,hgd]
 rw [if_pos hw];obtain ⟨v',w',hr,h1,h2⟩:=Ua w base o.type v n xs hown gs c y h0 h1 hn hbase;unfold Oper.wp execOp
 simp only [ho,resolve,invoke,builtin,Sem.run_bind,Sem.run_pure,Result.andThen_ok,List.map_toArray,List.map_cons,List.map_nil,hs,hx,hr]
 exact h v' w' h1 h2
theorem qJ {w:World} {base n:Nat} {v:Value} {xs:List Value} (h:w.ownsRow base 294 2 v (n+1) xs):∃ g cap,v=.slice (some ⟨g,0,none⟩) (n+1) cap:=by
 rcases h.2 with ⟨_,h0⟩ | ⟨g,c,uV,rfl,_⟩
 ·omega
 ·exact ⟨g,c,rfl⟩
theorem iH {w:World} {base n size:Nat} {t:TypeId} {v:Value} {xs:List Value} (h:w.ownsRow base t size v n xs) (p:Addr) (u:Value) (hp:∀ g,v.ownBlock=some g→g≠p.block):(w.setCell p u).ownsRow base t size v n xs:=by
 obtain ⟨h1,h2⟩:=h;refine ⟨h1,?_⟩
 rcases h2 with h | ⟨g,cap,uV,hv,hg,hh,a1,a2,a3,a4⟩
 ·exact .inl h
 ·exact .inr ⟨g,cap,uV,hv,hg,(Below.heap_setCell w p u g (hp g (by rw [hv];rfl))).trans hh,a1,a2,a3,a4⟩
theorem taC (s p:Int) (W:World):(Instr.typeAssert (.iface 294 (.agg #[.int .i64 s,.int .i64 p])) 20 294 false).run prog W=.ok (.agg #[.int .i64 s,.int .i64 p]) W:=by kernel_rfl
theorem tH (s p:Int) (W:World):(Instr.typeAssert (.iface 294 (.agg #[.int .i64 s,.int .i64 p])) 20 294 true).run prog W=.ok (.tuple #[.agg #[.int .i64 s,.int .i64 p],.bool true]) W:=by kernel_rfl
theorem eV {w u:World} {H:List Cd} {ao:Option Addr} {cap:Nat} (h:HP none w H ao cap u) (s p:Int) (hn:H.length≤1000) :
  Calls prog 403 #[.pointer (some ⟨w.heap.size,0,none⟩),.iface 294 (.agg #[.int .i64 s,.int .i64 p])] u fun e u'=>e=.returned (.tuple #[])∧∃ g c,HP none w (H++[(s,p)]) (some ⟨g,0,none⟩) c u':=by
 have HH:Hid (HP none w H ao cap u):=h;have k0:=h.box;have f0:=h.fz;have hlt:=h.lt;have ta:=taC s p;clear h
 go_enter func403,ntmps403
 have k1:∀ o,(u.alloc o).cell? ⟨w.heap.size,0,none⟩=some (.slice ao H.length cap):=fun o=>by rw [World.cell?_alloc_lt _ _ _ hlt];exact k0
 go_region_law ((refine Rs rfl (.tmp 7) (.tmp 10) rfl (w.heap.size+1) (.slice ao H.length cap) H.length (Fj H) (by rfl) (pT HH.o.own (by go_grown)) u.heap.size 1 (s,p) (by rfl) (by simp [go_sem]) (by simp [go_sem]) (by omega) (by simp;omega) ?_;intro v5 w5 o5 g5;obtain ⟨h5,k5,rfl⟩:=qJ o5;have c5:w5.cell? ⟨w.heap.size,0,none⟩=some (.slice ao H.length cap):=(g5.cell_far ⟨w.heap.size,0,none⟩ (by simp;omega) HH.o.apart).trans (by simp [go_sem,World.cell?_alloc_some,k0]);have z5:w5.frozen? ⟨w.heap.size,0,none⟩=false:=(g5.frozen_far ⟨w.heap.size,0,none⟩ (by simp;omega) HH.o.apart).trans (by have:=((Below.refl u.heap.size u).alloc nL (.cells #[.int .i64 s,.int .i64 p] 294)).frozen (p:=⟨w.heap.size,0,none⟩) hlt;simpa [f0] using this)))
 all_goals
  have HO:Hid (w5.ownsRow (w.heap.size+1) 294 2 (.slice (some ⟨h5,0,none⟩) (H++[(s,p)]).length k5) (H++[(s,p)]).length (Fj (H++[(s,p)]))):=by rw [Hid,List.length_append,Sa];exact o5
  have HB:Hid (BW w w5):=Below.grown (HP.below HH.o (by go_grown)).bel g5 (by simp;omega) (fun j hj=>by have:=(HH.o.own.lt j hj).1;omega)
  have hh5:=(o5.lt h5 rfl).1;clear o5 g5;go_wp2;go_end0
  refine ⟨rfl,h5,k5,HB.o.setCell nL _,?_,by simp [z5],?_,fun _ _ e=>by cases e⟩
  ·rw [List.length_append];exact World.cell?_setCell_same w5 ⟨w.heap.size,0,none⟩ _ c5
  ·exact iH HO.o ⟨w.heap.size,0,none⟩ _ (fun x hx=>by have e:h5=x:=Option.some.inj hx;show x≠w.heap.size;omega)
theorem qX:prog.underlying 291=some (.slice (prog.elem 291)):=by
 have e:prog.elem 291=294:=by simp [Program.elem,underlying291]
 rw [e];exact underlying291
theorem sJ:prog.elem 291=294:=by simp [Program.elem,underlying291]
theorem rX (w:World):(sizeOf 294).run prog w=.ok 2 w:=by
 obtain ⟨i0,hi,hz0,hz1,hz2⟩:=info_parts iP
 simp [sizeOf,typeInfo,hi,hz1]
theorem qE {g n c s:Nat} (hs:s≤c) (W:World):(Instr.slice 291 (.slice (some ⟨g,0,none⟩) n c) none (some (.int .i64 s)) none).run prog W=.ok (.slice (some ⟨g,0,none⟩) s c) W:=by
 rw [run_slice_h W _ _ _ _ qX .i64 _ (by omega) (by omega),sJ,rX]
 simp [Result.andThen,sliced,Addr.add]
theorem HP.cap {q:Option (Nat×Obj)} {w u:World} {H:List Cd} {g cap:Nat} (h:HP q w H (some ⟨g,0,none⟩) cap u):H.length≤cap:=by
 rcases h.own.2 with ⟨hv,_⟩ | ⟨g',c,uV,hv,_,_,hc,_⟩
 ·cases hv
 ·obtain ⟨rfl,rfl⟩:g=g'∧cap=c:=by simpa using hv
  exact hc
theorem kA {q:Option (Nat×Obj)} {w u:World} {H:List Cd} {g cap:Nat} (h:HP q w H (some ⟨g,0,none⟩) cap u) (m:Nat) (hm:H.length=m+1) (hn:H.length≤1000) :
  Calls prog 402 #[.pointer (some ⟨w.heap.size,0,none⟩)] u fun e u'=>e=.returned (.iface 294 (.agg #[.int .i64 (Bc H m).1,.int .i64 (Bc H m).2]))∧BW w u'∧∀ x o,q=some (x,o)→u'.heap[x]?=some o:=by
 have HK:Hid (∀ x o,q=some (x,o)→u.heap[x]?=some o∧w.heap.size<x):=fun x o e=>⟨(h.kp x o e).1,(h.kp x o e).2.1⟩
 have HB:Hid (BW w u):=h.bel;have k0:=h.box;have f0:=h.fz;have hlt:=h.lt
 obtain ⟨k1,k2⟩:=h.at (k:=m) (by omega)
 have hcap:=h.cap
 have hgu:=h.row (by omega)
 obtain ⟨g',e,hg1,hg2⟩:=hgu
 obtain rfl:g=g':=by simpa using e
 obtain ⟨⟨a,b⟩,hab⟩:∃ x,Bc H m=x:=⟨_,rfl⟩;rw [hab] at k1 k2 ⊢
 simp only at k1 k2 ⊢
 rw [hm] at k0 hcap hn
 have hsl:=qE (g:=g) (n:=m+1) (c:=cap) (s:=m) (by omega)
 clear hab h e
 go_enter func402,ntmps402
 go_upto_region 3 with fail
 obtain ⟨W,hW⟩:∃ W,u.alloc (.cells #[.int .i64 a,.int .i64 b] 294)=W:=⟨_,rfl⟩
 have j0:W.cell? ⟨u.heap.size,0,none⟩=some (.int .i64 a):=by rw [← hW];simp
 have j1:W.cell? ⟨u.heap.size,1,none⟩=some (.int .i64 b):=by rw [← hW];simp
 have j2:W.cell? ⟨w.heap.size,0,none⟩=some (.slice (some ⟨g,0,none⟩) (m+1) cap):=by rw [← hW,World.cell?_alloc_lt _ _ _ hlt];exact k0
 have j3:W.frozen? ⟨w.heap.size,0,none⟩=false:=by rw [← hW];have:=((Below.refl u.heap.size u).alloc nL (.cells #[.int .i64 a,.int .i64 b] 294)).frozen (p:=⟨w.heap.size,0,none⟩) hlt;rw [this];exact f0
 have HKW:Hid (∀ x o,q=some (x,o)→W.heap[x]?=some o∧w.heap.size<x):=fun x o e=>by
  obtain ⟨h1,h2⟩:=HK.o x o e;refine ⟨?_,h2⟩;rw [← hW];exact (((Below.refl u.heap.size u).alloc nL _).block x (Array.getElem?_eq_some_iff.1 h1).1).trans h1
 have HBW:Hid (BW w W):=by rw [Hid,← hW];exact HB.o.alloc HB.o.size _
 rw [hW]
 have hne:¬ w.heap.size=u.heap.size:=by omega
 have hne2:¬ u.heap.size=w.heap.size:=by omega
 clear hW k0 f0 k1 k2;go_wp2;go_ret
 refine ⟨rfl,HBW.o.setCell nL _,fun x o e=>?_⟩
 obtain ⟨h1,h2⟩:=HKW.o x o e
 rw [Below.heap_setCell _ _ _ _ (fun e=>by have e:x=w.heap.size:=e;omega)]
 exact h1
def iC (w:World):Value:=.iface 322 (.pointer (some ⟨w.heap.size,0,none⟩))
theorem Mv (ao:Option Addr) (n cap:Nat) (u:World):Calls prog 282 #[.slice ao n cap] u fun e u'=>e=.returned (.int .i64 n)∧u'=u:=by
 go_enter func282,ntmps282
 go_wp2;go_ret;exact ⟨rfl,rfl⟩
theorem fU {H:List Cd} {j:Nat} (h:Qr H j) (h0:0<j) (hj:j<H.length) (hl:Li (Bc H j) (Bc H (Lp j))=true):Qr (Cu H (Lp j) j) (Lp j):=by
 unfold Qr;have hp:=J0 h0
 rw [gP (show Lp j<H.length by omega) hj,Hc]
 exact dR h h0 hj hl
theorem qI {w u:World} {H:List Cd} {g cap:Nat} (h:HP none w H (some ⟨g,0,none⟩) cap u) (j:Nat) (hj:j<H.length) (hn:H.length≤1000) (hnear:Qr H j) :
  Calls prog 310 #[iC w,.int .i64 j] u fun e u'=>e=.returned (.tuple #[])∧∃ G,HP none w G (some ⟨g,0,none⟩) cap u'∧F1 G∧Fv H G:=by
 have HH:Hid (HP none w H (some ⟨g,0,none⟩) cap u):=h;have HN:Hid (Qr H j):=hnear;clear h hnear;unfold iC
 go_enter func310,ntmps310
 go_wp2
 go_loopw [1,4] (fun v _ wr=>∃ (k:Nat) (G:List Cd),k≤j∧v=.int .i64 k∧HP none w G (some ⟨g,0,none⟩) cap wr∧Qr G k∧Fv H G) (fun v _ _=>(intOf v).toNat)
 case atStart=>exact ⟨j,H,nL,rfl,HH.o,HN.o,Fv.refl H⟩
 case round =>
  obtain ⟨k,G,hk,rfl,hp,hne,hs⟩:=hrel;have HGL:Hid (G.length=H.length):=hs.1
  have hkG:k<G.length:=by have:=HGL.o;omega
  have HP0:Hid (HP none w G (some ⟨g,0,none⟩) cap wr):=hp;have HNE:Hid (Qr G k):=hne;have HS:Hid (Fv H G):=hs;have hbox:=hp.box;have hml:=Fk hbox;have hms:=Iv hbox;clear HH HN hp hne hs
  by_cases hk0:k=0
  ·subst hk0
   have hq:(-1:Int).tdiv 2=0:=by decide
   go_wp2;go_end0;exact ⟨rfl,G,HP0.o,Tt HNE.o (.inl rfl),HS.o⟩
  ·have hq:((k:Int) - 1).tdiv 2=((Lp k:Nat):Int):=by
     unfold Lp
     rw [Int.tdiv_eq_ediv_of_nonneg (by omega)]
     omega
   have hpk:=J0 (show 0<k by omega)
   obtain ⟨p,hpe⟩:∃ p,Lp k=p:=⟨_,rfl⟩
   have HSW:Hid (Li (Bc G k) (Bc G (Lp k))=true→Qr (Cu G (Lp k) k) (Lp k)):=fun hl=>fU HNE.o (by omega) hkG hl
   have HDN:Hid (Li (Bc G k) (Bc G (Lp k))=false→F1 G):=fun hl=>Tt HNE.o (.inr hl)
   rw [hpe] at hq hpk HSW HDN
   have hneq:((p:Int) == (k:Int))=false:=by simp;omega
   have hkk:(0:Int)<(k:Int):=by omega
   clear hpe
   cases hl:Li (Bc G k) (Bc G p)
   ·have HL:Hid (∀ v,HP none w G (some ⟨g,0,none⟩) cap v→Calls prog 400 #[.slice (some ⟨g,0,none⟩) G.length cap,.int .i64 k,.int .i64 p] v fun e u'=>e=.returned (.bool false)∧BW v u'):=fun v hv=>by rw [← hl];exact Dk hv k p hkG (by omega)
    have HIS:Hid (F1 G):=HDN.o hl;go_wp2_with fail
    refine (HL.o _ HP0.o).mono ?_;rintro e u2 ⟨rfl,b2⟩;have HP2:Hid (HP none w G (some ⟨g,0,none⟩) cap u2):=HP0.o.below b2;clear b2;go_wp2;go_end0;exact ⟨rfl,G,HP2.o,HIS.o,HS.o⟩
   ·have HL:Hid (∀ v,HP none w G (some ⟨g,0,none⟩) cap v→Calls prog 400 #[.slice (some ⟨g,0,none⟩) G.length cap,.int .i64 k,.int .i64 p] v fun e u'=>e=.returned (.bool true)∧BW v u'):=fun v hv=>by rw [← hl];exact Dk hv k p hkG (by omega)
    have HSG:Hid (Qr (Cu G p k) p):=HSW.o hl
    have HSS:Hid (Fv H (Cu G p k)):=HS.o.trans (gQ (by omega) hkG)
    go_wp2_with fail
    refine (HL.o _ HP0.o).mono ?_;rintro e u2 ⟨rfl,b2⟩;have hp2:=HP0.o.below b2;have HP2:Hid (HP none w G (some ⟨g,0,none⟩) cap u2):=hp2;have hms2:=Iv hp2.box;clear b2 hms hml hp2;go_wp2_with fail
    refine (Ke HP2.o p k hpk hkG).mono ?_;rintro e u3 ⟨rfl,hp3⟩;have HP3:Hid (HP none w (Cu G p k) (some ⟨g,0,none⟩) cap u3):=hp3;clear hp3;go_wp2
    go_roundw
    case rel=>exact ⟨p,Cu G p k,by omega,rfl,HP3.o,HSG.o,HSS.o⟩
    case measure=>simp [intOf];omega
structure DB (b:Nat) (c:Cs) (a:Ac) (t:Int) (o e:Value) (u:World):Prop where
 cb:CB b 0 c u
 a0:u.cell? ⟨b,12,none⟩=some (.int .i64 a.kind)
 a1:u.cell? ⟨b,13,none⟩=some (.int .i64 a.am)
 a2:u.cell? ⟨b,14,none⟩=some (.int .i64 a.rsn)
 td:u.cell? ⟨b,15,none⟩=some (.int .i64 t)
 ho:u.cell? ⟨b,16,none⟩=some o
 he:u.cell? ⟨b,17,none⟩=some e
 fz:FZ b 0 u
 fe:u.frozen? ⟨b,17,none⟩=false
theorem DB.below {b:Nat} {c:Cs} {a:Ac} {t:Int} {o e:Value} {u u':World} (h:DB b c a t o e u) (k:BW u u'):DB b c a t o e u':=by
 have l:=h.cb.lt;exact ⟨h.cb.below k,(k.cell (p:=⟨b,12,none⟩) l).trans h.a0,(k.cell (p:=⟨b,13,none⟩) l).trans h.a1,(k.cell (p:=⟨b,14,none⟩) l).trans h.a2,(k.cell (p:=⟨b,15,none⟩) l).trans h.td,(k.cell (p:=⟨b,16,none⟩) l).trans h.ho,(k.cell (p:=⟨b,17,none⟩) l).trans h.he,h.fz.below l k,(k.frozen (p:=⟨b,17,none⟩) l).trans h.fe⟩
theorem DB.grown {b:Nat} {c:Cs} {a:Ac} {t:Int} {o e:Value} {u u':World} {row:Option Nat} (h:DB b c a t o e u) (g:u.grownBy u' row) (hr:some b≠row):DB b c a t o e u':=by
 have l:=h.cb.lt;exact ⟨h.cb.grown g hr,(g.cell_far ⟨b,12,none⟩ l hr).trans h.a0,(g.cell_far ⟨b,13,none⟩ l hr).trans h.a1,(g.cell_far ⟨b,14,none⟩ l hr).trans h.a2,(g.cell_far ⟨b,15,none⟩ l hr).trans h.td,(g.cell_far ⟨b,16,none⟩ l hr).trans h.ho,(g.cell_far ⟨b,17,none⟩ l hr).trans h.he,h.fz.grown l g hr,(g.frozen_far ⟨b,17,none⟩ l hr).trans h.fe⟩
theorem DB.set4 {b:Nat} {c:Cs} {a:Ac} {t:Int} {o e:Value} {u:World} (h:DB b c a t o e u) (x:Int):DB b ⟨c.iss,c.acq,c.cur,c.am,x,c.rsn,c.cl,c.bk,c.fee,c.cop,c.sta,c.due⟩ a t o e (u.setCell ⟨b,4,none⟩ (.int .i64 x)):=by
 obtain ⟨⟨f0,f1,f2,f3,f4,f5,f6,f7,f8,f9,f10,f11⟩,a0,a1,a2,td,ho,he,⟨z0,z1,z2,z3,z4,z5,z6,z7,z8,z9,z10,z11⟩,fe⟩:=h
 simp only [Nat.zero_add] at f0 f1 f2 f3 f4 f5 f6 f7 f8 f9 f10 f11 z0 z1 z2 z3 z4 z5 z6 z7 z8 z9 z10 z11
 exact ⟨(by constructor<;>simp [go_sem, *]),by simp [go_sem,a0],by simp [go_sem,a1],by simp [go_sem,a2],by simp [go_sem,td],by simp [go_sem,ho],by simp [go_sem,he],(by constructor<;>simp [go_sem, *]),by simp [go_sem,fe]⟩
theorem DB.set5 {b:Nat} {c:Cs} {a:Ac} {t:Int} {o e:Value} {u:World} (h:DB b c a t o e u) (x:Int):DB b ⟨c.iss,c.acq,c.cur,c.am,c.st,x,c.cl,c.bk,c.fee,c.cop,c.sta,c.due⟩ a t o e (u.setCell ⟨b,5,none⟩ (.int .i64 x)):=by
 obtain ⟨⟨f0,f1,f2,f3,f4,f5,f6,f7,f8,f9,f10,f11⟩,a0,a1,a2,td,ho,he,⟨z0,z1,z2,z3,z4,z5,z6,z7,z8,z9,z10,z11⟩,fe⟩:=h
 simp only [Nat.zero_add] at f0 f1 f2 f3 f4 f5 f6 f7 f8 f9 f10 f11 z0 z1 z2 z3 z4 z5 z6 z7 z8 z9 z10 z11
 exact ⟨(by constructor<;>simp [go_sem, *]),by simp [go_sem,a0],by simp [go_sem,a1],by simp [go_sem,a2],by simp [go_sem,td],by simp [go_sem,ho],by simp [go_sem,he],(by constructor<;>simp [go_sem, *]),by simp [go_sem,fe]⟩
theorem DB.set6 {b:Nat} {c:Cs} {a:Ac} {t:Int} {o e:Value} {u:World} (h:DB b c a t o e u) (x:Int):DB b ⟨c.iss,c.acq,c.cur,c.am,c.st,c.rsn,x,c.bk,c.fee,c.cop,c.sta,c.due⟩ a t o e (u.setCell ⟨b,6,none⟩ (.int .i64 x)):=by
 obtain ⟨⟨f0,f1,f2,f3,f4,f5,f6,f7,f8,f9,f10,f11⟩,a0,a1,a2,td,ho,he,⟨z0,z1,z2,z3,z4,z5,z6,z7,z8,z9,z10,z11⟩,fe⟩:=h
 simp only [Nat.zero_add] at f0 f1 f2 f3 f4 f5 f6 f7 f8 f9 f10 f11 z0 z1 z2 z3 z4 z5 z6 z7 z8 z9 z10 z11
 exact ⟨(by constructor<;>simp [go_sem, *]),by simp [go_sem,a0],by simp [go_sem,a1],by simp [go_sem,a2],by simp [go_sem,td],by simp [go_sem,ho],by simp [go_sem,he],(by constructor<;>simp [go_sem, *]),by simp [go_sem,fe]⟩
theorem DB.set7 {b:Nat} {c:Cs} {a:Ac} {t:Int} {o e:Value} {u:World} (h:DB b c a t o e u) (x:Int):DB b ⟨c.iss,c.acq,c.cur,c.am,c.st,c.rsn,c.cl,x,c.fee,c.cop,c.sta,c.due⟩ a t o e (u.setCell ⟨b,7,none⟩ (.int .i64 x)):=by
 obtain ⟨⟨f0,f1,f2,f3,f4,f5,f6,f7,f8,f9,f10,f11⟩,a0,a1,a2,td,ho,he,⟨z0,z1,z2,z3,z4,z5,z6,z7,z8,z9,z10,z11⟩,fe⟩:=h
 simp only [Nat.zero_add] at f0 f1 f2 f3 f4 f5 f6 f7 f8 f9 f10 f11 z0 z1 z2 z3 z4 z5 z6 z7 z8 z9 z10 z11
 exact ⟨(by constructor<;>simp [go_sem, *]),by simp [go_sem,a0],by simp [go_sem,a1],by simp [go_sem,a2],by simp [go_sem,td],by simp [go_sem,ho],by simp [go_sem,he],(by constructor<;>simp [go_sem, *]),by simp [go_sem,fe]⟩
theorem DB.set8 {b:Nat} {c:Cs} {a:Ac} {t:Int} {o e:Value} {u:World} (h:DB b c a t o e u) (x:Int):DB b ⟨c.iss,c.acq,c.cur,c.am,c.st,c.rsn,c.cl,c.bk,x,c.cop,c.sta,c.due⟩ a t o e (u.setCell ⟨b,8,none⟩ (.int .i64 x)):=by
 obtain ⟨⟨f0,f1,f2,f3,f4,f5,f6,f7,f8,f9,f10,f11⟩,a0,a1,a2,td,ho,he,⟨z0,z1,z2,z3,z4,z5,z6,z7,z8,z9,z10,z11⟩,fe⟩:=h
 simp only [Nat.zero_add] at f0 f1 f2 f3 f4 f5 f6 f7 f8 f9 f10 f11 z0 z1 z2 z3 z4 z5 z6 z7 z8 z9 z10 z11
 exact ⟨(by constructor<;>simp [go_sem, *]),by simp [go_sem,a0],by simp [go_sem,a1],by simp [go_sem,a2],by simp [go_sem,td],by simp [go_sem,ho],by simp [go_sem,he],(by constructor<;>simp [go_sem, *]),by simp [go_sem,fe]⟩
theorem DB.set11 {b:Nat} {c:Cs} {a:Ac} {t:Int} {o e:Value} {u:World} (h:DB b c a t o e u) (x:Int):DB b ⟨c.iss,c.acq,c.cur,c.am,c.st,c.rsn,c.cl,c.bk,c.fee,c.cop,c.sta,x⟩ a t o e (u.setCell ⟨b,11,none⟩ (.int .i64 x)):=by
 obtain ⟨⟨f0,f1,f2,f3,f4,f5,f6,f7,f8,f9,f10,f11⟩,a0,a1,a2,td,ho,he,⟨z0,z1,z2,z3,z4,z5,z6,z7,z8,z9,z10,z11⟩,fe⟩:=h
 simp only [Nat.zero_add] at f0 f1 f2 f3 f4 f5 f6 f7 f8 f9 f10 f11 z0 z1 z2 z3 z4 z5 z6 z7 z8 z9 z10 z11
 exact ⟨(by constructor<;>simp [go_sem, *]),by simp [go_sem,a0],by simp [go_sem,a1],by simp [go_sem,a2],by simp [go_sem,td],by simp [go_sem,ho],by simp [go_sem,he],(by constructor<;>simp [go_sem, *]),by simp [go_sem,fe]⟩
theorem DB.set9 {b:Nat} {c:Cs} {a:Ac} {t:Int} {o e:Value} {u:World} (h:DB b c a t o e u) (x:Bool):DB b ⟨c.iss,c.acq,c.cur,c.am,c.st,c.rsn,c.cl,c.bk,c.fee,x,c.sta,c.due⟩ a t o e (u.setCell ⟨b,9,none⟩ (.bool x)):=by
 obtain ⟨⟨f0,f1,f2,f3,f4,f5,f6,f7,f8,f9,f10,f11⟩,a0,a1,a2,td,ho,he,⟨z0,z1,z2,z3,z4,z5,z6,z7,z8,z9,z10,z11⟩,fe⟩:=h
 simp only [Nat.zero_add] at f0 f1 f2 f3 f4 f5 f6 f7 f8 f9 f10 f11 z0 z1 z2 z3 z4 z5 z6 z7 z8 z9 z10 z11
 exact ⟨(by constructor<;>simp [go_sem, *]),by simp [go_sem,a0],by simp [go_sem,a1],by simp [go_sem,a2],by simp [go_sem,td],by simp [go_sem,ho],by simp [go_sem,he],(by constructor<;>simp [go_sem, *]),by simp [go_sem,fe]⟩
theorem DB.set17 {b:Nat} {c:Cs} {a:Ac} {t:Int} {o e:Value} {u:World} (h:DB b c a t o e u) (x:Value):DB b c a t o x (u.setCell ⟨b,17,none⟩ x):=by
 obtain ⟨⟨f0,f1,f2,f3,f4,f5,f6,f7,f8,f9,f10,f11⟩,a0,a1,a2,td,ho,he,⟨z0,z1,z2,z3,z4,z5,z6,z7,z8,z9,z10,z11⟩,fe⟩:=h
 simp only [Nat.zero_add] at f0 f1 f2 f3 f4 f5 f6 f7 f8 f9 f10 f11 z0 z1 z2 z3 z4 z5 z6 z7 z8 z9 z10 z11
 exact ⟨(by constructor<;>simp [go_sem, *]),by simp [go_sem,a0],by simp [go_sem,a1],by simp [go_sem,a2],by simp [go_sem,td],by simp [go_sem,ho],by simp [go_sem,he],(by constructor<;>simp [go_sem, *]),by simp [go_sem,fe]⟩
structure Env (b:Nat) (ao:Option Addr) (zs:List Int) (u:World):Prop where
 offs:Il b u ao zs
 tab:Di u
 gb:16<b
theorem Di.under {b:Nat} {w w':World} (h:Di w) (hb:Below b w w') (hg:16<b):Di w':=by
 have e : prog.globalNamed "loop.example/g00126/impl.stepDays" = some 16 := by kernel_rfl
 unfold Di Lib.TabIs World.var? at *;rw [e] at h ⊢
 simp only [Option.bind_some] at h ⊢
 rw [hb.block _ hg];exact h
theorem Env.keep {b:Nat} {ao:Option Addr} {zs:List Int} {u u':World} (h:Env b ao zs u) (k:Below b u u'):Env b ao zs u':=⟨h.offs.keep k,h.tab.under k h.gb,h.gb⟩
structure DS (b:Nat) (ao:Option Addr) (cp:Nat) (zs:List Int) (a:Ac) (t:Int) (c:Cs) (es:List En) (v:Value) (u:World):Prop where
 db:DB b c a t (.slice ao zs.length cp) v u
 own:u.ownsRow (b+1) 269 4 v es.length (Ba es)
 env:Env b ao zs u
theorem DS.lt {b:Nat} {ao:Option Addr} {cp:Nat} {zs:List Int} {a:Ac} {t:Int} {c:Cs} {es:List En} {v:Value} {u:World} (h:DS b ao cp zs a t c es v u):b<u.heap.size:=h.db.cb.lt
theorem DS.below {b:Nat} {ao:Option Addr} {cp:Nat} {zs:List Int} {a:Ac} {t:Int} {c:Cs} {es:List En} {v:Value} {u u':World} (h:DS b ao cp zs a t c es v u) (k:BW u u'):DS b ao cp zs a t c es v u' :=
 ⟨h.db.below k,Av h.own k,h.env.keep (k.mono (Nat.le_of_lt h.lt))⟩
theorem DS.offs {b:Nat} {ao:Option Addr} {cp:Nat} {zs:List Int} {a:Ac} {t:Int} {c:Cs} {es:List En} {v:Value} {u:World} (h:DS b ao cp zs a t c es v u):Aw u ao zs:=h.env.offs.at (Nat.le_of_lt h.lt)
theorem Bj {b n:Nat} {t:TypeId} {v:Value} {xs:List Value} {u:World} (h:u.ownsRow (b+1) t 4 v n xs):∀ g,v.ownBlock=some g→g≠b:=fun g hg=>by have:=(h.lt g hg).1;omega
theorem DS.set4 {b:Nat} {ao:Option Addr} {cp:Nat} {zs:List Int} {a:Ac} {t:Int} {c:Cs} {es:List En} {v:Value} {u:World} (h:DS b ao cp zs a t c es v u) (x:Int):DS b ao cp zs a t ⟨c.iss,c.acq,c.cur,c.am,x,c.rsn,c.cl,c.bk,c.fee,c.cop,c.sta,c.due⟩ es v (u.setCell ⟨b,4,none⟩ (.int .i64 x)) :=
 ⟨h.db.set4 x,A5 h.own _ _ (Bj h.own),h.env.keep (Bn _ _ _ _)⟩
theorem DS.set5 {b:Nat} {ao:Option Addr} {cp:Nat} {zs:List Int} {a:Ac} {t:Int} {c:Cs} {es:List En} {v:Value} {u:World} (h:DS b ao cp zs a t c es v u) (x:Int):DS b ao cp zs a t ⟨c.iss,c.acq,c.cur,c.am,c.st,x,c.cl,c.bk,c.fee,c.cop,c.sta,c.due⟩ es v (u.setCell ⟨b,5,none⟩ (.int .i64 x)) :=
 ⟨h.db.set5 x,A5 h.own _ _ (Bj h.own),h.env.keep (Bn _ _ _ _)⟩
theorem DS.set6 {b:Nat} {ao:Option Addr} {cp:Nat} {zs:List Int} {a:Ac} {t:Int} {c:Cs} {es:List En} {v:Value} {u:World} (h:DS b ao cp zs a t c es v u) (x:Int):DS b ao cp zs a t ⟨c.iss,c.acq,c.cur,c.am,c.st,c.rsn,x,c.bk,c.fee,c.cop,c.sta,c.due⟩ es v (u.setCell ⟨b,6,none⟩ (.int .i64 x)) :=
 ⟨h.db.set6 x,A5 h.own _ _ (Bj h.own),h.env.keep (Bn _ _ _ _)⟩
theorem DS.set7 {b:Nat} {ao:Option Addr} {cp:Nat} {zs:List Int} {a:Ac} {t:Int} {c:Cs} {es:List En} {v:Value} {u:World} (h:DS b ao cp zs a t c es v u) (x:Int):DS b ao cp zs a t ⟨c.iss,c.acq,c.cur,c.am,c.st,c.rsn,c.cl,x,c.fee,c.cop,c.sta,c.due⟩ es v (u.setCell ⟨b,7,none⟩ (.int .i64 x)) :=
 ⟨h.db.set7 x,A5 h.own _ _ (Bj h.own),h.env.keep (Bn _ _ _ _)⟩
theorem DS.set8 {b:Nat} {ao:Option Addr} {cp:Nat} {zs:List Int} {a:Ac} {t:Int} {c:Cs} {es:List En} {v:Value} {u:World} (h:DS b ao cp zs a t c es v u) (x:Int):DS b ao cp zs a t ⟨c.iss,c.acq,c.cur,c.am,c.st,c.rsn,c.cl,c.bk,x,c.cop,c.sta,c.due⟩ es v (u.setCell ⟨b,8,none⟩ (.int .i64 x)) :=
 ⟨h.db.set8 x,A5 h.own _ _ (Bj h.own),h.env.keep (Bn _ _ _ _)⟩
theorem DS.set11 {b:Nat} {ao:Option Addr} {cp:Nat} {zs:List Int} {a:Ac} {t:Int} {c:Cs} {es:List En} {v:Value} {u:World} (h:DS b ao cp zs a t c es v u) (x:Int):DS b ao cp zs a t ⟨c.iss,c.acq,c.cur,c.am,c.st,c.rsn,c.cl,c.bk,c.fee,c.cop,c.sta,x⟩ es v (u.setCell ⟨b,11,none⟩ (.int .i64 x)) :=
 ⟨h.db.set11 x,A5 h.own _ _ (Bj h.own),h.env.keep (Bn _ _ _ _)⟩
theorem DS.set9 {b:Nat} {ao:Option Addr} {cp:Nat} {zs:List Int} {a:Ac} {t:Int} {c:Cs} {es:List En} {v:Value} {u:World} (h:DS b ao cp zs a t c es v u) (x:Bool):DS b ao cp zs a t ⟨c.iss,c.acq,c.cur,c.am,c.st,c.rsn,c.cl,c.bk,c.fee,x,c.sta,c.due⟩ es v (u.setCell ⟨b,9,none⟩ (.bool x)) :=
 ⟨h.db.set9 x,A5 h.own _ _ (Bj h.own),h.env.keep (Bn _ _ _ _)⟩
def DR (b:Nat) (ao:Option Addr) (cp:Nat) (zs:List Int) (a:Ac) (t:Int) (w:World) (r:Value) (c:Cs) (es:List En) (e:Ending) (w':World):Prop :=
 e=.returned r∧(∃ v,DS b ao cp zs a t c es v w')∧Below b w w'
theorem oN (w:World):Calls prog 257 #[.int .i64 0] w fun e w'=>e=.returned ((.func (.func 288) #[] #[]))∧BW w w':=by
 go_enter func257,ntmps257
 go_wp2;go_ret
 exact ⟨rfl,by go_grown⟩
theorem pL (w:World):Calls prog 257 #[.int .i64 1] w fun e w'=>e=.returned ((.func (.func 289) #[] #[]))∧BW w w':=by
 go_enter func257,ntmps257
 go_wp2;go_ret
 exact ⟨rfl,by go_grown⟩
theorem nN (w:World):Calls prog 257 #[.int .i64 2] w fun e w'=>e=.returned ((.func (.func 290) #[] #[]))∧BW w w':=by
 go_enter func257,ntmps257
 go_wp2;go_ret
 exact ⟨rfl,by go_grown⟩
theorem nF (w:World):Calls prog 257 #[.int .i64 3] w fun e w'=>e=.returned ((.func (.func 291) #[] #[]))∧BW w w':=by
 go_enter func257,ntmps257
 go_wp2;go_ret
 exact ⟨rfl,by go_grown⟩
theorem pE (w:World):Calls prog 257 #[.int .i64 4] w fun e w'=>e=.returned ((.func (.func 292) #[] #[]))∧BW w w':=by
 go_enter func257,ntmps257
 go_wp2;go_ret
 exact ⟨rfl,by go_grown⟩
theorem nH (w:World):Calls prog 257 #[.int .i64 5] w fun e w'=>e=.returned ((.func (.func 293) #[] #[]))∧BW w w':=by
 go_enter func257,ntmps257
 go_wp2;go_ret
 exact ⟨rfl,by go_grown⟩
theorem nM (w:World):Calls prog 257 #[.int .i64 6] w fun e w'=>e=.returned ((.func (.func 294) #[] #[]))∧BW w w':=by
 go_enter func257,ntmps257
 go_wp2;go_ret
 exact ⟨rfl,by go_grown⟩
theorem oS (w:World):Calls prog 257 #[.int .i64 7] w fun e w'=>e=.returned ((.func (.func 295) #[] #[]))∧BW w w':=by
 go_enter func257,ntmps257
 go_wp2;go_ret
 exact ⟨rfl,by go_grown⟩
theorem pN (w:World):Calls prog 257 #[.int .i64 8] w fun e w'=>e=.returned ((.func (.func 296) #[] #[]))∧BW w w':=by
 go_enter func257,ntmps257
 go_wp2;go_ret
 exact ⟨rfl,by go_grown⟩
theorem oY (w:World):Calls prog 257 #[.int .i64 9] w fun e w'=>e=.returned ((.func (.func 297) #[] #[]))∧BW w w':=by
 go_enter func257,ntmps257
 go_wp2;go_ret
 exact ⟨rfl,by go_grown⟩
theorem eL (g:Nat) (ao:Option Addr) (cap:Nat) (ls:List Ln) (w:World) (hc:w.cell? ⟨g,0,none⟩=some (.slice ao ls.length cap)) (hz:Ai w ao ls) (hn:ls.length≤1048577) :
  Calls prog 155 #[.slice (some ⟨g,0,none⟩) 1 1] w fun e w'=>∃ a2 k2,e=.returned (.slice a2 ls.length k2) ∧
   w'.ownsRow w.heap.size 113 3 (.slice a2 ls.length k2) ls.length (Ag ls)∧BW w w':=by
 have HZ:Hid (Ai w ao ls):=hz;clear hz
 go_enter func155,ntmps155
 go_wp2;refine wp_loop_rounds 2 ?_;rw [rounds_succ]
 go_wp2_with (at_builtin;refine Gp _ rfl (.tmp 12) (.tmp 13) rfl w.heap.size _ 0 [] rfl (World.ownsRow_nil _ _ _ _) ao cap ls rfl HZ.o (by omega) nL ?_;intro v2 w2 o2 g2)
 have q2:BW w w2:=bR.grown g2 nL (fun k hk=>by cases hk)
 rw [Nat.zero_add,List.nil_append] at o2;obtain ⟨a2,k2,hv2,-,-⟩:=Ef o2;subst hv2;have HO2:Hid (w2.ownsRow w.heap.size 113 3 (.slice a2 ls.length k2) ls.length (Ag ls)):=o2;clear o2 g2 HZ hc;go_wp2;rw [rounds_succ];go_wp2;go_ret;exact ⟨a2,k2,rfl,HO2.o,q2⟩
theorem Hg (ao:Option Addr) (cap:Nat) (ls:List Ln) (w:World) (hz:Ai w ao ls) (hn:ls.length≤1048577) :
  Calls prog 109 #[.agg #[.slice ao ls.length cap]] w (rG w ls):=by
 obtain ⟨W,hW⟩:∃ W,W=((w.alloc (.cells #[.slice ao ls.length cap] 29)).alloc (.cells #[.slice none 0 0] 29)).alloc (.cells #[.slice ao ls.length cap] 27):=⟨_,rfl⟩
 have hWs:W.heap.size=w.heap.size+3:=by rw [hW];simp
 have bW:BW w W:=by rw [hW];go_grown
 have HZ:Hid (Ai W ao ls):=hz.below bW
 have c1:W.cell? ⟨w.heap.size+1,0,none⟩=some (.slice none 0 0):=by rw [hW];simp [go_sem]
 have c2:W.cell? ⟨w.heap.size+1+1,0,none⟩=some (.slice ao ls.length cap):=by rw [hW];simp [go_sem]
 have z1:W.frozen? ⟨w.heap.size+1,0,none⟩=false:=by rw [hW];simp [go_sem]
 have HC1:Hid _:=c1;have HZ1:Hid _:=z1;have HBW:Hid _:=bW;have HWS:Hid _:=hWs;have HW:Hid _:=hW;clear hz c1 z1 bW hWs hW
 go_enter func109,ntmps109
 go_wp2_with fail
 rw [← HW.o];refine (eL (w.heap.size+1+1) ao cap ls W c2 HZ.o hn).mono ?_;rintro e w2 ⟨a2,k2,rfl,o2,b2⟩
 have d1:=(b2.cell (p:=⟨w.heap.size+1,0,none⟩) (by have:=HWS.o;show w.heap.size+1<W.heap.size;omega)).trans HC1.o
 have e1:=(b2.frozen (p:=⟨w.heap.size+1,0,none⟩) (by have:=HWS.o;show w.heap.size+1<W.heap.size;omega)).trans HZ1.o
 have HO2:Hid (w2.ownsRow W.heap.size 113 3 (.slice a2 ls.length k2) ls.length (Ag ls)):=o2;have HB2:Hid (BW w w2):=next HBW.o b2;clear o2 b2 c2;go_wp2
 refine bodyPost_ret (by simp [results,results109,go_sem,d1];try rfl) rfl ?_
 refine ⟨a2,k2,rfl,?_,HB2.o.setCell (by show w.heap.size≤w.heap.size+1;omega) _⟩
 have hs:=HWS.o
 exact Bi (A5 HO2.o _ _ (fun g hg=>by have:=(HO2.o.lt g hg).1;simp only;omega)) (by omega)
theorem Nr (a b c x y z:Int) (w:World) :
  Calls prog 94 #[.agg #[.int .i64 a,.int .i64 b,.int .i64 c],.agg #[.int .i64 x,.int .i64 y,.int .i64 z]] w fun e w'=>e=.returned (.int .i64 (Qh (a,b,c) (x,y,z)))∧∃ q os,w'=Go.Sort.grow (w.drewN q) os:=by
 obtain ⟨p,hp⟩:∃ p,Qm a x=p:=⟨_,rfl⟩;obtain ⟨r,hr⟩:∃ r,Qm b y=r:=⟨_,rfl⟩
 have HE:Hid (Qh (a,b,c) (x,y,z)=oL p r):=by rw [Hid,← hp,← hr];rfl
 have HP:Hid (∀ w,Calls prog 151 #[.int .i64 a,.int .i64 x] w fun e w'=>e=.returned (.int .i64 p)∧w'=w):=fun w=>by rw [← hp];exact O8 _ _ _
 have HR:Hid (∀ w,Calls prog 151 #[.int .i64 b,.int .i64 y] w fun e w'=>e=.returned (.int .i64 r)∧w'=w):=fun w=>by rw [← hr];exact O8 _ _ _
 clear hp hr;obtain ⟨W,hW⟩:∃ W,W=(w.alloc (.cells #[.int .i64 a,.int .i64 b,.int .i64 c] 113)).alloc (.cells #[.int .i64 x,.int .i64 y,.int .i64 z] 113):=⟨_,rfl⟩
 have k0:W.cell? ⟨w.heap.size,0,none⟩=some (.int .i64 a):=by rw [hW];simp [go_sem]
 have k1:W.cell? ⟨w.heap.size,1,none⟩=some (.int .i64 b):=by rw [hW];simp [go_sem]
 have k2:W.cell? ⟨w.heap.size+1,0,none⟩=some (.int .i64 x):=by rw [hW];simp [go_sem]
 have k3:W.cell? ⟨w.heap.size+1,1,none⟩=some (.int .i64 y):=by rw [hW];simp [go_sem]
 have HWE:Hid _:=hW
 go_enter func94,ntmps94
 go_wp2;rw [← hW];clear hW
 go_region_held3 (fun w'=>w'.cell? ⟨w.heap.size,0,none⟩=some (.int .i64 a)∧w'.cell? ⟨w.heap.size,1,none⟩=some (.int .i64 b)∧w'.cell? ⟨w.heap.size+1,0,none⟩=some (.int .i64 x)∧w'.cell? ⟨w.heap.size+1,1,none⟩=some (.int .i64 y)) (first | exact ⟨k0,k1,k2,k3⟩ | (simp [go_sem,World.cell?_alloc_some,k0,k1,k2,k3];done)) ((first
  | (go_at_call_of 151 (Value.int .i64 x);refine (HP.o _).mono ?_;rintro e w' ⟨rfl,rfl⟩)
  | (go_at_call_of 151 (Value.int .i64 y);refine (HR.o _).mono ?_;rintro e w' ⟨rfl,rfl⟩)
  | (go_at_call 150;refine (rE _ p r _ ?_ ?_).mono ?_;simp [go_sem];simp [go_sem];rintro e w' ⟨rfl,rfl⟩)))
 all_goals
  go_wp2;go_ret;refine ⟨Af HE.o.symm,1,#[.cells #[.int .i64 a,.int .i64 b,.int .i64 c] 113,.cells #[.int .i64 x,.int .i64 y,.int .i64 z] 113,.cells #[.int .i64 p,.int .i64 r] 3],?_⟩;rw [HWE.o]
  rfl
end Go.Proofs.YtomiclakhjncbaaGreatDoor
namespace Go.Proofs.YtomiclakhjncbaaGreatDoor
open Go.RowKit Go.Sort Go.Shelf Go.Lib Go.Proofs.Tryz
theorem Ot (ls:List Ln):flatK Lm 3 ls.toArray=(Ag ls).toArray:=by
 apply ext_get!
 ·simp [Cn]
 ·intro t ht
  simp only [size_flatK,List.size_toArray] at ht
  rw [get_flatK _ _ _ _ (by simpa using ht)]
  have hq:t / 3<ls.length:=by omega
  have hx:ls.toArray[t / 3]! = Cg ls (t / 3):=by simp [Cg,List.getD_eq_getElem?_getD,hq]
  have h:=Hj ls (t / 3) hq;rw [hx]
  have hg:(Ag ls).toArray[t]! = ((Ag ls)[t]?).getD default:=by simp
  rw [hg]
  rcases (show t % 3=0∨t % 3=1∨t % 3=2 by omega) with e | e | e
  ·rw [e,show t=t / 3*3 by omega,h.1,show (t / 3*3) / 3=t / 3 by omega];rfl
  ·rw [e,show t=t / 3*3+1 by omega,h.2.1,show (t / 3*3+1) / 3=t / 3 by omega];rfl
  ·rw [e,show t=t / 3*3+2 by omega,h.2.2,show (t / 3*3+2) / 3=t / 3 by omega];rfl
theorem gT {w:World} {base n cap g:Nat} {t:TypeId} {ls:List Ln} (h:w.ownsRow base t 3 (.slice (some ⟨g,0,none⟩) n cap) n (Ag ls)):HoldsK Lm 3 w g 0 ls.toArray:=by
 have hn:n=ls.length:=by have:=h.1;rw [Cn] at this;omega
 intro j hj;rw [Ot] at hj ⊢
 simp only [List.size_toArray,Cn] at hj
 refine ⟨?_,h.frozenAt _⟩
 rw [Nat.zero_add,h.cellAt j (by omega)]
 have:j<(Ag ls).length:=by rw [Cn];omega
 simp [getElem!_pos,this]
theorem Zf {w:World} {base n cap g m:Nat} {t:TypeId} {ls ds:List Ln} {os:Array Obj} (h:w.ownsRow base t 3 (.slice (some ⟨g,0,none⟩) n cap) n (Ag ls)) (hl:ds.length=ls.length) :
  (sortWorldK Lm 3 w g 0 m ds.toArray os).ownsRow base t 3 (.slice (some ⟨g,0,none⟩) n cap) n (Ag ds):=by
 have hn:n=ls.length:=by have:=h.1;rw [Cn] at this;omega
 have hlt:g<w.heap.size:=(h.lt g rfl).2
 rcases h.2 with ⟨e0,_⟩ | ⟨g',cap',uV,e0,hb,hg,hnc,hm,hs,ht⟩
 ·cases e0
 ·injection e0 with e1 _ e3
  injection e1 with e1
  injection e1 with e1
  subst e1;subst e3
  refine ⟨by rw [Cn];omega,.inr ⟨g,cap,putCells id 0 (Ag ds).toArray uV,rfl,hb,?_,hnc,hm,by simpa [putCells] using hs,?_⟩⟩
  ·unfold sortWorldK putRowK
   rw [Ot]
   have e1:((w.heap.modify g (onCells (putCells id 0 (Ag ds).toArray)))++os)[g]?=some (.cells (putCells id 0 (Ag ds).toArray uV) t):=by
    rw [Array.getElem?_append_left (by simpa using hlt),Array.getElem?_modify,if_pos rfl,hg];rfl
   exact e1
  ·apply List.ext_getElem?
   intro j;rw [List.getElem?_take,Array.getElem?_toList]
   by_cases hj:j<n*3
   ·have hjc:j<uV.size:=by rw [hs];exact Nat.lt_of_lt_of_le hj (Nat.mul_le_mul_right 3 hnc)
    have hd:j<(Ag ds).length:=by rw [Cn];omega
    simp only [if_pos hj,putCells,Array.getElem?_mapIdx,Array.getElem?_eq_getElem hjc,Option.map_some]
    rw [if_pos ⟨Nat.zero_le _,by simpa using hd⟩,List.getElem?_eq_getElem hd]
    simp [getElem!_pos,hd]
   ·rw [if_neg hj,List.getElem?_eq_none (by rw [Cn];omega)]
theorem Tz {B:Nat} {w0 w:World} {g m:Nat} {d:Array Ln} {os:Array Obj} (h:RowKit.Below B w0 w) (hB:B≤w0.heap.size) (hg:B≤g):RowKit.Below B w0 (sortWorldK Lm 3 w g 0 m d os):=by
 refine ⟨h.os,h.tape,h.output,?_,fun k hk=>?_⟩
 ·have:=h.size
  simp [sortWorldK,putRowK,grow,putRow,mapBlock,Sort.ahead];omega
 ·rw [← h.block k hk]
  have hs:=h.size
  have e1:((w.heap.modify g (onCells (putCells id 0 (flatK Lm 3 d))))++os)[k]?=w.heap[k]?:=by
   rw [Array.getElem?_append_left (by simp;omega),Array.getElem?_modify,if_neg (by omega)]
  exact e1
theorem Nl (x y:Ln):ltOf Qh x y=E3 x y:=by
 unfold ltOf
 rw [Bool.eq_iff_iff,decide_eq_true_eq];exact cY x y
theorem tN:SWO (ltOf Qh) where
 irrefl x:=by rw [Nl];simp [E3]
 trans x y z h1 h2:=by rw [Nl] at *;exact Jj h1 h2
 ntrans x y z h1 h2:=by rw [Nl] at *;simp [E3] at *;omega
theorem nO (blk off size:Nat) (w:World):CmpLays prog 94 #[] Lm 3 Qh blk off size w :=
 fun _ _ _ _ x y=>Nr x.1 x.2.1 x.2.2 y.1 y.2.1 y.2.2 _
theorem oJ {ls:List Ln} {d:Array Ln} (h:PermIn 0 ls.toArray.size ls.toArray d):d.toList.Perm ls∧d.size=ls.length:=by
 obtain ⟨h1,_,h3⟩:=h
 have hs:d.size=ls.length:=by simpa using h1
 refine ⟨?_,hs⟩
 have e1:d.extract 0 ls.toArray.size=d:=by simp [← hs]
 have e2:ls.toArray.extract 0 ls.toArray.size=ls.toArray:=by simp
 rw [e1,e2] at h3
 simpa using h3
theorem fY {n:Nat} {d:Array Ln} (h:SortedIn (ltOf Qh) 0 n d) (hn:d.size=n):d.toList.Pairwise (fun x y=>E3 y x=false):=by
 rw [List.pairwise_iff_getElem];intro i j hi hj hij
 simp only [Array.length_toList] at hi hj
 have:=h i j (Nat.zero_le _) hij (by omega)
 rw [Nl,getElem!_pos d j hj,getElem!_pos d i hi] at this
 simpa using this
theorem iN (ao:Option Addr) (n cap base:Nat) (ls:List Ln) (w:World) (ho:w.ownsRow base 113 3 (.slice ao n cap) n (Ag ls)) (hn:ls.length≤1000) (hb:base≤w.heap.size) :
  Calls prog 329 #[.slice ao n cap,.func (.func 94) #[] #[]] w fun e w'=>e=.returned (.tuple #[])∧∃ ds:List Ln,ds.Perm ls∧ds.Pairwise (fun x y=>E3 y x=false)∧w'.ownsRow base 113 3 (.slice ao n cap) n (Ag ds)∧RowKit.Below base w w':=by
 have hnl:n=ls.length:=by have:=ho.1;rw [Cn] at this;omega
 rcases ho.2 with ⟨e0,h0⟩ | ⟨g,cap',uV,e0,hbg,_⟩
 ·have hls:ls=[]:=List.eq_nil_of_length_eq_zero (by omega)
  subst h0;have h:=AnyF.slices_SortFunc_none Tryz.sortLn ao cap (.func (.func 94) #[] #[]) w
  change Calls prog 329 _ _ _ at h
  refine h.mono ?_;rintro e w' ⟨rfl,rfl⟩
  refine ⟨rfl,[],by rw [hls],List.Pairwise.nil,?_,bR⟩
  rw [hls] at ho;exact ho
 ·injection e0 with e1 _ e3
  subst e1;have hlt:=(ho.lt g rfl).2
  have eg:∀ args w,(callFunc 94 args).run prog w=.ok (.enter 94 args) w:=enters_of func94 (by kernel_rfl) rfl
  have h:=AnyQ.slices_SortFunc Tryz.sortLn 3 isAgg113 sizeOf113 Lm (fun _=>rfl) (fun x v hv=>by simp [Lm] at hv;rcases hv with rfl | rfl | rfl <;> rfl) Qh tN 94 #[] g 0 cap ls.toArray w eg (nO g 0 ls.toArray.size w) (gT ho) hlt (by simp;omega)
  change Calls prog 329 _ _ _ at h
  have hz:ls.toArray.size=n:=by simp [hnl]
  rw [hz] at h;refine h.mono ?_;rintro e w' ⟨rfl,d',m,os,hp,hs,rfl⟩;rw [← hz] at hp;obtain ⟨p1,p2⟩:=oJ hp
  have hd:d'=d'.toList.toArray:=by simp
  refine ⟨rfl,d'.toList,p1,fY hs (by rw [p2,hnl]),?_,Tz bR hb hbg⟩
  rw [hd]
  exact Zf ho (by simp [p2])
end Go.Proofs.YtomiclakhjncbaaGreatDoor
namespace Go.Proofs.YtomiclakhjncbaaGreatDoor
open Go.RowKit Go.Maps Go.Proofs.Tryz
theorem Ql {ops:Array Oper} {rest:List Oper} {o:Oper} {a:Act} {Q:Exit→Act→World→Prop} (w:World) (hg:o.guard=none) (it:Operand) (hop:o.op=Op.next it false)
  (b r n:Nat) (D:DataW Unit) (left:Lit→Bool) (Mw:Nat) (hit:a.eval it=.pointer (some ⟨r,0,none⟩)) (h:w.ranges prog 128 (plainElem (H:=Unit) prog 3) b r n D left Mw)
  (hDone:Mw=0→(∀ kl,left kl=false)→wpList prog ops Q rest (a.put o.dst (.tuple #[.bool false])) w)
  (hMore:∀ (x c v:Int) (w':World) (cnt':Nat),Bf x→Bf c→left (Dp x c)=true→(∀ zd,D.atKey (Dp x c) zd=.lit (.int .i64 v))→w'.ranges prog 128 (plainElem (H:=Unit) prog 3) b r n D (fun z=>left z && !z.sameKey (Dp x c)) cnt'→cnt' < Mw →
   w.grownBy w' (some r)→w'.heap.size=w.heap.size→(Instr.entry (.pointer (some ⟨r,0,none⟩))).run prog w'=.ok (.tuple #[.agg #[.int .i64 x,.int .i64 c],.int .i64 v]) w'→wpList prog ops Q rest (a.put o.dst (.tuple #[.bool true,.agg #[.int .i64 x,.int .i64 c],.int .i64 v])) w') :
  wpList prog ops Q (o::rest) a w :=
 wpList_next_ranges (α:=Int×Int) (β:=Int) w hg it hop 128 Tx (plainElem (H:=Unit) prog 3) (fun p=>.agg #[.int .i64 p.1,.int .i64 p.2]) (Value.int .i64)
  (fun key kl hkey=>by obtain ⟨x,c,rfl,_⟩:=Sg hkey;exact ⟨(x,c),rfl⟩) (fun v y hv=>by obtain ⟨c,rfl,_⟩:=plainElem_int_inv underlying3 hv;exact ⟨c,rfl⟩)
  b r n D left Mw hit h hDone (fun ⟨x,c⟩ v kl y w' cnt' hkey hlk hv hat hrg hlt hgr hsz hen=>by
   obtain ⟨x',c',ex,rfl,hx,hc⟩:=Sg hkey
   obtain ⟨rfl,rfl⟩:x=x'∧c=c':=by simpa using ex
   obtain ⟨v',ev,rfl,hwv⟩:=plainElem_int_inv underlying3 hv
   cases ev
   exact hMore x c v w' cnt' hx hc hlk hat hrg hlt hgr hsz hen)
structure pR (f:Int→Int→Option Int) (left:Lit→Bool) (acc:List Ln):Prop where
 apart:cV acc
 from_:∀ x ∈ acc,f x.1 x.2.1=some x.2.2∧left (Dp x.1 x.2.1)=false∧Bf x.1∧Bf x.2.1
 into:∀ a c v,f a c=some v→left (Dp a c)=false→(a,c,v) ∈ acc
theorem pR.step {f:Int→Int→Option Int} {left:Lit→Bool} {acc:List Ln} (h:pR f left acc) (hwf:∀ a c,f a c≠none→Bf a∧Bf c) {x c v:Int} (hx:Bf x) (hc:Bf c) (hl:left (Dp x c)=true) (hf:f x c=some v) :
  pR f (fun z=>left z && !z.sameKey (Dp x c)) (acc++[(x,c,v)]):=by
 have hsame:(Dp x c).sameKey (Dp x c)=true:=WideAt.sameKey_self (Nh _ _);refine ⟨?_,?_,?_⟩
 ·refine List.pairwise_append.2 ⟨h.apart,List.pairwise_singleton _ _,fun y hy z hz he=>?_⟩
  simp only [List.mem_singleton] at hz
  subst hz
  have:=(h.from_ y hy).2.1
  simp only at he
  rw [he.1,he.2,hl] at this
  cases this
 ·intro y hy
  rcases List.mem_append.1 hy with hy | hy
  ·obtain ⟨a1,a2,a3,a4⟩:=h.from_ y hy
   exact ⟨a1,by rw [a2];rfl,a3,a4⟩
  ·simp only [List.mem_singleton] at hy
   subst hy
   exact ⟨hf,by simp only [hsame];simp,hx,hc⟩
 ·intro a' c' v' hf' hl'
  by_cases he:a'=x∧c'=c
  ·obtain ⟨rfl,rfl⟩:=he
   rw [hf] at hf'
   injection hf' with hf'
   subst hf';exact List.mem_append.2 (.inr (List.mem_singleton.2 rfl))
  ·obtain ⟨w1,w2⟩:=hwf a' c' (by rw [hf'];simp)
   have hne:(Dp a' c').sameKey (Dp x c)=false:=Maps.sameKey_ne fun e=>he (Rh w1 w2 hx hc e)
   rw [hne] at hl'
   exact List.mem_append.2 (.inl (h.into a' c' v' hf' (by simpa using hl')))
theorem pR.all {f:Int→Int→Option Int} {left:Lit→Bool} {acc ds:List Ln} (h:pR f left acc) (hl:∀ k,left k=false) (hp:ds.Perm acc) (hs:ds.Pairwise (fun x y=>E3 y x=false)):Va ds∧Cf ds=f:=by
 have hap:cV ds:=(hp.symm.pairwise_iff (R:=fun x y:Ln=>¬ (x.1=y.1∧x.2.1=y.2.1)) (fun hxy he=>hxy ⟨he.1.symm,he.2.symm⟩)).1 h.apart
 have hmem:∀ a c v,(a,c,v) ∈ ds ↔ f a c=some v:=fun a c v=>by
  rw [hp.mem_iff]
  exact ⟨fun hm=>(h.from_ _ hm).1,fun hf=>h.into a c v hf (hl _)⟩
 constructor
 ·refine (hs.and hap).imp fun {x y} ⟨h1,h2⟩=>?_
  rw [Ev]
  simp [E3] at h1
  omega
 ·funext a c
  cases hf:f a c with
  | some v=>exact (Q3 hap).1 ((hmem a c v).2 hf)
  | none =>
   cases hk:Cf ds a c with
   | none=>rfl
   | some v =>
    have:=(hmem a c v).1 (Mr hk)
    rw [hf] at this;cases this
theorem Y1 (b n:Nat) (f:Int→Int→Option Int) (w:World) (hM:F5 w b n f) (hn:n≤1000) :
  Calls prog 316 #[.map (some b)] w fun e w'=>∃ ao cap L,e=.returned (.agg #[.slice ao (List.length L) cap])∧Va L∧Cf L=f∧L.length≤n∧w'.ownsRow w.heap.size 113 3 (.slice ao L.length cap) L.length (Ag L)∧BW w w':=by
 obtain ⟨i0,hi,hz0,hz1,hz2⟩:=info_parts bY;have hbl:=hM.lt;obtain ⟨W,hW⟩:∃ W,W=w.alloc (.cells #[.slice none 0 0] 29):=⟨_,rfl⟩
 have bW:BW w W:=by rw [hW];go_grown
 have hWs:W.heap.size=w.heap.size+1:=by rw [hW];simp
 have r0:W.cell? ⟨w.heap.size,0,none⟩=some (.slice none 0 0):=by rw [hW];simp
 have rf:W.frozen? ⟨w.heap.size,0,none⟩=false:=by rw [hW];simp [go_sem]
 obtain ⟨D,hown,hview,hwf⟩:=hM.below bW;have HO:Hid (W.ownsMap prog 128 (plainElem (H:=Unit) prog 3) b n D):=hown;have HVW:Hid _:=hview;have HWF:Hid (∀ a c,f a c≠none→Bf a∧Bf c):=hwf;have HBW:Hid (BW w W):=bW;have HR0:Hid _:=r0;have HRF:Hid _:=rf;have HWS:Hid (W.heap.size=w.heap.size+1):=hWs;clear hM hown hview hwf bW r0 rf hWs
 go_enter func316,ntmps316
 go_wp2_with (first
  | (at_range;rw [← hW];clear hW;refine wpList_range_own _ rfl _ 338 rfl 128 3 Tx underlying338 _ b n D rfl HO.o ?_;intro w0 hrg0 hg0 hs0)
  | go_in)
 try go_frame
 have HRG0:Hid (w0.ranges prog 128 (plainElem (H:=Unit) prog 3) b W.heap.size n D (Maps.has D) (Maps.size D)):=hrg0
 have q0:BW w w0:=HBW.o.grown hg0 HBW.o.size (fun j hj=>by cases hj)
 have HC0:Hid (w0.cell? ⟨w.heap.size,0,none⟩=some (.slice none 0 0)∧w0.frozen? ⟨w.heap.size,0,none⟩=false):=⟨(hg0.cell_far ⟨w.heap.size,0,none⟩ (by have:=HWS.o;show w.heap.size<W.heap.size;omega) (by simp)).trans HR0.o,(hg0.frozen_far ⟨w.heap.size,0,none⟩ (by have:=HWS.o;show w.heap.size<W.heap.size;omega) (by simp)).trans HRF.o⟩
 have hszD:=HO.o.size_le;clear hrg0 hg0
 go_loopw [3] (fun v3 wr=>∃ (left:Lit→Bool) (Mw:Nat) (acc:List Ln),wr.ranges prog 128 (plainElem (H:=Unit) prog 3) b W.heap.size n D left Mw∧acc.length+Mw≤n∧pR f left acc ∧
   wr.ownsRow (w.heap.size+2) 113 3 v3 acc.length (Ag acc)∧(wr.cell? ⟨w.heap.size,0,none⟩=some (.slice none 0 0)∧wr.frozen? ⟨w.heap.size,0,none⟩=false)∧BW w wr∧w.heap.size+2≤wr.heap.size) (fun _ wr=>wr.rangeLeft b W.heap.size)
 case atStart =>
  refine ⟨_,_,[],HRG0.o,by simpa using hszD,⟨List.Pairwise.nil,(fun x hx=>by cases hx),fun a c v hf hl=>?_⟩,World.ownsRow_nil _ _ _ _,HC0.o,q0,by have:=HWS.o;omega⟩
  have hwx:=HWF.o a c (by rw [hf];simp)
  rw [(HVW.o a c hwx.1 hwx.2).1,hf] at hl
  cases hl
 case round =>
  obtain ⟨left,Mw,acc,hrg,hcnt,hmet,hacc,hcell,hbr,hs2⟩:=hrel;have HRG:Hid (wr.ranges prog 128 (plainElem (H:=Unit) prog 3) b W.heap.size n D left Mw):=hrg;have HMET:Hid (pR f left acc):=hmet;have HACC:Hid (wr.ownsRow (w.heap.size+2) 113 3 u3 acc.length (Ag acc)):=hacc;have HCELL:Hid _:=hcell;clear hrg hmet hacc hcell HRG0 q0 HC0 hszD hs0
  go_wp2_with (first
   | (at_next;refine Ql _ rfl _ rfl b W.heap.size n D left Mw rfl HRG.o ?_ ?_)
   | go_in)
  ·intro _ hl0
   obtain ⟨ao,cap,hv3,-,-⟩:=Ef HACC.o;subst hv3;have HL0:Hid (∀ kl,left kl=false):=hl0;clear hl0;go_wp2_with fail
   refine (iN ao acc.length cap (w.heap.size+2) acc wr HACC.o (by omega) hs2).mono ?_
   rintro e w2 ⟨rfl,ds,hp,hs,o2,b2⟩
   have d0:=(b2.cell (p:=⟨w.heap.size,0,none⟩) (by show w.heap.size<w.heap.size+2;omega)).trans HCELL.o.1
   have d1:=(b2.frozen (p:=⟨w.heap.size,0,none⟩) (by show w.heap.size<w.heap.size+2;omega)).trans HCELL.o.2
   have hlen:ds.length=acc.length:=hp.length_eq;have HALL:Hid (Va ds∧Cf ds=f):=HMET.o.all HL0.o hp hs;have HO2:Hid (w2.ownsRow (w.heap.size+2) 113 3 (.slice ao acc.length cap) acc.length (Ag ds)):=o2
   have HQ2:Hid (BW w w2):=hbr.trans (b2.mono (by omega))
   have HLEN:Hid _:=hlen;clear hp hs o2 b2 hlen HCELL;go_wp2
   refine bodyPost_ret (by simp [results,results316,go_sem,d0];try rfl) rfl ?_
   have hlen:=HLEN.o
   refine ⟨ao,cap,ds,by rw [hlen],HALL.o.1,HALL.o.2,by omega,?_,HQ2.o.setCell nL _⟩
   have h:=Bi (A5 HO2.o ⟨w.heap.size,0,none⟩ (.slice ao acc.length cap) (fun g hg=>by have:=(HO2.o.lt g hg).1;simp only;omega)) (base':=w.heap.size) (by omega)
   rw [hlen];exact h
  ·intro x c v w1 cnt1 hwx hwc hlx hat hrg1 hlt hg1 hs1 hen
   have hfx:f x c=some v:=by
    have h1:=HVW.o x c hwx hwc;have h2:=Maps.has_true_of_atKey hat;rw [h1.1] at h2;have h3:=(hat (.lit (.int .i64 0))).symm.trans h1.2
    cases hf:f x c with
    | none=>rw [hf] at h2;cases h2
    | some v' =>
     rw [hf] at h3
     injection h3 with e1;injection e1 with _ e2
     simp at e2
     rw [e2]
   have HMET2:Hid (pR f (fun z=>left z && !z.sameKey (Dp x c)) (acc++[(x,c,v)])):=HMET.o.step HWF.o hwx hwc hlx hfx
   have hown3:∀ g,u3.ownBlock=some g→w.heap.size+2≤g:=fun g hg=>(HACC.o.lt g hg).1
   have HACC1:Hid (w1.ownsRow (w.heap.size+2) 113 3 u3 acc.length (Ag acc)):=sH HACC.o hg1 (fun g hg e=>by have:=hown3 g hg;have:=HWS.o;cases e;omega)
   have q1:BW w w1:=hbr.grown hg1 hbr.size (fun j hj=>by have:=HWS.o;cases hj;omega)
   have HRG1:Hid (w1.ranges prog 128 (plainElem (H:=Unit) prog 3) b W.heap.size n D (fun z=>left z && !z.sameKey (Dp x c)) cnt1):=hrg1
   have HC1:Hid (w1.cell? ⟨w.heap.size,0,none⟩=some (.slice none 0 0)∧w1.frozen? ⟨w.heap.size,0,none⟩=false):=⟨(hg1.cell_far ⟨w.heap.size,0,none⟩ (by show w.heap.size<wr.heap.size;omega) (by have:=HWS.o;simp;omega)).trans HCELL.o.1,(hg1.frozen_far ⟨w.heap.size,0,none⟩ (by show w.heap.size<wr.heap.size;omega) (by have:=HWS.o;simp;omega)).trans HCELL.o.2⟩
   obtain ⟨V,hV⟩:∃ V,V=w1.alloc (.cells #[.int .i64 x,.int .i64 c] 128):=⟨_,rfl⟩
   have hVs:V.heap.size=w1.heap.size+1:=by rw [hV];simp
   have v0:V.cell? ⟨w1.heap.size,0,none⟩=some (.int .i64 x):=by rw [hV];simp
   have v1:V.cell? ⟨w1.heap.size,1,none⟩=some (.int .i64 c):=by rw [hV];simp
   have HAV:Hid (V.ownsRow (w.heap.size+2) 113 3 u3 acc.length (Ag acc)):=by rw [Hid,hV];exact HACC1.o.alloc _
   have HRV:Hid (V.ranges prog 128 (plainElem (H:=Unit) prog 3) b W.heap.size n D (fun z=>left z && !z.sameKey (Dp x c)) cnt1):=by rw [Hid,hV];exact HRG1.o.alloc _
   have HCV:Hid (V.cell? ⟨w.heap.size,0,none⟩=some (.slice none 0 0)∧V.frozen? ⟨w.heap.size,0,none⟩=false):=by
    have g:=World.grownBy_alloc w1 (.cells #[.int .i64 x,.int .i64 c] 128) none;rw [Hid,hV]
    exact ⟨(g.cell_far ⟨w.heap.size,0,none⟩ (by show w.heap.size<w1.heap.size;omega) (by simp)).trans HC1.o.1,(g.frozen_far ⟨w.heap.size,0,none⟩ (by show w.heap.size<w1.heap.size;omega) (by simp)).trans HC1.o.2⟩
   have qV:BW w V:=by rw [hV];exact q1.alloc q1.size _
   have HOWN3:Hid _:=hown3;have HLT:Hid _:=hlt
   have HVS:Hid (V.heap.size=wr.heap.size+1):=by rw [Hid,hVs,hs1]
   clear hVs hs1 hat hrg1 hlt hg1 hfx hwx hwc hlx HMET HACC HACC1 HRG1 HC1 HCELL q1 hown3 hbr;go_upto_region 5 with fail
   rw [← hV];clear hV hen
   go_wp2_with (at_builtin;refine wpList_append_own _ rfl (.tmp 13) (.tmp 20) 27 rfl (w.heap.size+2) 113 i0 _ 3 24 underlying27 hi hz0 hz1 hz2 rfl (by decide) _ _ _ rfl (HAV.o.alloc _) ⟨V.heap.size,0,none⟩ 1 1 [.int .i64 x,.int .i64 c,.int .i64 v] rfl rfl (World.news_of_block (heap_alloc_new V _)) (Ve x c v) (by unfold maxLen;omega) (by omega) (by have:=HVS.o;simp;omega) ?_;intro v5 w5 o5 g5 _)
   have gA:=World.grownBy_alloc V (.cells #[.int .i64 x,.int .i64 c,.int .i64 v] 113) none
   have HR5:Hid (w5.ownsRow (w.heap.size+2) 113 3 v5 (acc++[(x,c,v)]).length (Ag (acc++[(x,c,v)]))):=by rw [Hid,List.length_append];exact aD o5
   have hb5:some b≠u3.ownBlock:=fun e=>by have:=HOWN3.o b e.symm;omega
   have hr5:some W.heap.size≠u3.ownBlock:=fun e=>by have:=HOWN3.o _ e.symm;have:=HWS.o;omega
   have hx5:some w.heap.size≠u3.ownBlock:=fun e=>by have:=HOWN3.o _ e.symm;omega
   have HRG5:Hid (w5.ranges prog 128 (plainElem (H:=Unit) prog 3) b W.heap.size n D (fun z=>left z && !z.sameKey (Dp x c)) cnt1):=(HRV.o.alloc _).kept g5 hb5 hr5
   have HC5:Hid (w5.cell? ⟨w.heap.size,0,none⟩=some (.slice none 0 0)∧w5.frozen? ⟨w.heap.size,0,none⟩=false):=⟨(g5.cell_far ⟨w.heap.size,0,none⟩ (by have:=HVS.o;simp;omega) hx5).trans ((gA.cell_far ⟨w.heap.size,0,none⟩ (by have:=HVS.o;show w.heap.size<V.heap.size;omega) (by simp)).trans HCV.o.1),(g5.frozen_far ⟨w.heap.size,0,none⟩ (by have:=HVS.o;simp;omega) hx5).trans ((gA.frozen_far ⟨w.heap.size,0,none⟩ (by have:=HVS.o;show w.heap.size<V.heap.size;omega) (by simp)).trans HCV.o.2)⟩
   have q5:BW w w5:=(qV.alloc qV.size _).grown g5 (by have:=HVS.o;simp;omega) (fun j hj=>by have:=HOWN3.o j hj;omega)
   have hs5:w.heap.size+2≤w5.heap.size:=by have:=g5.size;have:=HVS.o;simp at *;omega
   clear o5 g5 gA HAV HRV HCV qV;go_wp2
   go_roundw
   case rel=>exact ⟨_,cnt1,_,HRG5.o,by have:=HLT.o;simp;omega,HMET2.o,HR5.o,HC5.o,q5,hs5⟩
   case measure=>rw [HRG5.o.left_eq,HRG.o.left_eq];exact HLT.o
def mW (ls:List Ln):Bool:=ls.all fun x=>decide (Ec x.2.1 ls=0)
def P9 (D:DataW Unit) (ls:List Ln):Prop :=
 (∀ c,Maps.has D (.int .i64 c)=ls.any fun x=>decide (x.2.1=c))∧∀ c,D.atKey (.int .i64 c) (.lit (.int .i64 0))=.lit (.int .i64 (Ec c ls))
theorem Xx:P9 (.map []) []:=⟨fun _=>rfl,fun _=>rfl⟩
theorem eA (c:Int) (ls:List Ln) (x:Ln):Ec c (ls++[x])=Ec c ls+if x.2.1=c then x.2.2 else 0:=by simp [Ec]
theorem Vl {D:DataW Unit} {ls:List Ln} (h:P9 D ls) (hm:IsMap D) (x y z:Int):P9 (D.put (.int .i64 y) (.lit (.int .i64 (Ec y ls+z)))) (ls++[(x,y,z)]):=by
 constructor
 ·intro c
  rw [List.any_append]
  by_cases hc:c=y
  ·subst hc
   rw [Maps.has_put_same (k:=.int .i64 c) hm trivial];simp
  ·rw [Maps.has_put_other (Ht hc),h.1 c]
   simp [Ne.symm hc]
 ·intro c
  rw [eA]
  by_cases hc:c=y
  ·subst hc
   rw [Maps.atKey_put_same (k:=.int .i64 c) hm trivial];simp
  ·rw [Maps.atKey_put_other (Ht hc),h.2 c]
   simp [Ne.symm hc]
theorem lV {ls:List Ln} (h:∀ x ∈ ls,-1000000000000≤x.2.2∧x.2.2≤1000000000000) (c:Int) (k:Nat):-1000000000000 * (k:Int)≤Ec c (ls.take k)∧Ec c (ls.take k)≤1000000000000 * (k:Int):=by
 induction k with
 | zero=>simp [Ec]
 | succ k ih =>
  by_cases hk:k<ls.length
  ·rw [N5 c ls k hk]
   have:=h _ (Ex hk)
   split <;> omega
  ·rw [List.take_of_length_le (by omega)]
   rw [List.take_of_length_le (by omega)] at ih
   omega
theorem iW (ao:Option Addr) (cap:Nat) (ls:List Ln) (w:World) (hz:Ai w ao ls) (hn:ls.length≤400) (hbd:∀ x ∈ ls,-1000000000000≤x.2.2∧x.2.2≤1000000000000) (hwf:∀ x ∈ ls,Bf x.2.1) :
  Calls prog 95 #[.slice ao ls.length cap] w fun e w'=>e=.returned (.bool (mW ls))∧BW w w':=by
 have hmm:=@run_makeMap prog;have HZ:Hid (Ai w ao ls):=hz;have HBD:Hid (∀ x ∈ ls,-1000000000000≤x.2.2∧x.2.2≤1000000000000):=hbd;have HWF:Hid (∀ x ∈ ls,Bf x.2.1):=hwf;clear hz hbd hwf;have hown0:=World.ownsMap_made w prog 3 (plainElem (H:=Unit) prog 3);have hb0:=(Below.refl w.heap.size w).alloc nL (.map #[] 0)
 go_enter func95,ntmps95
 go_wp2
 go_loopw [11] (fun i wr=>∃ (k:Nat) (D:DataW Unit),k≤ls.length∧i=.int .i64 k∧wr.ownsMap prog 3 (plainElem (H:=Unit) prog 3) w.heap.size k D∧P9 D (ls.take k)∧BW w wr) (fun i _=>ls.length - (intOf i).toNat)
 case atStart=>exact ⟨0,.map [],Nat.zero_le _,rfl,hown0,Xx,hb0⟩
 case round =>
  obtain ⟨k,D,hk,rfl,hown,hsum,hbr⟩:=hrel;have hbs:=hbr.size;have HSUM:Hid (P9 D (ls.take k)):=hsum;have HOWN:Hid (wr.ownsMap prog 3 (plainElem (H:=Unit) prog 3) w.heap.size k D):=hown;clear hown0 hb0 hsum hown
  by_cases hlt:k<ls.length
  ·have hki:(k:Int)<(ls.length:Int):=by omega
   obtain ⟨b,off,rfl,hb2,c1,c2,c3⟩:=(HZ.o.below hbr).at hlt;have hbk:=HBD.o _ (Ex hlt);have hwk:=HWF.o _ (Ex hlt);have HTK:Hid _:=Kl ls k hlt;obtain ⟨⟨x,y,z⟩,hx⟩:∃ x,Cg ls k=x:=⟨_,rfl⟩;rw [hx] at c1 c2 c3 hbk hwk HTK
   simp only at c1 c2 c3 hbk hwk
   have hab:=lV HBD.o y k;have HWK:Hid (Bf y):=hwk
   have hy:∀ c:Int,D.atKey (.int .i64 y) (.lit (.int .i64 0))=.lit (.int .i64 c)→c=Ec y (ls.take k)∧IntKind.i64.wrap (c+z)=c+z∧(Lit.int .i64 (c+z)).wf=true:=fun c h=>by
    have e:=h.symm.trans (HSUM.o.2 y)
    have hc:c=Ec y (ls.take k):=by injection e with e1;injection e1
    have hk4:(k:Int)≤400:=by omega
    refine ⟨hc,?_,?_⟩
    ·rw [hc];simp [IntKind.wrap,IntKind.bits,IntKind.signed];omega
    ·exact WalkArith.wf_i64 (by rw [hc];omega)
   have HY:Hid _:=hy
   have HKM:Hid (k<maxLen):=by unfold maxLen;rw [Hid];omega
   have HBX:Hid (∀ o,Below w.heap.size w (wr.alloc o)):=fun o=>hbr.alloc hbs o
   clear hx hwk hab hy hbk
   go_wp2_with (first
    | (at_lookup;refine wpList_lookup_own_int _ rfl _ _ 186 rfl 3 3 .i64 Fp underlying186 underlying3 (Ox _) w.heap.size k D rfl (HOWN.o.alloc _) _ _ rfl (keyOf_int_mk underlying3 HWK.o) ?_;intro c hat hwc;have HC:Hid (c=Ec y (ls.take k)):=(HY.o c hat).1;have hwr:=(HY.o c hat).2.1;have HWC:Hid ((Lit.int .i64 (c+z)).wf=true):=(HY.o c hat).2.2;clear hat hwc)
    | (at_mapUpdate;refine wpList_mapUpdate_own _ rfl _ _ _ 186 rfl 3 3 Fp underlying186 _ w.heap.size k D rfl (HOWN.o.alloc _) HKM.o _ _ _ rfl rfl (keyOf_int_mk underlying3 HWK.o) _ [] (plainElem_int underlying3 HWC.o) ?_;intro w1 hown1 hgrow1)
    | go_in)
   have HO1:Hid (w1.ownsMap prog 3 (plainElem (H:=Unit) prog 3) w.heap.size (k+1) (D.put (.int .i64 y) (.lit (.int .i64 (c+z))))):=hown1
   have q1:BW w w1:=(HBX.o _).grown hgrow1 (HBX.o _).size (fun j hj=>by cases hj;exact nL)
   clear hown1 hgrow1;go_wp2
   go_roundw
   case rel=>exact ⟨k+1,_,by omega,by go_num,HO1.o,by rw [HTK.o,HC.o];exact Vl HSUM.o HOWN.o.isMap x y z,q1⟩
   case measure=>simp [intOf];omega
  ·have hke:k=ls.length:=by omega
   subst hke
   have hki:¬ (ls.length:Int)<(ls.length:Int):=by omega
   rw [List.take_length] at HSUM;obtain ⟨W,hW⟩:∃ W,W=wr:=⟨_,rfl⟩;subst hW
   go_wp2_with (first
    | (at_range;refine wpList_range_own _ rfl _ 186 rfl 3 3 Fp underlying186 _ w.heap.size ls.length _ rfl HOWN.o ?_;intro w0 hrg0 hg0 hs0)
    | go_in)
   try go_frame
   have qb0:BW w w0:=hbr.grown hg0 hbs (fun j hj=>by cases hj)
   go_loopw [7] (fun _ wr=>∃ (left:Lit→Bool) (Mw:Nat),wr.ranges prog 3 (plainElem (H:=Unit) prog 3) w.heap.size W.heap.size ls.length D left Mw∧(∀ c,left (.int .i64 c)=true→Maps.has D (.int .i64 c)=true)∧(∀ c,Maps.has D (.int .i64 c)=true→left (.int .i64 c)=false→Ec c ls=0)∧BW w wr)
    (fun _ wr=>wr.rangeLeft w.heap.size W.heap.size)
   case atStart=>exact ⟨_,_,hrg0,fun _ h=>h,(fun c h1 h2=>by rw [h1] at h2;cases h2),qb0⟩
   case round =>
    obtain ⟨left,Mw,hrg,hle,hzero,hbw⟩:=hrel;clear hrg0 hg0 hs0 qb0;have HLE:Hid (∀ c,left (.int .i64 c)=true→Maps.has D (.int .i64 c)=true):=hle;have HZR:Hid (∀ c,Maps.has D (.int .i64 c)=true→left (.int .i64 c)=false→Ec c ls=0):=hzero;have HRG:Hid (wr.ranges prog 3 (plainElem (H:=Unit) prog 3) w.heap.size W.heap.size ls.length D left Mw):=hrg;clear hle hzero hrg
    go_wp2_with (first
     | (at_next;refine wpList_next_ranges_ii _ rfl _ rfl 3 3 .i64 .i64 Fp underlying3 underlying3 w.heap.size W.heap.size ls.length _ _ _ rfl HRG.o ?_ ?_)
     | go_in)
    ·intro _ hl0
     have HV:Hid (mW ls=true):=by
      rw [Hid,mW,List.all_eq_true];intro x hx
      have hh:Maps.has D (.int .i64 x.2.1)=true:=by
       rw [HSUM.o.1,List.any_eq_true];exact ⟨x,hx,by simp⟩
      simpa using HZR.o _ hh (hl0 _)
     clear hl0;go_wp2;go_ret;exact ⟨Aa HV.o.symm,hbw⟩
    ·intro x c w1 cnt1 hwx hwc hlx hat hrg1 hlt hg1 hs1 hen
     have hcs:c=Ec x ls:=by
      have e:=(hat (.lit (.int .i64 0))).symm.trans (HSUM.o.2 x)
      injection e with e1;injection e1
     have q1:BW w w1:=hbw.grown hg1 hbw.size (fun j hj=>by cases hj;exact hbs)
     have HRG1:Hid (w1.ranges prog 3 (plainElem (H:=Unit) prog 3) w.heap.size W.heap.size ls.length D (fun z=>left z && !z.sameKey (.int .i64 x)) cnt1):=hrg1
     have HLT:Hid _:=hlt;have HHX:Hid _:=HLE.o _ hlx;clear hat hrg1 hlt hg1 hwx hwc
     by_cases hc0:c=0
     ·have hc0':(c != 0)=false:=by simpa using hc0
      have HS0:Hid (Ec x ls=0):=by rw [Hid,← hcs,hc0]
      clear hcs hc0;go_wp2
      go_roundw
      case rel =>
       refine ⟨_,cnt1,HRG1.o,(fun c' h=>HLE.o c' (Bool.and_eq_true _ _ ▸ h).1),fun c' h1 h2=>?_,q1⟩
       by_cases hx:c'=x
       ·rw [hx];exact HS0.o
       ·refine HZR.o c' h1 ?_
        have:=Maps.sameKey_ne (Ht hx)
        simp [this] at h2
        exact h2
      case measure=>rw [HRG1.o.left_eq,HRG.o.left_eq];exact HLT.o
     ·have hc0':(c != 0)=true:=by simpa using hc0
      have HV:Hid (mW ls=false):=by
       rw [Hid,mW];have hh:=HHX.o;rw [HSUM.o.1,List.any_eq_true] at hh;obtain ⟨y,hy,he⟩:=hh
       simp at he
       rw [List.all_eq_false]
       exact ⟨y,hy,by rw [he,← hcs];simpa using hc0⟩
      clear hcs hc0;go_wp2;go_ret;exact ⟨Aa HV.o.symm,q1⟩
end Go.Proofs.YtomiclakhjncbaaGreatDoor
namespace Go.Proofs.YtomiclakhjncbaaGreatDoor
open Go.RowKit Go.Proofs.Tryz
theorem Zm (w:World) (q:Nat) (os:Array Obj):Below w.heap.size w (Go.Sort.grow (w.drewN q) os) :=
 ⟨rfl,rfl,rfl,by simp [Go.Sort.grow,World.drewN],fun k hk=>by simp [Go.Sort.grow,World.drewN,Array.getElem?_append,hk]⟩
theorem Kt {a c m:Int} {v:Bool} (h:G7 (a,c,m)=v) (hc:(Lit.int .i64 c).wf=true) (w:World) :
  Calls prog 93 #[.agg #[.int .i64 a,.int .i64 c,.int .i64 m]] w fun e w'=>e=.returned (.bool v)∧BW w w':=by rw [← h];exact aY a c m w hc
theorem Pb {a b c x y z v:Int} (h:Qh (a,b,c) (x,y,z)=v) (w:World) :
  Calls prog 94 #[.agg #[.int .i64 a,.int .i64 b,.int .i64 c],.agg #[.int .i64 x,.int .i64 y,.int .i64 z]] w fun e w'=>e=.returned (.int .i64 v)∧BW w w' :=
 (Nr a b c x y z w).mono fun e w' ⟨he,q,os,hw⟩=>⟨by rw [he,h],by rw [hw];exact Zm w q os⟩
theorem nU {ls:List Ln} (h:Az none ls=true) (hl:ls.length≤400):At ls=mW ls:=by
 have he:Wo ls=mW ls:=by
  rw [Bool.eq_iff_iff,hH fun x hx=>(Ig (Dv h x hx)).2.1,mW,List.all_eq_true]
  simp
 simp [At,h,hl,he]
theorem Ij (ao:Option Addr) (cap:Nat) (ls:List Ln) (w:World) (hz:Ai w ao ls) (hn:ls.length≤1099511627776) (hwf:∀ x ∈ ls,Hw x) :
  Calls prog 39 #[.agg #[.slice ao ls.length cap]] w fun e w'=>e=.returned (.bool (At ls))∧BW w w':=by
 obtain ⟨W,hW⟩:∃ W,W=w.alloc (.cells #[.slice ao ls.length cap] 29):=⟨_,rfl⟩
 have bW:BW w W:=by rw [hW];go_grown
 have hWs:w.heap.size<W.heap.size:=by rw [hW];simp
 have k0:W.cell? ⟨w.heap.size,0,none⟩=some (.slice ao ls.length cap):=by rw [hW];simp
 have HK:Hid (W.cell? ⟨w.heap.size,0,none⟩=some (.slice ao ls.length cap)):=k0;have HZ:Hid (Ai W ao ls):=hz.below bW;have HWF:Hid (∀ x ∈ ls,Hw x):=hwf;clear hz hwf
 by_cases h4:(400:Int)<(ls.length:Int)
 ·have HE:Hid (At ls=false):=by
    have:¬ ls.length≤400:=by omega
    simp [Hid,At,this]
  go_enter func39,ntmps39
  go_wp2;go_ret;rw [← hW];exact ⟨Aa HE.o.symm,bW⟩
 have hl4:ls.length≤400:=by omega
 go_enter func39,ntmps39
 go_wp2;rw [← hW];clear hW
 go_loopw [12] (fun i wr=>∃ k:Nat,k≤ls.length∧i=.int .i64 k∧Az none ls=Az (Fc ls k) (ls.drop k)∧BW W wr) (fun i _=>ls.length - (intOf i).toNat)
 case atStart=>exact ⟨0,Nat.zero_le _,rfl,rfl,bR⟩
 case round =>
  obtain ⟨k,hk,rfl,hok,hbr⟩:=hrel;have HOK:Hid _:=hok;have hbs:=hbr.size;have hws:w.heap.size<wr.heap.size:=Nat.lt_of_lt_of_le hWs hbs;clear hok k0
  by_cases hlt:k<ls.length
  ·have hki:(k:Int)<(ls.length:Int):=by omega
   obtain ⟨b,off,rfl,hb2,c1,c2,c3⟩:=(HZ.o.below hbr).at hlt;have hst:=Mq ls k hlt;have hwk:=HWF.o _ (Ex hlt);obtain ⟨p,hp⟩:∃ p,Fc ls k=p:=⟨_,rfl⟩;have HP:Hid _:=hp;rw [hp] at hst HOK;obtain ⟨⟨x,y,z⟩,hx⟩:∃ x,Cg ls k=x:=⟨_,rfl⟩;rw [hx] at c1 c2 c3 hst hwk
   simp only at c1 c2 c3
   have HWK:Hid ((Lit.int .i64 y).wf=true):=hwk.2.1;have HST:Hid _:=HOK.o.trans hst;obtain ⟨V,hV⟩:∃ V,V=wr.alloc (.cells #[.int .i64 x,.int .i64 y,.int .i64 z] 113):=⟨_,rfl⟩
   have bV:BW W V:=by rw [hV];exact hbr.alloc hbs _
   have hVs:V.heap.size=wr.heap.size+1:=by rw [hV];simp
   have v0:V.cell? ⟨wr.heap.size,0,none⟩=some (.int .i64 x):=by rw [hV];simp
   have v1:V.cell? ⟨wr.heap.size,1,none⟩=some (.int .i64 y):=by rw [hV];simp
   have v2:V.cell? ⟨wr.heap.size,2,none⟩=some (.int .i64 z):=by rw [hV];simp
   have l0:=(bV.cell (p:=⟨w.heap.size,0,none⟩) hWs).trans HK.o;have HBV:Hid (BW W V):=bV;have HBW:Hid (BW w W):=bW;have hVw:W.heap.size≤V.heap.size:=bV.size;have hne:=K0 V;have g0:=As v0;have g1:=As v1;have g2:=As v2;have g3:=As l0;have HLV:Hid (Ai V (some ⟨b,off,none⟩) ls):=HZ.o.below bV;go_upto_region 6 with fail
   rw [← hV];clear hV hst hx hp HOK hwk bV bW hbr c1 c2 c3
   cases h1:G7 (x,y,z)
   ·have HE:Hid (At ls=false):=by
      unfold At
      rw [Hid,HST.o,h1];rfl
    have H1:Hid _:=h1;clear h1 HST
    refine B6 (by kernel_rfl) (by kernel_rfl) ?_
    repeat (go_big_quiet_step (exact F8 (Kt H1.o HWK.o _)))
    refine wpQuiet_nil ?_;rintro _ ⟨⟨u1,q1⟩,hu1⟩;subst hu1;go_wp2;go_ret;exact ⟨Aa HE.o.symm,HBW.o.trans ((HBV.o.trans (q1.mono hVw)).mono HBW.o.size)⟩
   have H1:Hid _:=h1
   have HST2:Hid (Az none ls=(Ni p (x,y,z) && Az (Fc ls (k+1)) (ls.drop (k+1)))):=by rw [Hid,HST.o,h1];rfl
   clear h1 HST
   cases k with
   | zero =>
    have HN:Hid (Az none ls=Az (Fc ls (0+1)) (ls.drop (0+1))):=by
     have hp0:p=none:=by rw [← HP.o];rfl
     rw [Hid,HST2.o,hp0];rfl
    clear HST2 HP
    refine B6 (by kernel_rfl) (by kernel_rfl) ?_
    repeat (go_big_quiet_step (exact F8 (Kt H1.o HWK.o _)))
    refine wpQuiet_nil ?_;rintro _ ⟨⟨u1,q1⟩,hu1⟩;subst hu1;go_wp2
    go_roundw
    case rel=>exact ⟨1,by omega,by go_num,HN.o,HBV.o.trans (q1.mono hVw)⟩
    case measure=>simp [intOf];omega
   | succ k =>
    have hpe:p=some (Cg ls k):=by rw [← HP.o];simp [Fc]
    obtain ⟨b',off',hao,hb',e1,e2,e3⟩:=HLV.o.at (k:=k) (by omega)
    obtain ⟨rfl,rfl⟩:b=b'∧off=off':=by simpa using hao
    obtain ⟨⟨x',y',z'⟩,hx'⟩:∃ x,Cg ls k=x:=⟨_,rfl⟩;rw [hx'] at e1 e2 e3 hpe
    simp only at e1 e2 e3
    subst hpe;have HLT:Hid (Az none ls=(E3 (x',y',z') (x,y,z) && Az (Fc ls (k+1+1)) (ls.drop (k+1+1)))):=HST2.o
    have hk1:((k+1:Nat):Int) - 1=(k:Int):=by omega
    have hk2:(0:Int)<((k+1:Nat):Int):=by omega
    have hkl:(k:Int)<(ls.length:Int):=by omega
    have g4:=As e1;have g5:=As e2;have g6:=As e3
    have hkz:decide (0<k+1)=true:=by simp
    obtain ⟨v,hv⟩:∃ v,Qh (x',y',z') (x,y,z)=v:=⟨_,rfl⟩;have hiff:=cY (x',y',z') (x,y,z);rw [hv] at hiff;have HV:Hid _:=hv;have HIF:Hid _:=hiff;clear HST2 HP hx' hao HLV hv hiff
    by_cases h2:0≤v
    ·have hdn:decide (0≤v)=true:=by simpa using h2
     have HE:Hid (At ls=false):=by
      have:E3 (x',y',z') (x,y,z)=false:=by
       cases h:E3 (x',y',z') (x,y,z)
       ·rfl
       ·have:=HIF.o.2 h;omega
      unfold At
      rw [Hid,HLT.o,this];rfl
     clear HLT HIF
     refine B6 (by kernel_rfl) (by kernel_rfl) ?_
     repeat (go_big_quiet_step (first | exact F8 (Kt H1.o HWK.o _) | exact F8 (Pb HV.o _)))
     refine wpQuiet_nil ?_;rintro _ ⟨⟨u1,q1⟩,hu1⟩;subst hu1;go_wp2;go_ret;exact ⟨Aa HE.o.symm,HBW.o.trans ((HBV.o.trans (q1.mono hVw)).mono HBW.o.size)⟩
    ·have hdn:decide (0≤v)=false:=by simpa using h2
     have HN:Hid (Az none ls=Az (Fc ls (k+1+1)) (ls.drop (k+1+1))):=by
      rw [Hid,HLT.o,HIF.o.1 (by omega)];rfl
     clear HLT HIF
     refine B6 (by kernel_rfl) (by kernel_rfl) ?_
     repeat (go_big_quiet_step (first | exact F8 (Kt H1.o HWK.o _) | exact F8 (Pb HV.o _)))
     refine wpQuiet_nil ?_;rintro _ ⟨⟨u1,q1⟩,hu1⟩;subst hu1;go_wp2
     go_roundw
     case rel=>exact ⟨k+1+1,by omega,by go_num,HN.o,HBV.o.trans (q1.mono hVw)⟩
     case measure=>simp [intOf];omega
  ·have hke:k=ls.length:=by omega
   subst hke
   have hki:¬ (ls.length:Int)<(ls.length:Int):=by omega
   have hall:Az none ls=true:=by rw [HOK.o,Pf]
   have HE:Hid (At ls=mW ls):=nU hall hl4
   have HBD:Hid (∀ x ∈ ls,-1000000000000≤x.2.2∧x.2.2≤1000000000000):=fun x hx=>(Ig (Dv hall x hx)).2.2.1
   have l0:=(hbr.cell (p:=⟨w.heap.size,0,none⟩) hWs).trans HK.o;have q0:=next bW hbr;have HZR:Hid (Ai wr ao ls):=HZ.o.below hbr;clear HOK hall hbr bW;go_wp2_with fail
   refine (iW _ _ _ _ HZR.o hl4 HBD.o (fun x hx=>(HWF.o x hx).2.1)).mono ?_
   rintro e u1 ⟨rfl,b1⟩;have q1:=next q0 b1;obtain ⟨V,hV⟩:∃ V,mW ls=V:=⟨_,rfl⟩;rw [hV] at HE ⊢;clear b1 q0 hV;go_wp2;go_ret;exact ⟨Aa HE.o.symm,q1⟩
theorem PB.grown {s:Nat} {ao:Option Addr} {cap n:Nat} {a b c m:Int} {u u':World} {g:Nat} (h:PB s ao cap n a b c m u) (hg:u.grownBy u' (some g)) (hne:s+1+1<g):PB s ao cap n a b c m u':=by
 have h1:=h.sz
 exact ⟨(hg.cell_far ⟨s,0,none⟩ (by show s<u.heap.size;omega) (by simp;omega)).trans h.l0,(hg.cell_far ⟨s+1,0,none⟩ (by show s+1<u.heap.size;omega) (by simp;omega)).trans h.e0,(hg.cell_far ⟨s+1,1,none⟩ (by show s+1<u.heap.size;omega) (by simp;omega)).trans h.e1,
  (hg.cell_far ⟨s+1,2,none⟩ (by show s+1<u.heap.size;omega) (by simp;omega)).trans h.e2,(hg.cell_far ⟨s+1,3,none⟩ (by show s+1<u.heap.size;omega) (by simp;omega)).trans h.e3,(hg.cell_far ⟨s+1+1,0,none⟩ h1 (by simp;omega)).trans h.r0,(hg.frozen_far ⟨s+1+1,0,none⟩ h1 (by simp;omega)).trans h.rf,Nat.lt_of_lt_of_le h1 hg.size⟩
theorem jW {ls:List Ln} (h:∀ x ∈ ls,-4000000000000≤x.2.2∧x.2.2≤4000000000000) (a c:Int):-4000000000000≤(Cf ls a c).getD 0∧(Cf ls a c).getD 0≤4000000000000:=by
 cases hl:Cf ls a c with
 | none=>simp
 | some v=>have:=h _ (Mr hl);simpa using this
theorem cR {ls:List Ln} {a c m:Int} (h:∀ x ∈ ls,Hw x) (hb:∀ x ∈ ls,-4000000000000≤x.2.2∧x.2.2≤4000000000000) (ha:Bf a) (hc:Bf c) (hm:-1000000000000≤m∧m≤1000000000000):∀ x ∈ Cr ls a c m,Hw x:=by
 intro x hx
 have hk:Bf x.1∧Bf x.2.1:=by
  rcases Wf hx with h1 | ⟨h1,h2⟩
  ·exact ⟨(h x h1).1,(h x h1).2.1⟩
  ·rw [h1,h2];exact ⟨ha,hc⟩
 refine ⟨hk.1,hk.2,WalkArith.wf_i64 ?_⟩
 rcases P0 x hx with h1 | h1 | ⟨y,hy,h1⟩
 ·have:=hb x h1;omega
 ·omega
 ·have:=hb y hy;omega
theorem K9 (ao:Option Addr) (cap:Nat) (ls:List Ln) (a b c m:Int) (w:World) (hz:Ai w ao ls) (hn:ls.length≤1048576) (hlb:∀ x ∈ ls,Hw x) (heb:Ma (a,b,c,m)) :
  Calls prog 287 #[.agg #[.slice ao ls.length cap],.agg #[.int .i64 a,.int .i64 b,.int .i64 c,.int .i64 m]] w (Jl w (Gg ls (a,b,c,m)) (Cj ls (a,b,c,m))):=by
 obtain ⟨W,hW⟩:∃ W,W=((w.alloc (.cells #[.slice ao ls.length cap] 29)).alloc (.cells #[.int .i64 a,.int .i64 b,.int .i64 c,.int .i64 m] 269)).alloc (.cells #[.slice none 0 0] 29):=⟨_,rfl⟩
 have bW:BW w W:=by rw [hW];go_grown
 have PW:PB w.heap.size ao cap ls.length a b c m W:=by
  rw [hW];exact ⟨by simp [go_sem],by simp [go_sem],by simp [go_sem],by simp [go_sem],by simp [go_sem],by simp [go_sem],by simp [go_sem],by simp⟩
 have HZ0:Hid (Ai w ao ls):=hz;have HZ:Hid (Ai W ao ls):=hz.below bW;have HW:Hid _:=hW;have l0:=PW.l0;have HPW:Hid (PB w.heap.size ao cap ls.length a b c m W):=PW;have HLB:Hid (∀ x ∈ ls,Hw x):=hlb;have HEB:Hid (Ma (a,b,c,m)):=heb;clear hz hW PW hlb heb
 cases hL:At ls
 ·have hno:Cj ls (a,b,c,m)=false:=by simp [Cj,hL]
  have HNL:Hid _:=Hs hno;rw [hno]
  have HC:Hid (Calls prog 39 #[.agg #[.slice ao ls.length cap]] W fun e w'=>e=.returned (.bool false)∧BW W w'):=by
   have h:=Ij ao cap ls W HZ.o (by omega) HLB.o
   rw [hL] at h;exact h
  clear hno hL
  go_enter func287,ntmps287
  go_upto_region 1 with fail
  rw [← HW.o];go_wp2_with fail
  refine HC.o.mono ?_;rintro e w1 ⟨rfl,b1⟩;have P1:=HPW.o.below b1;have q1:=next bW b1;have HZ1:Hid (Ai w1 ao ls):=HZ.o.below b1;have j0:=P1.l0;have HP1:Hid (PB w.heap.size ao cap ls.length a b c m w1):=P1;clear HC b1 P1 l0;go_wp2_with fail
  refine (Hg ao cap ls w1 HZ1.o (by omega)).mono ?_
  rintro e w2 ⟨g2,c2,rfl,o2,b2⟩;have P2:=HP1.o.below b2;have r0:=P2.r0;have rf:=P2.rf;have HE:Hid _:=Gd (w:=w) (ok:=false) HNL.o o2 HP1.o.sz (next q1 b2);clear o2 b2 P2 j0;go_wp2
  refine bodyPost_ret (by simp [results,results287,go_sem,r0];try rfl) rfl ?_
  exact HE.o
 have HCL:Hid (Calls prog 39 #[.agg #[.slice ao ls.length cap]] W fun e w'=>e=.returned (.bool true)∧BW W w'):=by
  have h:=Ij ao cap ls W HZ.o (by omega) HLB.o
  rw [hL] at h;exact h
 cases hE:Bt (a,b,c,m)
 ·have hno:Cj ls (a,b,c,m)=false:=by simp [Cj,hE]
  have HNL:Hid _:=Hs hno;rw [hno];have HEO:Hid _:=hE;clear hno hL hE
  go_enter func287,ntmps287
  go_upto_region 1 with fail
  rw [← HW.o];go_wp2_with fail
  refine HCL.o.mono ?_;rintro e w1 ⟨rfl,b1⟩;have P1:=HPW.o.below b1;have q1:=next bW b1;have HZ1:Hid (Ai w1 ao ls):=HZ.o.below b1;have k0:=P1.e0;have k1:=P1.e1;have k2:=P1.e2;have k3:=P1.e3
  have HCE:Hid (Calls prog 313 #[.agg #[.int .i64 a,.int .i64 b,.int .i64 c,.int .i64 m]] w1 fun e w'=>e=.returned (.bool false)∧BW w1 w'):=by
   have h:=Nm a b c m w1 HEB.o.2.2.1;rw [HEO.o] at h;exact h
  have HP1:Hid (PB w.heap.size ao cap ls.length a b c m w1):=P1;clear HCL b1 P1 l0;go_wp2_with fail
  refine HCE.o.mono ?_;rintro e w2 ⟨rfl,b2⟩;have P2:=HP1.o.below b2;have q2:=next q1 b2;have HZ2:Hid (Ai w2 ao ls):=HZ1.o.below b2;have j0:=P2.l0;have HP2:Hid (PB w.heap.size ao cap ls.length a b c m w2):=P2;clear HCE b2 P2 k0 k1 k2 k3;go_wp2_with fail
  refine (Hg ao cap ls w2 HZ2.o (by omega)).mono ?_
  rintro e w3 ⟨g3,c3,rfl,o3,b3⟩;have P3:=HP2.o.below b3;have r0:=P3.r0;have rf:=P3.rf;have HE:Hid _:=Gd (w:=w) (ok:=false) HNL.o o3 HP2.o.sz (next q2 b3);clear o3 b3 P3 j0;go_wp2
  refine bodyPost_ret (by simp [results,results287,go_sem,r0];try rfl) rfl ?_
  exact HE.o
 ·obtain ⟨hl1,hl2,_⟩:=Dq hL
  obtain ⟨_,_,_,_,hm1,hm2⟩:=Lq hE
  simp only at hm1 hm2
  have hsrt:=Qn hl1;have hnz:=Rz hl1
  have hbd:∀ x ∈ ls,-1000000000000≤x.2.2∧x.2.2≤1000000000000:=fun x hx=>(Ig (Dv hl1 x hx)).2.2.1
  have HB1:Hid (∀ x ∈ ls,-4000000000000≤x.2.2∧x.2.2≤4000000000000):=fun x hx=>by have:=hbd x hx;omega
  have HB2:Hid (∀ x ∈ Cr ls a c (-m),-4000000000000≤x.2.2∧x.2.2≤4000000000000):=fun x hx=>by
   rcases P0 x hx with h | h | ⟨y,hy,h⟩
   ·have:=hbd x h;omega
   ·omega
   ·have:=hbd y hy;omega
  have hla:=Mp ls a c (-m);have hlb:=Mp (Cr ls a c (-m)) b c m;have HPT:Hid (G5 ls (a,b,c,m)=Cr (Cr ls a c (-m)) b c m):=rfl
  have HPO:Hid (Cj ls (a,b,c,m)=At (Cr (Cr ls a c (-m)) b c m)):=by rw [Hid,Cj,hL,hE];rfl
  have HLA1:Hid _:=Tb hsrt a c (show -m≠0 by omega)
  have HLA2:Hid _:=Tb (Rn hsrt a c (-m)) b c (show m≠0 by omega)
  have HSA:Hid (Va (Cr (Cr ls a c (-m)) b c m)):=Rn (Rn hsrt a c (-m)) b c m
  have HBA:Hid (∀ x ∈ Cr (Cr ls a c (-m)) b c m,Hw x):=cR (cR HLB.o HB1.o HEB.o.1 HEB.o.2.2.1 ⟨by omega,by omega⟩) HB2.o HEB.o.2.1 HEB.o.2.2.1 ⟨by omega,by omega⟩
  obtain ⟨A1,hA1⟩:∃ A1,Cr ls a c (-m)=A1:=⟨_,rfl⟩;rw [hA1] at HB2 hla hlb HPT HPO HLA1 HLA2 HSA HBA;obtain ⟨A,hA⟩:∃ A,Cr A1 b c m=A:=⟨_,rfl⟩;rw [hA] at hlb HPT HPO HLA2 HSA HBA;have HEO:Hid _:=hE;have HS:Hid (Va ls):=hsrt;have HNZ:Hid (NZ ls):=hnz;have HBD:Hid (∀ x ∈ ls,-1000000000000≤x.2.2∧x.2.2≤1000000000000):=hbd
  have hAb:A.length≤402:=by omega
  clear hL hE hl1 hbd hla hlb hA1 hA hsrt hnz
  have hwn:IntKind.i64.wrap (-m) = -m:=by simp [IntKind.wrap,IntKind.bits,IntKind.signed];omega
  go_enter func287,ntmps287
  go_upto_region 1 with fail
  rw [← HW.o];go_wp2_with fail
  refine HCL.o.mono ?_;rintro e w1 ⟨rfl,b1⟩;have P1:=HPW.o.below b1;have q1:=next bW b1;have k0:=P1.e0;have k1:=P1.e1;have k2:=P1.e2;have k3:=P1.e3
  have HCE:Hid (Calls prog 313 #[.agg #[.int .i64 a,.int .i64 b,.int .i64 c,.int .i64 m]] w1 fun e w'=>e=.returned (.bool true)∧BW w1 w'):=by
   have h:=Nm a b c m w1 HEB.o.2.2.1;rw [HEO.o] at h;exact h
  have HP1:Hid (PB w.heap.size ao cap ls.length a b c m w1):=P1;clear HCL b1 P1 l0;go_wp2_with fail
  refine HCE.o.mono ?_;rintro e w2 ⟨rfl,b2⟩;have P2:=HP1.o.below b2;have q2:=next q1 b2;have HZ2:Hid (Ai w2 ao ls):=HZ0.o.below q2;have j0:=P2.l0;have HP2:Hid (PB w.heap.size ao cap ls.length a b c m w2):=P2;clear HCE b2 P2 k0 k1 k2 k3;go_wp2_with fail
  refine (Ut ao cap ls w2 HZ2.o hl2 HS.o HNZ.o HBD.o HLB.o).mono ?_;rintro e w3 ⟨g,rfl,hg,m3,b3⟩;have P3:=HP2.o.below b3;have q3:=next q2 b3;have hgs:w.heap.size+1+1<g:=Nat.lt_of_lt_of_le HP2.o.sz hg;have HM3:Hid (F5 w3 g ls.length (Cf ls)):=m3;have i0:=P3.e0;have i2:=P3.e2;have i3:=P3.e3;have HP3:Hid (PB w.heap.size ao cap ls.length a b c m w3):=P3;have HV1:Hid _:=tP HBD.o a c;clear m3 b3 P3 j0 hg;go_wp2_with fail
  refine (U6 g ls.length (Cf ls) a c (-m) _ w3 HM3.o HEB.o.1 HEB.o.2.2.1 rfl (by have:=HV1.o;omega) (by unfold maxLen;omega)).mono ?_
  rintro e w4 ⟨rfl,m4,g4⟩;have P4:=HP3.o.grown g4 hgs
  have q4:BW w w4:=q3.grown g4 q3.size (fun j hj=>by cases hj;omega)
  have HM4:Hid (F5 w4 g (ls.length+1) (Cf A1)):=by rw [HLA1.o];exact m4
  have i1:=P4.e1;have i2:=P4.e2;have i3:=P4.e3;have HP4:Hid (PB w.heap.size ao cap ls.length a b c m w4):=P4;have HV2:Hid _:=jW HB2.o b c;clear m4 g4 P4 i0 HM3 HP3;go_wp2_with fail
  refine (U6 g (ls.length+1) (Cf A1) b c m _ w4 HM4.o HEB.o.2.1 HEB.o.2.2.1 rfl (by have:=HV2.o;omega) (by unfold maxLen;omega)).mono ?_
  rintro e w5 ⟨rfl,m5,g5⟩;have P5:=HP4.o.grown g5 hgs
  have q5:BW w w5:=q4.grown g5 q4.size (fun j hj=>by cases hj;omega)
  have HM5:Hid (F5 w5 g (ls.length+1+1) (Cf A)):=by rw [HLA2.o];exact m5
  have HP5:Hid (PB w.heap.size ao cap ls.length a b c m w5):=P5;clear m5 g5 P5 i1 i2 i3 HM4 HP4 q3 q4;go_wp2_with fail
  refine (Y1 g (ls.length+1+1) (Cf A) w5 HM5.o (by omega)).mono ?_
  rintro e w6 ⟨g6,k6,L,rfl,s6,lk6,_,o6,b6⟩
  have hLA:L=A:=aQ s6 HSA.o (fun x y=>by rw [lk6])
  subst hLA;have P6:=HP5.o.below b6;have q6:=next q5 b6;obtain ⟨V,hV⟩:∃ V,V=w6.alloc (.cells #[.slice g6 L.length k6] 29):=⟨_,rfl⟩
  have bV:BW w6 V:=by rw [hV];go_grown
  have v0:V.cell? ⟨w6.heap.size,0,none⟩=some (.slice g6 L.length k6):=by rw [hV];simp
  have PV:=P6.below bV;have qV:=next q6 bV;have HOV:Hid (V.ownsRow w5.heap.size 113 3 (.slice g6 L.length k6) L.length (Ag L)):=Av o6 bV;have HZV:Hid (Ai V ao ls):=HZ0.o.below qV;have HPV:Hid (PB w.heap.size ao cap ls.length a b c m V):=PV
  have HCL2:Hid (Calls prog 39 #[.agg #[.slice g6 L.length k6]] V fun e w'=>e=.returned (.bool (At L))∧BW V w'):=Ij g6 k6 L V (Df HOV.o) (by omega) HBA.o
  have hs5:w.heap.size+1+1<w5.heap.size:=HP5.o.sz;clear s6 lk6 o6 b6 bV P6 PV q6 HM5 HLA1 HLA2;go_upto_region 7 with fail
  rw [← hV];clear hV
  cases hLA:At L
  ·have hno:Cj ls (a,b,c,m)=false:=HPO.o.trans hLA
   have HNL:Hid _:=Hs hno;have HNO:Hid _:=hno;rw [hLA] at HCL2;clear hno hLA;go_wp2_with fail
   refine HCL2.o.mono ?_;rintro e w7 ⟨rfl,b7⟩;have P7:=HPV.o.below b7;have q7:=next qV b7;have HZ7:Hid (Ai w7 ao ls):=HZV.o.below b7;have j0:=P7.l0;have HP7:Hid (PB w.heap.size ao cap ls.length a b c m w7):=P7;clear HCL2 b7 P7 v0;go_wp2_with fail
   refine (Hg ao cap ls w7 HZ7.o (by omega)).mono ?_
   rintro e w8 ⟨g8,c8,rfl,o8,b8⟩;have P8:=HP7.o.below b8;have r0:=P8.r0;have rf:=P8.rf;have HE:Hid _:=Gd (w:=w) (ok:=false) HNL.o o8 HP7.o.sz (next q7 b8);clear o8 b8 P8 j0;go_wp2
   refine bodyPost_ret (by simp [results,results287,go_sem,r0];try rfl) rfl ?_
   rw [HNO.o];exact HE.o
  ·have hyes:Cj ls (a,b,c,m)=true:=HPO.o.trans hLA
   have HNL:Hid (Gg ls (a,b,c,m)=L):=(N9 hyes).trans HPT.o;have HNO:Hid _:=hyes;rw [hLA] at HCL2;clear hyes hLA;go_wp2_with fail
   refine HCL2.o.mono ?_;rintro e w7 ⟨rfl,b7⟩;have P7:=HPV.o.below b7;have q7:=next qV b7;have v7:=(b7.cell (p:=⟨w6.heap.size,0,none⟩) (World.block_lt_of_cell? V _ v0)).trans v0;have r0:=P7.r0;have rf:=P7.rf;have HE:Hid _:=Gd (w:=w) (ok:=true) HNL.o (Av HOV.o b7) hs5 q7;clear HCL2 b7 P7 v0;go_wp2
   refine bodyPost_ret (by simp [results,results287,go_sem,r0];try rfl) rfl ?_
   rw [HNO.o];exact HE.o
theorem Um (ao:Option Addr) (cap:Nat) (ls:List Ln) (eo:Option Addr) (ec:Nat) (es:List En) (w:World) (hz:Ai w ao ls) (hn:ls.length≤1048576) (hlb:∀ x ∈ ls,Hw x) (hy:C8 w eo es) (hm:es.length≤1048576) (heb:∀ x ∈ es,Ma x) :
  Calls prog 255 #[.agg #[.slice ao ls.length cap],.slice eo es.length ec] w (Jl w (Hv ls es) (allOk ls es)):=by
 obtain ⟨W,hW⟩:∃ W,W=(w.alloc (.cells #[.slice ao ls.length cap] 29)).alloc (.cells #[.slice none 0 0] 29):=⟨_,rfl⟩
 have bW:BW w W:=by rw [hW];go_grown
 have hWs:W.heap.size=w.heap.size+2:=by rw [hW];simp
 have l0:W.cell? ⟨w.heap.size,0,none⟩=some (.slice ao ls.length cap):=by rw [hW];simp [go_sem]
 have r0:W.cell? ⟨w.heap.size+1,0,none⟩=some (.slice none 0 0):=by rw [hW];simp [go_sem]
 have rf:W.frozen? ⟨w.heap.size+1,0,none⟩=false:=by rw [hW];simp [go_sem]
 have HL0:Hid _:=l0;have HR0:Hid _:=r0;have HRF:Hid _:=rf;have HZ:Hid (Ai w ao ls):=hz;have HY:Hid (C8 w eo es):=hy;have HLB:Hid (∀ x ∈ ls,Hw x):=hlb;have HEB:Hid (∀ x ∈ es,Ma x):=heb;have HBW:Hid (BW w W):=bW;have HWS:Hid _:=hWs;clear hz hy hlb heb r0 rf bW hWs
 go_enter func255,ntmps255
 go_upto_region 1 with fail
 rw [← hW];clear hW;go_wp2_with fail
 refine (Hg ao cap ls W (HZ.o.below HBW.o) (by omega)).mono ?_
 rintro e w1 ⟨a1,k1,rfl,o1,b1⟩;have hws:=HWS.o
 have P1:PA w.heap.size w1.heap.size ao cap ls.length ls a1 k1 (w1.alloc (.cells #[.slice a1 ls.length k1] 29)):=Vv ((b1.cell (p:=⟨w.heap.size,0,none⟩) (by show w.heap.size<W.heap.size;omega)).trans HL0.o) ((b1.cell (p:=⟨w.heap.size+1,0,none⟩) (by show w.heap.size+1<W.heap.size;omega)).trans HR0.o) ((b1.frozen (p:=⟨w.heap.size+1,0,none⟩) (by show w.heap.size+1<W.heap.size;omega)).trans HRF.o) (Bi o1 (by omega))
 have q1:=next HBW.o b1;obtain ⟨V,hV⟩:∃ V,V=w1.alloc (.cells #[.slice a1 ls.length k1] 29):=⟨_,rfl⟩
 have qV:BW w V:=by rw [hV];exact q1.alloc q1.size _
 have HPV:Hid (PA w.heap.size w1.heap.size ao cap ls.length ls a1 k1 V):=by rw [Hid,hV];exact P1
 obtain ⟨B,hBe⟩:∃ B,B=w1.heap.size:=⟨_,rfl⟩;clear P1 q1 o1 b1 l0 hws;go_upto_region 2 with fail
 rw [← hV,← hBe];rw [← hBe] at HPV;clear hV hBe;go_wp2
 go_loopw [7,14] (fun v7 i wr=>∃ (k:Nat) (uV:List Ln) (a2:Option Addr) (k2:Nat),k≤es.length∧i=.int .i64 k∧v7=.bool true∧Ch ls es=Ch uV (es.drop k)∧PA w.heap.size B ao cap ls.length uV a2 k2 wr∧(uV.length≤1048576∧∀ x ∈ uV,Hw x)∧BW w wr) (fun _ i _=>es.length - (intOf i).toNat)
 case atStart=>exact ⟨0,ls,a1,k1,Nat.zero_le _,rfl,rfl,rfl,HPV.o,⟨hn,HLB.o⟩,qV⟩
 case round =>
  obtain ⟨k,uV,a2,k2,hk,rfl,rfl,hps,hpa,⟨hcl,hcb⟩,hbr⟩:=hrel;have HPA:Hid (PA w.heap.size B ao cap ls.length uV a2 k2 wr):=hpa;have HCB:Hid (∀ x ∈ uV,Hw x):=hcb;have HPS:Hid (Ch ls es=Ch uV (es.drop k)):=hps;clear hpa hcb hps HPV qV
  by_cases hlt:k<es.length
  ·have hki:(k:Int)<(es.length:Int):=by omega
   obtain ⟨b,off,rfl,hb2,y1,y2,y3,y4⟩:=(HY.o.below hbr).at hlt;have hst:=Rb uV es k hlt;have hek:=HEB.o _ (lJ hlt);obtain ⟨⟨a,a',c,m⟩,hx⟩:∃ x,I4 es k=x:=⟨_,rfl⟩;rw [hx] at y1 y2 y3 y4 hst hek
   simp only at y1 y2 y3 y4
   have HST:Hid _:=HPS.o.trans hst;have HEK:Hid (Ma (a,a',c,m)):=hek;obtain ⟨U,hU⟩:∃ U,U=wr.alloc (.cells #[.int .i64 a,.int .i64 a',.int .i64 c,.int .i64 m] 269):=⟨_,rfl⟩
   have bU:BW wr U:=by rw [hU];go_grown
   have u0:U.cell? ⟨wr.heap.size,0,none⟩=some (.int .i64 a):=by rw [hU];simp
   have u1:U.cell? ⟨wr.heap.size,1,none⟩=some (.int .i64 a'):=by rw [hU];simp
   have u2:U.cell? ⟨wr.heap.size,2,none⟩=some (.int .i64 c):=by rw [hU];simp
   have u3:U.cell? ⟨wr.heap.size,3,none⟩=some (.int .i64 m):=by rw [hU];simp
   have HPU:Hid (PA w.heap.size B ao cap ls.length uV a2 k2 U):=HPA.o.below bU;have c6:=HPU.o.c6;have qU:=next hbr bU;have HBU:Hid (B<U.heap.size):=World.block_lt_of_cell? U _ c6;clear hst hek hx bU hbr;go_upto_region 5 with fail
   rw [← hU];clear hU y1 y2 y3 y4;go_wp2_with fail
   refine (K9 a2 k2 uV a a' c m U (Df HPU.o.own) hcl HCB.o HEK.o).mono ?_;rintro e w2 ⟨a3,k3,rfl,o3,b3⟩;have P3:=HPU.o.below b3;have d6:=P3.c6;have f6:=P3.f6;have q3:=next qU b3;have hbu:=HBU.o;have HP4:Hid (PA w.heap.size B ao cap ls.length (Gg uV (a,a',c,m)) a3 k3 (w2.setCell ⟨B,0,none⟩ (.slice a3 (Gg uV (a,a',c,m)).length k3))):=P3.put o3 hbu;have hBs:=HPA.o.hB
   have q4:Below w.heap.size w (w2.setCell ⟨B,0,none⟩ (.slice a3 (Gg uV (a,a',c,m)).length k3)):=q3.setCell (by show w.heap.size≤B;omega) _
   clear P3 o3 b3 q3 hbu c6 u0 u1 u2 u3 qU hBs
   cases hok:Cj uV (a,a',c,m)
   ·rw [hok] at HST
    have HNO:Hid (Ch ls es=none):=HST.o;have HPL:Hid (Gg uV (a,a',c,m)=uV):=Hs hok;rw [HPL.o] at HP4 q4 ⊢;clear HST hok;obtain ⟨X,hX⟩:∃ X,X=w2.setCell ⟨B,0,none⟩ (.slice a3 uV.length k3):=⟨_,rfl⟩;rw [← hX] at HP4 q4;have l4:=HP4.o.l0;have HZX:Hid (Ai X ao ls):=HZ.o.below q4;go_upto_region 7 with fail
    rw [← hX];clear hX d6 f6;go_wp2_with fail
    refine (Hg ao cap ls X HZX.o (by omega)).mono ?_
    rintro e w5 ⟨a5,k5,rfl,o5,b5⟩;have P5:=HP4.o.below b5;have r5:=P5.r0;have rf5:=P5.rf
    have HE:Hid (Jl w (Hv ls es) (allOk ls es) (.returned (.tuple #[.agg #[.slice a5 ls.length k5],.bool false])) (w5.setCell ⟨w.heap.size+1,0,none⟩ (.slice a5 ls.length k5))):=by
     have h1:allOk ls es=false:=by unfold allOk;rw [HNO.o];rfl
     have h2:Hv ls es=ls:=by unfold Hv;rw [HNO.o];rfl
     rw [Hid,h1];exact Pq (w:=w) h2 o5 (World.block_lt_of_cell? X _ HP4.o.r0) (next q4 b5)
    clear o5 b5 P5 l4;go_wp2
    refine bodyPost_ret (by simp [results,results255,go_sem,r5];try rfl) rfl ?_
    exact HE.o
   ·have hpo:=N1 hok
    rw [hok] at HST
    have HN:Hid (Ch ls es=Ch (Gg uV (a,a',c,m)) (es.drop (k+1))):=by rw [Hid,HST.o,hpo.1];rfl
    have HB2:Hid ((Gg uV (a,a',c,m)).length≤1048576∧∀ x ∈ Gg uV (a,a',c,m),Hw x):=by
     rw [hpo.1]
     exact ⟨by have:=(Dq hpo.2).2.1;omega,Vm hpo.2⟩
    clear HST hok hpo
    generalize Gg uV (a,a',c,m)=nxt at *
    go_wp2
    go_roundw
    case rel=>exact ⟨k+1,nxt,a3,k3,by omega,by go_num,rfl,HN.o,HP4.o,HB2.o,q4⟩
    case measure=>simp [intOf];omega
  ·have hke:k=es.length:=by omega
   subst hke
   have hki:¬ (es.length:Int)<(es.length:Int):=by omega
   have hsome:Ch ls es=some uV:=by rw [HPS.o,Te]
   have c6:=HPA.o.c6;have r0:=HPA.o.r0;have rf:=HPA.o.rf
   have HE:Hid (Jl w (Hv ls es) (allOk ls es) (.returned (.tuple #[.agg #[.slice a2 uV.length k2],.bool true])) (wr.setCell ⟨w.heap.size+1,0,none⟩ (.slice a2 uV.length k2))):=by
    have h1:allOk ls es=true:=by unfold allOk;rw [hsome];rfl
    have h2:Hv ls es=uV:=by unfold Hv;rw [hsome];rfl
    rw [Hid,h1]
    exact Pq (w:=w) h2 HPA.o.own (by omega) hbr
   clear hsome HPS;go_wp2
   refine bodyPost_ret (by simp [results,results255,go_sem,r0];try rfl) rfl ?_
   exact HE.o
namespace Kb
theorem iV {u:World} {base n size:Nat} {t:TypeId} {v:Value} {xs:List Value} (h:u.ownsRow base t size v n xs):∃ a c,v=.slice a n c:=by
 rcases h.2 with ⟨hv,h0⟩ | ⟨g,cap,uV,hv,_⟩
 ·exact ⟨none,0,by rw [hv,h0]⟩
 ·exact ⟨_,_,hv⟩
theorem fZ (g:Nat) (ao:Option Addr) (cap:Nat) (cs:List Cs) (w:World) (hc:w.cell? ⟨g,0,none⟩=some (.slice ao cs.length cap)) (hz:A0 w ao cs) (hn:cs.length≤1048577) :
  Calls prog 111 #[.slice (some ⟨g,0,none⟩) 1 1] w fun e w'=>∃ a2 k2,e=.returned (.slice a2 cs.length k2) ∧
   w'.ownsRow w.heap.size 61 12 (.slice a2 cs.length k2) cs.length (Aj cs)∧BW w w':=by
 have HZ:Hid (A0 w ao cs):=hz;clear hz
 go_enter func111,ntmps111
 go_wp2;refine wp_loop_rounds 2 ?_;rw [rounds_succ]
 go_wp2_with (at_builtin;refine Eh _ rfl (.tmp 12) (.tmp 13) rfl w.heap.size _ 0 [] rfl (World.ownsRow_nil _ _ _ _) ao cap cs rfl HZ.o (by omega) nL ?_;intro v2 w2 o2 g2 _)
 have q2:BW w w2:=bR.grown g2 nL (fun k hk=>by cases hk)
 rw [Nat.zero_add,List.nil_append] at o2;obtain ⟨a2,k2,hv2⟩:=iV o2;subst hv2;have HO2:Hid (w2.ownsRow w.heap.size 61 12 (.slice a2 cs.length k2) cs.length (Aj cs)):=o2;clear o2 g2 HZ hc;go_wp2;rw [rounds_succ];go_wp2;go_ret;exact ⟨a2,k2,rfl,HO2.o,q2⟩
theorem Sb {F:Ff} {E:World→Prop} {G:Nat} (KI:Rq F E G) (ao:Option Addr) (cap:Nat) (rs:Be) (w:World) (hz:Bh w ao rs) (hn:rs.length≤1048576) (hd:∀ r ∈ rs,r.length≤1048576) :
  Calls prog 112 #[.slice ao rs.length cap] w fun e w'=>e=.returned (.slice (some ⟨w.heap.size,0,none⟩) rs.length rs.length) ∧
   w'.ownsRow w.heap.size 9 1 (.slice (some ⟨w.heap.size,0,none⟩) rs.length rs.length) rs.length (Am rs)∧BW w w':=by
 obtain ⟨i0,hi,hz0,hz1,hz2⟩:=info_parts S1;have hm0:=Qc rs.length
 rcases hz with rfl | ⟨b,off,rfl,hb,hcell⟩
 ·go_enter func112,ntmps112
  go_wp2_with (refine wpList_make_full _ rfl (.tmp 7) (.tmp 7) 23 rfl w.heap.size 9 i0 _ 1 underlying23 hi hz0 hz1 .i64 .i64 _ _ 0 rfl rfl rfl rfl (by rw [hz2];omega) (by unfold maxLen;omega) nL ?_;intro w1 hown hg)
  refine wp_loop_rounds 1 ?_;rw [rounds_succ];go_wp2;go_ret
  exact ⟨rfl,by simpa [madeCells,Am] using hown,bR.grown hg nL (fun k hk=>by cases hk)⟩
 ·have HC:Hid (∀ i,i<rs.length→w.cell? ⟨b,off+i,none⟩=some (.string ⟨(Al rs i).toArray⟩)):=hcell
  have HCL:Hid (∀ (i:Nat) (u:World),i<rs.length→Calls prog 138 #[.string ⟨(Al rs i).toArray⟩] u fun e w'=>e=.returned (.string ⟨(Al rs i).toArray⟩)∧BW u w'):=fun i u h=>KI.clone _ u (hd _ (F7 h))
  clear hcell KI hd
  go_enter func112,ntmps112
  go_wp2_with (refine wpList_make_full _ rfl (.tmp 7) (.tmp 7) 23 rfl w.heap.size 9 i0 _ 1 underlying23 hi hz0 hz1 .i64 .i64 _ _ rs.length rfl rfl rfl rfl (by rw [hz2];omega) (by unfold maxLen;omega) nL ?_;intro w1 hown hg)
  rw [hm0,show List.replicate rs.length ([]:List UInt8)=Eg rs 0 from by simp [Eg]] at hown
  have hb1:BW w w1:=bR.grown hg nL (fun k hk=>by cases hk)
  clear hm0 hg
  go_loopw [11] (fun i wr=>∃ k:Nat,k≤rs.length∧i=.int .i64 k∧wr.ownsRow w.heap.size 9 1 (.slice (some ⟨w.heap.size,0,none⟩) rs.length rs.length) rs.length (Am (Eg rs k))∧BW w wr) (fun i _=>rs.length - (intOf i).toNat)
  case atStart=>exact ⟨0,Nat.zero_le _,rfl,hown,hb1⟩
  case round =>
   obtain ⟨k,hk,rfl,ho,hbr⟩:=hrel;clear hown hb1
   by_cases hlt:k<rs.length
   ·have c1:wr.cell? ⟨b,off+k,none⟩=some (.string ⟨(Al rs k).toArray⟩):=(hbr.cell (p:=⟨b,off+k,none⟩) hb).trans (HC.o k hlt)
    have hki:(k:Int)<(rs.length:Int):=by omega
    have HS:Hid _:=Q8 rs k hlt;have HT:Hid _:=Lu (Eg rs k) k (Al rs k)
    have hat:=Hd (Eg rs k) k (by rw [Tq rs k hk];exact hlt)
    rw [Wd rs k hlt] at hat
    have HCK:Hid (∀ u,Calls prog 138 #[.string ⟨(Al rs k).toArray⟩] u fun e w'=>e=.returned (.string ⟨(Al rs k).toArray⟩)∧BW u w'):=fun u=>HCL.o k u hlt
    obtain ⟨s,hf⟩:∃ f,Al rs k=f:=⟨_,rfl⟩;rw [hf] at c1 HS HT HCK;have HO:Hid (wr.ownsRow w.heap.size 9 1 (.slice (some ⟨w.heap.size,0,none⟩) rs.length rs.length) rs.length (Am (Eg rs k))):=ho;have HBR:Hid (BW w wr):=hbr;have HAT:Hid _:=hat;clear ho hf hbr hat;go_wp2_with fail
    refine Calls.mono (HCK.o wr) ?_;rintro e w2 ⟨rfl,p2⟩;have ho2:=Vs HO.o p2
    have c3:w2.cell? ⟨w.heap.size,k,none⟩=some (.string ⟨#[]⟩):=by rw [ho2.cellAt k (by omega)];exact HAT.o
    have c5:w2.frozen? ⟨w.heap.size,k,none⟩=false:=ho2.frozenAt _
    have HR:Hid ((w2.setCell ⟨w.heap.size,k,none⟩ (.string ⟨s.toArray⟩)).ownsRow w.heap.size 9 1 (.slice (some ⟨w.heap.size,0,none⟩) rs.length rs.length) rs.length (Am (Eg rs (k+1)))):=by
     have R:=(ho2.stored k (.string ⟨s.toArray⟩)).1;rw [HT.o,HS.o] at R;exact R
    have HB2:Hid (BW w w2):=next HBR.o p2;clear ho2 p2 c1;go_wp2
    go_roundw
    case rel=>exact ⟨k+1,by omega,by go_num,HR.o,HB2.o.setCell nL _⟩
    case measure=>simp [intOf];omega
   ·have:k=rs.length:=by omega
    subst this;rw [S5] at ho;go_wp2;go_ret;exact ⟨rfl,ho,hbr⟩
end Kb
def Bl (P:Cs→Bool) (cs:List Cs) (k:Nat):List Int:=((List.range k).filter fun i=>P (A8 cs i)).map fun i:Nat=>(i:Int)
theorem Ms {P:Cs→Bool} {cs:List Cs} {k:Nat} (h:P (A8 cs k)=true):Bl P cs (k+1)=Bl P cs k++[(k:Int)]:=by
 simp [Bl,List.range_succ,List.filter_append,h]
theorem Ko {P:Cs→Bool} {cs:List Cs} {k:Nat} (h:P (A8 cs k)=false):Bl P cs (k+1)=Bl P cs k:=by
 simp [Bl,List.range_succ,List.filter_append,h]
theorem Iz (P:Cs→Bool) (cs:List Cs) (k:Nat):(Bl P cs k).length≤k:=by
 refine Nat.le_trans (by rw [Bl,List.length_map];exact List.length_filter_le _ _) ?_
 simp
def Jp (c:Cs):Bool:=!(c.st == 7)
def Ds (t:Int) (c:Cs):Bool:=Jp c && Bv t c.due
theorem aW {c:Cs} (h:(c.st == 7)=true):Jp c=false:=by simp [Jp,h]
theorem Pm {c:Cs} (h:(c.st == 7)=false):Jp c=true:=by simp [Jp,h]
theorem dG {t:Int} {c:Cs} (h:(c.st == 7)=true):Ds t c=false:=by simp [Ds,aW h]
theorem S7 {t:Int} {c:Cs} (h:(c.st == 7)=false):Ds t c=Bv t c.due:=by simp [Ds,Pm h]
theorem Tw (x:Int):∀ u ∈ [Value.int .i64 x],u.oneCell'=true:=by
 intro u hu
 rw [List.mem_singleton.1 hu];rfl
theorem dE:(prog.info? 3).map (fun i=>(i.zero,i.size,i.bytes))=some (some (.int .i64 0),1,8):=by kernel_rfl
def qN (w:World) (zs:List Int) (e:Ending) (w':World):Prop :=
 ∃ a k,e=.returned (.slice a zs.length k)∧w'.ownsRow w.heap.size 3 1 (.slice a zs.length k) zs.length (zs.map (Value.int .i64))∧BW w w'
theorem mV (b:Bk) (p:Bp) (w:World) (hx:Aq w b p) (hn:D0 b) :
  Calls prog 35 #[C5 b p] w (qN w (Bl Jp b.cs b.cs.length)):=by
 obtain ⟨i0,hi,hz0,hz1,hz2⟩:=info_parts dE;obtain ⟨W,hW⟩:∃ W,W=(w.alloc (.cells (qcB b p) 31)).alloc (.cells #[] 3):=⟨_,rfl⟩
 have bW:BW w W:=by rw [hW];go_grown
 have HS:Hid (S6 w.heap.size b p W):=by rw [Hid,hW];exact (S6.new w b p _).below (bR.alloc nL _)
 have HO0:Hid (W.ownsRow (w.heap.size+1) 3 1 (.slice (some ⟨w.heap.size+1,0,none⟩) 0 0) 0 (([]:List Int).map (Value.int .i64))):=by
  have h:=World.ownsRow_lit (base:=w.heap.size+1) (e:=3) (size:=1) (w.alloc (.cells (qcB b p) 31)) #[] 0 (by simp) (by unfold maxLen;omega) rfl
  rw [Hid,hW];simpa using h
 have HX:Hid (A0 w p.c b.cs):=hx.cs;have HBW:Hid (BW w W):=bW
 have HWS:Hid (W.heap.size=w.heap.size+2):=by rw [Hid,hW];simp
 have HQ:Hid (∀ u,Below (w.heap.size+1) W u→BW w u):=fun u h=>bW.trans (h.mono (by omega))
 have HK:Hid (∀ u,Below (w.heap.size+1) W u→S6 w.heap.size b p u):=fun u h=>HS.o.under h (by omega)
 have hcn:=hn.2.2.1;clear hx hn bW HS;have HW:Hid _:=hW;clear hW;obtain ⟨td,fo,az,cs,ls,lg⟩:=b;obtain ⟨o,oc,a,ac,c,cc,l,lc,g,gc⟩:=p;unfold C5
 simp only at HW HX hcn ⊢
 go_enter func35,ntmps35
 go_upto_region 2 with fail
 rw [← HW.o];clear HW;go_wp2_with fail
 go_loopw [3,4] (fun s i wr=>∃ (v:Value) (k:Nat),v=s∧k≤cs.length∧i=.int .i64 (k:Int)∧wr.ownsRow (w.heap.size+1) 3 1 v (Bl Jp cs k).length ((Bl Jp cs k).map (Value.int .i64))∧Below (w.heap.size+1) W wr) (fun _ i _=>cs.length - (intOf i).toNat)
 case atStart=>exact ⟨_,0,rfl,Nat.zero_le _,rfl,HO0.o,bR⟩
 case round =>
  obtain ⟨v,k,hvs,hk,rfl,hown,hbr⟩:=hrel;subst hvs;have HBR:Hid (Below (w.heap.size+1) W wr):=hbr;have HO:Hid (wr.ownsRow (w.heap.size+1) 3 1 v (Bl Jp cs k).length ((Bl Jp cs k).map (Value.int .i64))):=hown;obtain ⟨x0,x1,x2,x3,x4,x5⟩:=HK.o _ hbr
  simp only at x0 x1 x2 x3 x4 x5
  by_cases hlt:k<cs.length
  ·have hki:(k:Int)<(cs.length:Int):=by omega
   obtain ⟨cb,off,rfl,hb2,hcb⟩:=(HX.o.below (HQ.o _ hbr)).at hlt;have hle:=Iz Jp cs k;have HIN:Hid _:=@Ms (Jp) cs k;have HOUT:Hid _:=@Ko (Jp) cs k;obtain ⟨⟨iY,aZ,uV,am,st,rJ,cl,bk,fW,cW,sS,dX⟩,hc⟩:∃ f,A8 cs k=f:=⟨_,rfl⟩;rw [hc] at hcb HIN HOUT;obtain ⟨y0,y1,y2,y3,y4,y5,y6,y7,y8,y9,y10,y11⟩:=hcb
   simp only at y0 y1 y2 y3 y4 y5 y6 y7 y8 y9 y10 y11
   clear hc hown hbr hb2
   by_cases h7:st=7
   ·subst h7
    have HP:Hid _:=@aW ⟨iY,aZ,uV,am,7,rJ,cl,bk,fW,cW,sS,dX⟩ rfl
    have HR5:Hid (wr.ownsRow (w.heap.size+1) 3 1 v (Bl (Jp) cs (k+1)).length ((Bl (Jp) cs (k+1)).map (Value.int .i64))):=by
     rw [Hid,HOUT.o HP.o];exact HO.o
    go_wp2
    go_roundw
    case rel=>exact ⟨_,k+1,rfl,by omega,by go_num,HR5.o,HBR.o⟩
    case measure=>simp [intOf];omega
   ·have h7b:(st != 7)=true:=by simpa using h7
    have HP:Hid _:=@Pm ⟨iY,aZ,uV,am,st,rJ,cl,bk,fW,cW,sS,dX⟩ (by simpa using h7)
    have HLT:Hid (∀ j,v.ownBlock=some j→w.heap.size+1≤j):=fun j hj=>(HO.o.lt j hj).1
    have HSZ:Hid (W.heap.size≤wr.heap.size):=HBR.o.size
    go_wp2_with (at_builtin;refine wpList_append_own _ rfl (.tmp 20) (.tmp 22) 22 rfl (w.heap.size+1) 3 i0 (.int .i64 0) 1 8 underlying22 hi hz0 hz1 hz2 rfl (by decide) _ _ _ rfl (HO.o.alloc _) ⟨wr.heap.size,0,none⟩ 1 1 [.int .i64 (k:Int)] rfl rfl (World.news_of_block (heap_alloc_new wr _)) (Tw _) (by unfold maxLen;omega) (by omega) (by simp;have:=HSZ.o;have:=HWS.o;omega) ?_;intro v5 w5 o5 g5 _)
    have hws:=HWS.o;have hsz:=HSZ.o
    have q5:Below (w.heap.size+1) W w5:=(HBR.o.alloc (by omega) _).grown g5 (by simp;omega) HLT.o
    have HR5:Hid (w5.ownsRow (w.heap.size+1) 3 1 v5 (Bl (Jp) cs (k+1)).length ((Bl (Jp) cs (k+1)).map (Value.int .i64))):=by
     rw [Hid,HIN.o HP.o,List.length_append,List.map_append];exact o5
    clear o5 g5 HO x0 x1 x2 x3 x4 x5 y0 y1 y2 y3 y4 y5 y6 y7 y8 y9 y10 y11 hws hsz;go_wp2
    go_roundw
    case rel=>exact ⟨_,k+1,rfl,by omega,by go_num,HR5.o,q5⟩
    case measure=>simp [intOf];omega
  ·have hke:k=cs.length:=by omega
   subst hke
   have hki:¬ (cs.length:Int)<(cs.length:Int):=by omega
   obtain ⟨va,vk,hva⟩:=Fz hown;subst hva;clear hbr hown;go_wp2;go_ret
   exact ⟨va,vk,rfl,Bi HO.o (by omega),HQ.o _ HBR.o⟩
theorem T2 (b:Bk) (p:Bp) (w:World) (hx:Aq w b p) (hn:D0 b) :
  Calls prog 38 #[C5 b p] w (qN w (Bl (Ds b.today) b.cs b.cs.length)):=by
 obtain ⟨i0,hi,hz0,hz1,hz2⟩:=info_parts dE;obtain ⟨W,hW⟩:∃ W,W=(w.alloc (.cells (qcB b p) 31)).alloc (.cells #[] 3):=⟨_,rfl⟩
 have bW:BW w W:=by rw [hW];go_grown
 have HS:Hid (S6 w.heap.size b p W):=by rw [Hid,hW];exact (S6.new w b p _).below (bR.alloc nL _)
 have HO0:Hid (W.ownsRow (w.heap.size+1) 3 1 (.slice (some ⟨w.heap.size+1,0,none⟩) 0 0) 0 (([]:List Int).map (Value.int .i64))):=by
  have h:=World.ownsRow_lit (base:=w.heap.size+1) (e:=3) (size:=1) (w.alloc (.cells (qcB b p) 31)) #[] 0 (by simp) (by unfold maxLen;omega) rfl
  rw [Hid,hW];simpa using h
 have HX:Hid (A0 w p.c b.cs):=hx.cs;have HBW:Hid (BW w W):=bW
 have HWS:Hid (W.heap.size=w.heap.size+2):=by rw [Hid,hW];simp
 have HQ:Hid (∀ u,Below (w.heap.size+1) W u→BW w u):=fun u h=>bW.trans (h.mono (by omega))
 have HK:Hid (∀ u,Below (w.heap.size+1) W u→S6 w.heap.size b p u):=fun u h=>HS.o.under h (by omega)
 have hcn:=hn.2.2.1;clear hx hn bW HS;have HW:Hid _:=hW;clear hW;obtain ⟨td,fo,az,cs,ls,lg⟩:=b;obtain ⟨o,oc,a,ac,c,cc,l,lc,g,gc⟩:=p;unfold C5
 simp only at HW HX hcn ⊢
 go_enter func38,ntmps38
 go_upto_region 2 with fail
 rw [← HW.o];clear HW;go_wp2_with fail
 go_loopw [3,4] (fun s i wr=>∃ (v:Value) (k:Nat),v=s∧k≤cs.length∧i=.int .i64 (k:Int)∧wr.ownsRow (w.heap.size+1) 3 1 v (Bl (Ds td) cs k).length ((Bl (Ds td) cs k).map (Value.int .i64))∧Below (w.heap.size+1) W wr) (fun _ i _=>cs.length - (intOf i).toNat)
 case atStart=>exact ⟨_,0,rfl,Nat.zero_le _,rfl,HO0.o,bR⟩
 case round =>
  obtain ⟨v,k,hvs,hk,rfl,hown,hbr⟩:=hrel;subst hvs;have HBR:Hid (Below (w.heap.size+1) W wr):=hbr;have HO:Hid (wr.ownsRow (w.heap.size+1) 3 1 v (Bl (Ds td) cs k).length ((Bl (Ds td) cs k).map (Value.int .i64))):=hown;have HBR0:=HBR;obtain ⟨x0,x1,x2,x3,x4,x5⟩:=HK.o _ hbr
  simp only at x0 x1 x2 x3 x4 x5
  by_cases hlt:k<cs.length
  ·have hki:(k:Int)<(cs.length:Int):=by omega
   obtain ⟨cb,off,rfl,hb2,hcb⟩:=(HX.o.below (HQ.o _ hbr)).at hlt;have hle:=Iz (Ds td) cs k;have HIN:Hid _:=@Ms ((Ds td)) cs k;have HOUT:Hid _:=@Ko ((Ds td)) cs k;obtain ⟨⟨iY,aZ,uV,am,st,rJ,cl,bk,fW,cW,sS,dX⟩,hc⟩:∃ f,A8 cs k=f:=⟨_,rfl⟩;rw [hc] at hcb HIN HOUT;obtain ⟨y0,y1,y2,y3,y4,y5,y6,y7,y8,y9,y10,y11⟩:=hcb
   simp only at y0 y1 y2 y3 y4 y5 y6 y7 y8 y9 y10 y11
   clear hc hown hbr hb2;obtain ⟨B,hB⟩:∃ B,Ds td ⟨iY,aZ,uV,am,st,rJ,cl,bk,fW,cW,sS,dX⟩=B:=⟨_,rfl⟩;have HDB:Hid _:=hB;rw [hB] at HIN HOUT;clear hB;go_upto_region 5 with fail
   go_cut [30] (fun v wc=>v=.bool B∧BW wr wc)
   case first =>
    have hne:=K0 wr;have ox0:=As x0;have ox3:=As x3;have oy4:=As y4;have oy11:=As y11
    by_cases h7:st=7
    ·subst h7
     have HB:Hid (B=false):=by rw [Hid,← HDB.o];exact dG rfl
     refine B6 (by kernel_rfl) (by kernel_rfl) ?_
     repeat (go_big_quiet_step (fail))
     refine wpQuiet_nil ?_;rintro _ ⟨⟨w2,b2⟩,hw2⟩;subst hw2;go_wp2_with fail
     go_meet
     exact ⟨by rw [HB.o],b2⟩
    ·have h7b:(st != 7)=true:=by simpa using h7
     have HB:Hid (B=Bv td dX):=by rw [Hid,← HDB.o];exact S7 (by simpa using h7)
     have HLT:Hid (∀ u,Calls prog 92 #[.int .i64 td,.int .i64 dX] u fun e w'=>e=.returned (.bool B)∧BW u w'):=fun u=>by rw [HB.o];exact (Kp td dX u).mono fun e w' h=>⟨h.1,by rw [h.2];exact bR⟩
     refine B6 (by kernel_rfl) (by kernel_rfl) ?_
     repeat (go_big_quiet_step (exact F8 (HLT.o _)))
     refine wpQuiet_nil ?_;rintro _ ⟨⟨w2,b2⟩,hw2⟩;subst hw2;go_wp2_with fail
     go_meet;exact ⟨rfl,b2⟩
   case rest =>
    obtain ⟨rfl,b8⟩:=hcut;have HO1:Hid (wc.ownsRow (w.heap.size+1) 3 1 v (Bl (Ds td) cs k).length ((Bl (Ds td) cs k).map (Value.int .i64))):=Av HO.o b8
    have HBR1:Hid (Below (w.heap.size+1) W wc):=HBR.o.trans (b8.mono (by have:=HWS.o;have:=HBR.o.size;omega))
    clear b8 HO HBR HBR0 x0 x1 x2 x3 x4 x5 y0 y1 y2 y3 y4 y5 y6 y7 y8 y9 y10 y11 HDB
    cases B
    ·have HR5:Hid (wc.ownsRow (w.heap.size+1) 3 1 v (Bl ((Ds td)) cs (k+1)).length ((Bl ((Ds td)) cs (k+1)).map (Value.int .i64))):=by
       rw [Hid,HOUT.o rfl];exact HO1.o
     go_wp2
     go_roundw
     case rel=>exact ⟨_,k+1,rfl,by omega,by go_num,HR5.o,HBR1.o⟩
     case measure=>simp [intOf];omega
    ·have HLT:Hid (∀ j,v.ownBlock=some j→w.heap.size+1≤j):=fun j hj=>(HO1.o.lt j hj).1
     have HSZ:Hid (W.heap.size≤wc.heap.size):=HBR1.o.size
     go_wp2_with (at_builtin;refine wpList_append_own _ rfl (.tmp 31) (.tmp 33) 22 rfl (w.heap.size+1) 3 i0 (.int .i64 0) 1 8 underlying22 hi hz0 hz1 hz2 rfl (by decide) _ _ _ rfl (HO1.o.alloc _) ⟨wc.heap.size,0,none⟩ 1 1 [.int .i64 (k:Int)] rfl rfl (World.news_of_block (heap_alloc_new wc _)) (Tw _) (by unfold maxLen;omega) (by omega) (by simp;have:=HSZ.o;have:=HWS.o;omega) ?_;intro v5 w5 o5 g5 _)
     have hws:=HWS.o;have hsz:=HSZ.o
     have q5:Below (w.heap.size+1) W w5:=(HBR1.o.alloc (by omega) _).grown g5 (by simp;omega) HLT.o
     have HR5:Hid (w5.ownsRow (w.heap.size+1) 3 1 v5 (Bl ((Ds td)) cs (k+1)).length ((Bl ((Ds td)) cs (k+1)).map (Value.int .i64))):=by
      rw [Hid,HIN.o rfl,List.length_append,List.map_append];exact o5
     clear o5 g5 hws hsz;go_wp2
     go_roundw
     case rel=>exact ⟨_,k+1,rfl,by omega,by go_num,HR5.o,q5⟩
     case measure=>simp [intOf];omega
  ·have hke:k=cs.length:=by omega
   subst hke
   have hki:¬ (cs.length:Int)<(cs.length:Int):=by omega
   obtain ⟨va,vk,hva⟩:=Fz hown;subst hva;clear hbr hown;go_wp2;go_ret
   exact ⟨va,vk,rfl,Bi HO.o (by omega),HQ.o _ HBR.o⟩
theorem Qq (c:Cs) (w:World):Calls prog 88 #[cv c] w fun e w'=>e=.returned (.bool (Jp c))∧BW w w':=by
 obtain ⟨iY,aZ,uV,am,st,rJ,cl,bk,fW,cW,sS,dX⟩:=c;unfold cv
 simp only
 by_cases h:st=7
 ·subst h
  go_enter func88,ntmps88
  go_wp2;go_ret;refine ⟨rfl,?_⟩
  go_grown
 ·have h7:(st != 7)=true:=by simpa using h
  have HP:Hid _:=@Pm ⟨iY,aZ,uV,am,st,rJ,cl,bk,fW,cW,sS,dX⟩ (by simpa using h)
  go_enter func88,ntmps88
  go_wp2;go_ret;refine ⟨Aa HP.o.symm,?_⟩
  go_grown
theorem kI (c:Cs) (g:Nat) (td:Int) (w:World) (hc:w.cell? ⟨g,0,none⟩=some (.int .i64 td)) :
  Calls prog 90 #[cv c,.pointer (some ⟨g,0,none⟩)] w fun e w'=>e=.returned (.bool (Ds td c))∧BW w w':=by
 have hg:g<w.heap.size:=World.block_lt_of_cell? w _ hc;obtain ⟨iY,aZ,uV,am,st,rJ,cl,bk,fW,cW,sS,dX⟩:=c;obtain ⟨U,hU⟩:∃ U,U=w.alloc (.cells #[.int .i64 iY,.int .i64 aZ,.int .i64 uV,.int .i64 am,.int .i64 st,.int .i64 rJ,.int .i64 cl,.int .i64 bk,.int .i64 fW,.bool cW,.int .i64 sS,.int .i64 dX] 61):=⟨_,rfl⟩
 have bU:BW w U:=by rw [hU];exact bR.alloc nL _
 have hcU:CB w.heap.size 0 ⟨iY,aZ,uV,am,st,rJ,cl,bk,fW,cW,sS,dX⟩ U:=by rw [hU];exact ⟨by simp,by simp,by simp,by simp,by simp,by simp,by simp,by simp,by simp,by simp,by simp,by simp⟩
 have HFN:Hid (Calls prog 88 #[.agg #[.int .i64 iY,.int .i64 aZ,.int .i64 uV,.int .i64 am,.int .i64 st,.int .i64 rJ,.int .i64 cl,.int .i64 bk,.int .i64 fW,.bool cW,.int .i64 sS,.int .i64 dX]] U fun e w'=>e=.returned (.bool (Jp ⟨iY,aZ,uV,am,st,rJ,cl,bk,fW,cW,sS,dX⟩))∧BW U w'):=Qq ⟨iY,aZ,uV,am,st,rJ,cl,bk,fW,cW,sS,dX⟩ U
 unfold cv
 simp only
 have HU:Hid _:=hU;have HG:Hid (U.cell? ⟨g,0,none⟩=some (.int .i64 td)):=(bU.cell (p:=⟨g,0,none⟩) hg).trans hc;have HBU:Hid (BW w U):=bU;have HCU:Hid _:=hcU;obtain ⟨z0,z1,z2,z3,z4,z5,z6,z7,z8,z9,z10,z11⟩:=hcU
 simp only [Nat.zero_add] at z0 z1 z2 z3 z4 z5 z6 z7 z8 z9 z10 z11
 clear hU hc bU
 go_enter func90,ntmps90
 go_upto_region 1 with fail
 rw [← HU.o];clear HU;go_wp2_with fail
 refine HFN.o.mono ?_;rintro e w2 ⟨rfl,b2⟩;have HB2:Hid (BW w w2):=next HBU.o b2;have q0:w2.cell? ⟨g,0,none⟩=some (.int .i64 td):=(b2.cell (p:=⟨g,0,none⟩) (World.block_lt_of_cell? U _ HG.o)).trans HG.o;have q1:w2.cell? ⟨w.heap.size,11,none⟩=some (.int .i64 dX):=(b2.cell (p:=⟨w.heap.size,11,none⟩) (World.block_lt_of_cell? U _ z11)).trans z11;clear z0 z1 z2 z3 z4 z5 z6 z7 z8 z9 z10 z11 b2 HFN
 by_cases h:st=7
 ·subst h
  have HP:Hid _:=@dG td ⟨iY,aZ,uV,am,7,rJ,cl,bk,fW,cW,sS,dX⟩ rfl;have HQ:Hid _:=@aW ⟨iY,aZ,uV,am,7,rJ,cl,bk,fW,cW,sS,dX⟩ rfl;rw [HQ.o];go_wp2;go_ret;exact ⟨Aa HP.o.symm,HB2.o⟩
 ·have HP:Hid _:=@S7 td ⟨iY,aZ,uV,am,st,rJ,cl,bk,fW,cW,sS,dX⟩ (by simpa using h)
  have HQ:Hid _:=@Pm ⟨iY,aZ,uV,am,st,rJ,cl,bk,fW,cW,sS,dX⟩ (by simpa using h)
  rw [HQ.o]
  go_wp2_with (go_at_call 91;refine (N2 _ _ _).mono ?_;rintro e w' ⟨rfl,rfl⟩)
  go_ret;exact ⟨Aa HP.o.symm,HB2.o⟩
theorem rV (ao:Option Addr) (cap:Nat) (cs:List Cs) (w:World) (hz:A0 w ao cs) (hn:cs.length≤1048576) :
  Calls prog 87 #[.slice ao cs.length cap,.func (.func 88) #[] #[]] w (qN w (Bl Jp cs cs.length)):=by
 obtain ⟨i0,hi,hz0,hz1,hz2⟩:=info_parts dE;have HX:Hid (A0 w ao cs):=hz;clear hz
 go_enter func87,ntmps87
 go_wp2
 go_loopw [5,10] (fun s i wr=>∃ (v:Value) (k:Nat),v=s∧k≤cs.length∧i=.int .i64 (k:Int)∧wr.ownsRow w.heap.size 3 1 v (Bl Jp cs k).length ((Bl Jp cs k).map (Value.int .i64))∧BW w wr) (fun _ i _=>cs.length - (intOf i).toNat)
 case atStart=>exact ⟨_,0,rfl,Nat.zero_le _,rfl,World.ownsRow_nil _ _ _ _,bR⟩
 case round =>
  obtain ⟨v,k,hvs,hk,rfl,hown,hbr⟩:=hrel;subst hvs;have HBR:Hid (BW w wr):=hbr;have HO:Hid (wr.ownsRow w.heap.size 3 1 v (Bl Jp cs k).length ((Bl Jp cs k).map (Value.int .i64))):=hown
  by_cases hlt:k<cs.length
  ·have hki:(k:Int)<(cs.length:Int):=by omega
   obtain ⟨cb,off,rfl,hb2,hcb⟩:=(HX.o.below hbr).at hlt;have hle:=Iz Jp cs k;have HIN:Hid _:=@Ms (Jp) cs k;have HOUT:Hid _:=@Ko (Jp) cs k;obtain ⟨⟨iY,aZ,uV,am,st,rJ,cl,bk,fW,cW,sS,dX⟩,hc⟩:∃ f,A8 cs k=f:=⟨_,rfl⟩;rw [hc] at hcb HIN HOUT;obtain ⟨y0,y1,y2,y3,y4,y5,y6,y7,y8,y9,y10,y11⟩:=hcb
   simp only at y0 y1 y2 y3 y4 y5 y6 y7 y8 y9 y10 y11
   clear hc hown hbr hb2;go_upto_region 5 with fail
   obtain ⟨B,hB⟩:∃ B,Jp ⟨iY,aZ,uV,am,st,rJ,cl,bk,fW,cW,sS,dX⟩=B:=⟨_,rfl⟩;obtain ⟨U,hU⟩:∃ U,U=wr.alloc (.cells #[.int .i64 iY,.int .i64 aZ,.int .i64 uV,.int .i64 am,.int .i64 st,.int .i64 rJ,.int .i64 cl,.int .i64 bk,.int .i64 fW,.bool cW,.int .i64 sS,.int .i64 dX] 61):=⟨_,rfl⟩
   have bU:BW wr U:=by rw [hU];exact bR.alloc nL _
   have hcU:CB wr.heap.size 0 ⟨iY,aZ,uV,am,st,rJ,cl,bk,fW,cW,sS,dX⟩ U:=by rw [hU];exact ⟨by simp,by simp,by simp,by simp,by simp,by simp,by simp,by simp,by simp,by simp,by simp,by simp⟩
   rw [← hU]
   have HFN:Hid (Calls prog 88 #[.agg #[.int .i64 iY,.int .i64 aZ,.int .i64 uV,.int .i64 am,.int .i64 st,.int .i64 rJ,.int .i64 cl,.int .i64 bk,.int .i64 fW,.bool cW,.int .i64 sS,.int .i64 dX]] U fun e w'=>e=.returned (.bool B)∧BW U w'):=by rw [Hid,← hB];exact Qq ⟨iY,aZ,uV,am,st,rJ,cl,bk,fW,cW,sS,dX⟩ U
   have HO1:Hid (U.ownsRow w.heap.size 3 1 v (Bl Jp cs k).length ((Bl Jp cs k).map (Value.int .i64))):=Av HO.o bU;have HB1:Hid (BW w U):=next HBR.o bU;rw [hB] at HIN HOUT;clear hU bU HO HBR y0 y1 y2 y3 y4 y5 y6 y7 y8 y9 y10 y11 hB;obtain ⟨z0,z1,z2,z3,z4,z5,z6,z7,z8,z9,z10,z11⟩:=hcU
   simp only [Nat.zero_add] at z0 z1 z2 z3 z4 z5 z6 z7 z8 z9 z10 z11
   go_wp2_with fail
   refine HFN.o.mono ?_;rintro e w2 ⟨rfl,b2⟩;have HO2:Hid (w2.ownsRow w.heap.size 3 1 v (Bl Jp cs k).length ((Bl Jp cs k).map (Value.int .i64))):=Av HO1.o b2;have HB2:Hid (BW w w2):=next HB1.o b2;have HSZ:Hid (w.heap.size≤w2.heap.size):=HB2.o.size;clear b2 HFN HO1 HB1 z0 z1 z2 z3 z4 z5 z6 z7 z8 z9 z10 z11
   cases B
   ·have HR5:Hid (w2.ownsRow w.heap.size 3 1 v (Bl Jp cs (k+1)).length ((Bl Jp cs (k+1)).map (Value.int .i64))):=by
      rw [Hid,HOUT.o (by first | rfl | trivial)];exact HO2.o
    go_wp2
    go_roundw
    case rel=>exact ⟨_,k+1,rfl,by omega,by go_num,HR5.o,HB2.o⟩
    case measure=>simp [intOf];omega
   ·have HLT:Hid (∀ j,v.ownBlock=some j→w.heap.size≤j):=fun j hj=>(HO2.o.lt j hj).1
    go_wp2_with (at_builtin;refine wpList_append_own _ rfl (.tmp 18) (.tmp 20) 22 rfl w.heap.size 3 i0 (.int .i64 0) 1 8 underlying22 hi hz0 hz1 hz2 rfl (by decide) _ _ _ rfl (HO2.o.alloc _) ⟨w2.heap.size,0,none⟩ 1 1 [.int .i64 (k:Int)] rfl rfl (World.news_of_block (heap_alloc_new w2 _)) (Tw _) (by unfold maxLen;omega) (by omega) (by simp;have:=HSZ.o;omega) ?_;intro v5 w5 o5 g5 _)
    have q5:BW w w5:=(HB2.o.alloc (by have:=HSZ.o;omega) _).grown g5 (by have:=HSZ.o;simp;omega) HLT.o
    have HR5:Hid (w5.ownsRow w.heap.size 3 1 v5 (Bl Jp cs (k+1)).length ((Bl Jp cs (k+1)).map (Value.int .i64))):=by
     rw [Hid,HIN.o (by first | rfl | trivial),List.length_append,List.map_append];exact o5
    clear o5 g5;go_wp2
    go_roundw
    case rel=>exact ⟨_,k+1,rfl,by omega,by go_num,HR5.o,q5⟩
    case measure=>simp [intOf];omega
  ·have hke:k=cs.length:=by omega
   subst hke
   have hki:¬ (cs.length:Int)<(cs.length:Int):=by omega
   obtain ⟨va,vk,hva⟩:=Fz hown;subst hva;clear hbr hown;go_wp2;go_ret;exact ⟨va,vk,rfl,HO.o,HBR.o⟩
theorem mP (ao:Option Addr) (cap:Nat) (cs:List Cs) (g:Nat) (td:Int) (w:World) (hz:A0 w ao cs) (hn:cs.length≤1048576) (hc:w.cell? ⟨g,0,none⟩=some (.int .i64 td)) :
  Calls prog 87 #[.slice ao cs.length cap,.func (.func 90) #[] #[.pointer (some ⟨g,0,none⟩)]] w (qN w (Bl (Ds td) cs cs.length)):=by
 obtain ⟨i0,hi,hz0,hz1,hz2⟩:=info_parts dE;have HX:Hid (A0 w ao cs):=hz
 have HG:Hid (∀ u,BW w u→u.cell? ⟨g,0,none⟩=some (.int .i64 td)):=fun u h=>(h.cell (p:=⟨g,0,none⟩) (World.block_lt_of_cell? w _ hc)).trans hc
 clear hz hc
 go_enter func87,ntmps87
 go_wp2
 go_loopw [5,10] (fun s i wr=>∃ (v:Value) (k:Nat),v=s∧k≤cs.length∧i=.int .i64 (k:Int)∧wr.ownsRow w.heap.size 3 1 v (Bl (Ds td) cs k).length ((Bl (Ds td) cs k).map (Value.int .i64))∧BW w wr) (fun _ i _=>cs.length - (intOf i).toNat)
 case atStart=>exact ⟨_,0,rfl,Nat.zero_le _,rfl,World.ownsRow_nil _ _ _ _,bR⟩
 case round =>
  obtain ⟨v,k,hvs,hk,rfl,hown,hbr⟩:=hrel;subst hvs;have HBR:Hid (BW w wr):=hbr;have HO:Hid (wr.ownsRow w.heap.size 3 1 v (Bl (Ds td) cs k).length ((Bl (Ds td) cs k).map (Value.int .i64))):=hown
  by_cases hlt:k<cs.length
  ·have hki:(k:Int)<(cs.length:Int):=by omega
   obtain ⟨cb,off,rfl,hb2,hcb⟩:=(HX.o.below hbr).at hlt;have hle:=Iz (Ds td) cs k;have HIN:Hid _:=@Ms ((Ds td)) cs k;have HOUT:Hid _:=@Ko ((Ds td)) cs k;obtain ⟨⟨iY,aZ,uV,am,st,rJ,cl,bk,fW,cW,sS,dX⟩,hc⟩:∃ f,A8 cs k=f:=⟨_,rfl⟩;rw [hc] at hcb HIN HOUT;obtain ⟨y0,y1,y2,y3,y4,y5,y6,y7,y8,y9,y10,y11⟩:=hcb
   simp only at y0 y1 y2 y3 y4 y5 y6 y7 y8 y9 y10 y11
   clear hc hown hbr hb2;go_upto_region 5 with fail
   obtain ⟨B,hB⟩:∃ B,(Ds td) ⟨iY,aZ,uV,am,st,rJ,cl,bk,fW,cW,sS,dX⟩=B:=⟨_,rfl⟩;obtain ⟨U,hU⟩:∃ U,U=wr.alloc (.cells #[.int .i64 iY,.int .i64 aZ,.int .i64 uV,.int .i64 am,.int .i64 st,.int .i64 rJ,.int .i64 cl,.int .i64 bk,.int .i64 fW,.bool cW,.int .i64 sS,.int .i64 dX] 61):=⟨_,rfl⟩
   have bU:BW wr U:=by rw [hU];exact bR.alloc nL _
   have hcU:CB wr.heap.size 0 ⟨iY,aZ,uV,am,st,rJ,cl,bk,fW,cW,sS,dX⟩ U:=by rw [hU];exact ⟨by simp,by simp,by simp,by simp,by simp,by simp,by simp,by simp,by simp,by simp,by simp,by simp⟩
   rw [← hU]
   have HFN:Hid (Calls prog 90 #[.agg #[.int .i64 iY,.int .i64 aZ,.int .i64 uV,.int .i64 am,.int .i64 st,.int .i64 rJ,.int .i64 cl,.int .i64 bk,.int .i64 fW,.bool cW,.int .i64 sS,.int .i64 dX],.pointer (some ⟨g,0,none⟩)] U fun e w'=>e=.returned (.bool B)∧BW U w'):=by rw [Hid,← hB];exact kI ⟨iY,aZ,uV,am,st,rJ,cl,bk,fW,cW,sS,dX⟩ g td U (HG.o _ (next HBR.o bU))
   have HO1:Hid (U.ownsRow w.heap.size 3 1 v (Bl (Ds td) cs k).length ((Bl (Ds td) cs k).map (Value.int .i64))):=Av HO.o bU;have HB1:Hid (BW w U):=next HBR.o bU;rw [hB] at HIN HOUT;clear hU bU HO HBR y0 y1 y2 y3 y4 y5 y6 y7 y8 y9 y10 y11 hB;obtain ⟨z0,z1,z2,z3,z4,z5,z6,z7,z8,z9,z10,z11⟩:=hcU
   simp only [Nat.zero_add] at z0 z1 z2 z3 z4 z5 z6 z7 z8 z9 z10 z11
   go_wp2_with fail
   refine HFN.o.mono ?_;rintro e w2 ⟨rfl,b2⟩;have HO2:Hid (w2.ownsRow w.heap.size 3 1 v (Bl (Ds td) cs k).length ((Bl (Ds td) cs k).map (Value.int .i64))):=Av HO1.o b2;have HB2:Hid (BW w w2):=next HB1.o b2;have HSZ:Hid (w.heap.size≤w2.heap.size):=HB2.o.size;clear b2 HFN HO1 HB1 z0 z1 z2 z3 z4 z5 z6 z7 z8 z9 z10 z11
   cases B
   ·have HR5:Hid (w2.ownsRow w.heap.size 3 1 v (Bl (Ds td) cs (k+1)).length ((Bl (Ds td) cs (k+1)).map (Value.int .i64))):=by
      rw [Hid,HOUT.o (by first | rfl | trivial)];exact HO2.o
    go_wp2
    go_roundw
    case rel=>exact ⟨_,k+1,rfl,by omega,by go_num,HR5.o,HB2.o⟩
    case measure=>simp [intOf];omega
   ·have HLT:Hid (∀ j,v.ownBlock=some j→w.heap.size≤j):=fun j hj=>(HO2.o.lt j hj).1
    go_wp2_with (at_builtin;refine wpList_append_own _ rfl (.tmp 18) (.tmp 20) 22 rfl w.heap.size 3 i0 (.int .i64 0) 1 8 underlying22 hi hz0 hz1 hz2 rfl (by decide) _ _ _ rfl (HO2.o.alloc _) ⟨w2.heap.size,0,none⟩ 1 1 [.int .i64 (k:Int)] rfl rfl (World.news_of_block (heap_alloc_new w2 _)) (Tw _) (by unfold maxLen;omega) (by omega) (by simp;have:=HSZ.o;omega) ?_;intro v5 w5 o5 g5 _)
    have q5:BW w w5:=(HB2.o.alloc (by have:=HSZ.o;omega) _).grown g5 (by have:=HSZ.o;simp;omega) HLT.o
    have HR5:Hid (w5.ownsRow w.heap.size 3 1 v5 (Bl (Ds td) cs (k+1)).length ((Bl (Ds td) cs (k+1)).map (Value.int .i64))):=by
     rw [Hid,HIN.o (by first | rfl | trivial),List.length_append,List.map_append];exact o5
    clear o5 g5;go_wp2
    go_roundw
    case rel=>exact ⟨_,k+1,rfl,by omega,by go_num,HR5.o,q5⟩
    case measure=>simp [intOf];omega
  ·have hke:k=cs.length:=by omega
   subst hke
   have hki:¬ (cs.length:Int)<(cs.length:Int):=by omega
   obtain ⟨va,vk,hva⟩:=Fz hown;subst hva;clear hbr hown;go_wp2;go_ret;exact ⟨va,vk,rfl,HO.o,HBR.o⟩
theorem Uw (b:Bk) (p:Bp) (w:World) (hx:Aq w b p) (hn:D0 b) :
  Calls prog 37 #[C5 b p] w (qN w (Bl (Ds b.today) b.cs b.cs.length)):=by
 obtain ⟨W,hW⟩:∃ W,W=w.alloc (.cells (qcB b p) 31):=⟨_,rfl⟩
 have bW:BW w W:=by rw [hW];exact bR.alloc nL _
 have HS:Hid (S6 w.heap.size b p W):=by rw [Hid,hW];exact S6.new w b p _
 have HX:Hid (A0 W p.c b.cs):=(hx.below bW).cs;have HBW:Hid (BW w W):=bW;have HWS:Hid (w.heap.size≤W.heap.size):=bW.size;have hcn:=hn.2.2.1;clear hx hn bW;have HW:Hid _:=hW;clear hW;obtain ⟨td,fo,az,cs,ls,lg⟩:=b;obtain ⟨o,oc,a,ac,c,cc,l,lc,g,gc⟩:=p;unfold C5
 simp only at HW HX hcn ⊢
 obtain ⟨x0,x1,x2,x3,x4,x5⟩:=HS.o
 simp only at x0 x1 x2 x3 x4 x5
 go_enter func37,ntmps37
 go_upto_region 1 with fail
 rw [← HW.o];clear HW;go_wp2_with fail
 refine (mP _ _ cs w.heap.size td _ HX.o hcn x0).mono ?_;rintro e w2 ⟨va,vk,rfl,o2,b2⟩;have HO:Hid _:=Bi o2 HWS.o;have HB2:Hid (BW w w2):=next HBW.o b2;clear x0 x1 x2 x3 x4 x5 o2 b2;go_wp2;go_ret;exact ⟨va,vk,rfl,HO.o,HB2.o⟩
end Go.Proofs.YtomiclakhjncbaaGreatDoor
namespace Go.Proofs.YtomiclakhjncbaaGreatDoor
open Go.ChangeShapes Go.WideShapes Go.ChangeAt Go.RowKit Go.Deep Go.Proofs.Tryz
section
variable {P:Program} {H:Type} {enc:TypeId×Value→H} {W:World}
end
end Go.Proofs.YtomiclakhjncbaaGreatDoor
namespace Go.Proofs.YtomiclakhjncbaaGreatDoor
open Go.RowKit Go.Proofs.Tryz
theorem uK (ao bo:Option Addr) (c1 c2:Nat) (cs:List Cs) (w:World) (hx:A0 w ao cs) (hy:A0 w bo cs) (h1:cs.length≤1099511627776) :
  Calls prog 85 #[.slice ao cs.length c1,.slice bo cs.length c2] w fun e w'=>e=.returned (.bool true)∧BW w w':=by
 have HX:Hid (A0 w ao cs):=hx;have HY:Hid (A0 w bo cs):=hy;clear hx hy
 have nn:((cs.length:Int) != (cs.length:Int))=false:=by simp
 go_enter func85,ntmps85
 go_wp2
 go_loopw [5] (fun i wr=>∃ k:Nat,k≤cs.length∧i=.int .i64 k∧BW w wr) (fun i _=>cs.length - (intOf i).toNat)
 case atStart=>exact ⟨0,Nat.zero_le _,rfl,bR⟩
 case round =>
  obtain ⟨k,hk,rfl,hbr⟩:=hrel;have HBR:Hid (BW w wr):=hbr;clear hbr
  by_cases hlt:k<cs.length
  ·have hki:(k:Int)<(cs.length:Int):=by omega
   obtain ⟨b,off,ha,hb,cx⟩:=A0.at (A0.below HX.o HBR.o) hlt;obtain ⟨d,off2,hb2,hd,cy⟩:=A0.at (A0.below HY.o HBR.o) hlt;subst ha;subst hb2;obtain ⟨⟨iY,aZ,uV,am,st,rJ,cl,bk,fW,cW,sS,dX⟩,hf⟩:∃ f,A8 cs k=f:=⟨_,rfl⟩;rw [hf] at cx cy;clear hf hb hd;obtain ⟨x0,x1,x2,x3,x4,x5,x6,x7,x8,x9,x10,x11⟩:=cx;obtain ⟨y0,y1,y2,y3,y4,y5,y6,y7,y8,y9,y10,y11⟩:=cy
   simp only at x0 y0 x1 y1 x2 y2 x3 y3 x4 y4 x5 y5 x6 y6 x7 y7 x8 y8 x9 y9 x10 y10 x11 y11
   go_upto_region 6 with fail
   go_quiet (fail)
   clear x0 y0 x1 y1 x2 y2 x3 y3 x4 y4 x5 y5 x6 y6 x7 y7 x8 y8 x9 y9 x10 y10 x11 y11;go_wp2
   go_roundw
   case rel=>exact ⟨k+1,by omega,by go_num,below_drewN HBR.o _⟩
   case measure=>simp [intOf];omega
  ·go_wp2
   go_ret;exact ⟨rfl,HBR.o⟩
theorem vT (ao bo:Option Addr) (c1 c2:Nat) (ls:List Ln) (w:World) (hx:Ai w ao ls) (hy:Ai w bo ls) (h1:ls.length≤1099511627776) :
  Calls prog 86 #[.agg #[.slice ao ls.length c1],.agg #[.slice bo ls.length c2]] w fun e w'=>e=.returned (.bool true)∧BW w w':=by
 obtain ⟨W,hW⟩:∃ W,W=(w.alloc (.cells #[.slice ao ls.length c1] 29)).alloc (.cells #[.slice bo ls.length c2] 29):=⟨_,rfl⟩
 have bW:BW w W:=by rw [hW];go_grown
 have hWs:W.heap.size=w.heap.size+2:=by rw [hW];simp
 have k0:W.cell? ⟨w.heap.size,0,none⟩=some (.slice ao ls.length c1):=by rw [hW];simp [go_sem]
 have k1:W.cell? ⟨w.heap.size+1,0,none⟩=some (.slice bo ls.length c2):=by rw [hW];simp [go_sem]
 have HX:Hid (Ai W ao ls):=hx.below bW;have HY:Hid (Ai W bo ls):=hy.below bW;have HBW:Hid (BW w W):=bW;have HK0:Hid (W.cell? ⟨w.heap.size,0,none⟩=some (.slice ao ls.length c1)):=k0;have HK1:Hid (W.cell? ⟨w.heap.size+1,0,none⟩=some (.slice bo ls.length c2)):=k1;have HWS:Hid _:=hWs;clear hx hy bW hWs
 go_enter func86,ntmps86
 go_wp2;rw [← hW];clear hW k0 k1
 go_loopw [5] (fun i wr=>∃ k:Nat,k≤ls.length∧i=.int .i64 k∧BW W wr) (fun i _=>ls.length - (intOf i).toNat)
 case atStart=>exact ⟨0,Nat.zero_le _,rfl,bR⟩
 case round =>
  obtain ⟨k,hk,rfl,hbr⟩:=hrel
  have k0:=(hbr.cell (p:=⟨w.heap.size,0,none⟩) (by have:=HWS.o;show w.heap.size<W.heap.size;omega)).trans HK0.o
  have k1:=(hbr.cell (p:=⟨w.heap.size+1,0,none⟩) (by have:=HWS.o;show w.heap.size+1<W.heap.size;omega)).trans HK1.o
  by_cases hlt:k<ls.length
  ·obtain ⟨b,off,rfl,hb,e1,e2,e3⟩:=(HX.o.below hbr).at hlt
   obtain ⟨b',off',rfl,hb',e4,e5,e6⟩:=(HY.o.below hbr).at hlt
   have hki:(k:Int)<(ls.length:Int):=by omega
   obtain ⟨⟨x,y,z⟩,hxk⟩:∃ x,Cg ls k=x:=⟨_,rfl⟩;rw [hxk] at e1 e2 e3 e4 e5 e6
   simp only at e1 e2 e3 e4 e5 e6
   clear hxk;go_wp2
   go_quiet (fail)
   go_wp2
   go_roundw
   case rel=>exact ⟨k+1,by omega,by go_num,below_drewN hbr _⟩
   case measure=>simp [intOf];omega
  ·go_wp2
   go_ret;exact ⟨rfl,next HBW.o hbr⟩
def ZS (X:Nat) (b:Bk) (p:Bp) (u:World):Prop:=ZQ X b p u
theorem mU (b:Bk) (p q:Bp) (w:World) (hx:Aq w b p) (hy:Aq w b q) (hn:D0 b) :
  Calls prog 32 #[C5 b p,C5 b q] w fun e w'=>e=.returned (.bool true)∧BW w w':=by
 obtain ⟨W1,hW1⟩:∃ W,W=w.alloc (.cells (qcB b p) 31):=⟨_,rfl⟩;obtain ⟨W,hW⟩:∃ W,W=W1.alloc (.cells (qcB b q) 31):=⟨_,rfl⟩
 have b1:BW w W1:=by rw [hW1];exact bR.alloc nL _
 have b2:BW W1 W:=by rw [hW];exact bR.alloc nL _
 have HBW:Hid (BW w W):=next b1 b2
 have zX:ZS w.heap.size b p W1:=by rw [hW1];exact Z6.new w _ _ _ _ _ _ _
 have HZX:Hid (ZS w.heap.size b p W):=Z6.below zX b2;obtain ⟨X,hX⟩:∃ x,w.heap.size=x:=⟨_,rfl⟩;obtain ⟨R,hR⟩:∃ x,w.heap.size+1=x:=⟨_,rfl⟩
 have hRs:W1.heap.size=R:=by rw [hW1,← hR];simp
 have HZY:Hid (ZS R b q W):=by rw [Hid,hW,← hRs];exact Z6.new W1 _ _ _ _ _ _ _
 have HBP:Hid (Aq W b p):=hx.below HBW.o;have HBQ:Hid (Aq W b q):=hy.below HBW.o;have HN:Hid (D0 b):=hn;have HW1:Hid _:=hW1;have HW:Hid _:=hW;have HX:Hid _:=hX;have HR:Hid _:=hR
 have nn:((b.az.length:Int) != (b.az.length:Int))=false:=by simp
 have HAL:Hid (b.az.length≤1048576):=hn.2.1;rw [hX] at HZX;unfold C5;clear hRs hW1 hW b1 b2 zX hX hR hx hy hn
 go_enter func32,ntmps32
 go_upto_region 1 with fail
 rw [← HW1.o,← HW.o,HR.o,HX.o];clear HW1 HW HX HR;obtain ⟨n,hnn⟩:∃ n,b.az.length=n:=⟨_,rfl⟩;have HNN:Hid (b.az.length=n):=hnn
 have hn1:n≤1048576:=by rw [← hnn];exact HAL.o
 have x2:=HZX.o.c2;have y2:=HZY.o.c2;rw [hnn] at nn x2 y2;clear hnn;go_wp2;clear x2 y2
 go_loopw [5] (fun i wr=>∃ k:Nat,k≤n∧i=.int .i64 k∧BW W wr) (fun i _=>n - (intOf i).toNat)
 case atStart=>exact ⟨0,Nat.zero_le _,rfl,bR⟩
 case round =>
  obtain ⟨k,hk,rfl,hbr⟩:=hrel;have HBR:Hid (BW W wr):=hbr;have zx:=(Z6.below HZX.o hbr).c2;have zy:=(Z6.below HZY.o hbr).c2;rw [HNN.o] at zx zy
  by_cases hlt:k<n
  ·have hki:(k:Int)<(n:Int):=by omega
   have hlt2:k<b.az.length:=by rw [HNN.o];exact hlt
   rcases HBP.o.az.below hbr with hE | ⟨ab,off,hpa,hal,hac⟩
   ·rw [hE] at hlt2;simp at hlt2
   rcases HBQ.o.az.below hbr with hE | ⟨ab2,off2,hpa2,hal2,hac2⟩
   ·rw [hE] at hlt2;simp at hlt2
   obtain ⟨f0,f1,f2,f3,f4,f5⟩:=hac k hlt2;obtain ⟨g0,g1,g2,g3,g4,g5⟩:=hac2 k hlt2;obtain ⟨⟨ref,iY,uV,am,day,used⟩,hA⟩:∃ A,Ak b.az k=A:=⟨_,rfl⟩;rw [hA] at f0 f1 f2 f3 f4 f5 g0 g1 g2 g3 g4 g5
   simp only at f0 f1 f2 f3 f4 f5 g0 g1 g2 g3 g4 g5
   rw [hpa] at zx;rw [hpa2] at zy
   have hss:(ref == ref)=true:=by simp
   clear hac hac2 hA hpa hpa2 hal hal2 hbr hlt2;go_upto_region 6 with fail
   go_quiet (fail)
   clear f0 f1 f2 f3 f4 f5 g0 g1 g2 g3 g4 g5;go_wp2
   go_roundw
   case rel=>exact ⟨k+1,by omega,by go_num,below_drewN HBR.o _⟩
   case measure=>simp [intOf];omega
  ·have hki:¬ (k:Int)<(n:Int):=by omega
   have HP:Hid (Aq wr b p):=HBP.o.below hbr;have HQ:Hid (Aq wr b q):=HBQ.o.below hbr;have HZ1:Hid (ZS X b p wr):=Z6.below HZX.o hbr;have HZ2:Hid (ZS R b q wr):=Z6.below HZY.o hbr;have HB:Hid (BW w wr):=next HBW.o hbr
   have htt:(b.today == b.today)=true:=by simp
   obtain ⟨V,hV⟩:∃ V,V=wr:=⟨_,rfl⟩;subst hV;have x0:=HZ1.o.c0;have x1:=HZ1.o.c1;have y0:=HZ2.o.c0;have y1:=HZ2.o.c1;clear hbr;go_wp2_with fail
   refine (tW p.o q.o p.oc q.oc b.off b.off V HP.o.off HQ.o.off (by have:=HN.o.1;omega) (by have:=HN.o.1;omega)).mono ?_
   rintro e v1 ⟨rfl,k1⟩;rw [decide_eq_true (rfl:b.off=b.off)];have HK1:Hid (BW V v1):=k1;have x3:=(Z6.below HZ1.o k1).c3;have y3:=(Z6.below HZ2.o k1).c3;clear x0 y0 x1 y1 zx zy k1;go_wp2_with fail
   refine (uK p.c q.c p.cc q.cc b.cs v1 (HP.o.cs.below HK1.o) (HQ.o.cs.below HK1.o) (by have:=HN.o.2.2.1;omega)).mono ?_
   rintro e v2 ⟨rfl,k2⟩;have HK2:Hid (BW V v2):=next HK1.o k2;have x4:=(Z6.below HZ1.o HK2.o).c4;have y4:=(Z6.below HZ2.o HK2.o).c4;clear x3 y3 k2;go_wp2_with fail
   refine (vT p.l q.l p.lc q.lc b.ls v2 (HP.o.ls.below HK2.o) (HQ.o.ls.below HK2.o) (by have:=HN.o.2.2.2.1;omega)).mono ?_
   rintro e v3 ⟨rfl,k3⟩;have HK3:Hid (BW V v3):=next HK2.o k3;have x5:=(Z6.below HZ1.o HK3.o).c5;have y5:=(Z6.below HZ2.o HK3.o).c5;clear x4 y4 k3;go_wp2_with fail
   refine (uN p.g q.g p.gc q.gc b.log b.log v3 (HP.o.log.below HK3.o) (HQ.o.log.below HK3.o) (by have:=HN.o.2.2.2.2;omega) (by have:=HN.o.2.2.2.2;omega)).mono ?_
   rintro e v4 ⟨rfl,k4⟩;rw [decide_eq_true (rfl:b.log=b.log)];have HK4:Hid (BW w v4):=next (next HB.o HK3.o) k4;clear x5 y5 k4;go_wp2;go_ret;exact ⟨rfl,HK4.o⟩
end Go.Proofs.YtomiclakhjncbaaGreatDoor
