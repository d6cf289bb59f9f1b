import Derived.Test.YtfpafnefpmmofaaGreatDoorKWICaseDo
import Derived.Test.YtfpafnefpmmofaaGreatDoorKWKbOpen
import Derived.Test.YtfpafnefpmmofaaGreatDoorJW2c
import Derived.Test.YtfpafnefpmmofaaGreatDoorKWSwT
set_option maxRecDepth 100000
set_option maxHeartbeats 12800000
namespace Go.Proofs.YtfpafnefpmmofaaGreatDoor
namespace Kb
open Go.RowKit Go.Proofs.Tryz
theorem Zq {w w':ql} {n:String} {g G:Nat} {cs:Array Value} (h:w.var? prog n=some cs) (hg:prog.globalNamed n=some g) (hG:g<G) (hb:Below G w w'):w'.var? prog n=some cs:=by
 unfold World.var? at *
 simp only [hg,Option.bind_some] at h ⊢
 rw [hb.block g hG];exact h
structure E0 (w:ql):Prop where
 size:17<=w.heap.size
 step:Fn w
 pow : Lib.TabIs prog w "internal/strconv.uint64pow10" .u64 Lib.pow10Tab
 max:∃ m,w.cell? (qzA 10 0)=some (qzI m)
 eFull:∃ t a,w.cell? (qzA 0 0)=some (.iface t (.pointer (some a)))
 eLine:∃ t a,w.cell? (qzA 1 0)=some (.iface t (.pointer (some a)))
 eDay:∃ t a,w.cell? (qzA 4 0)=some (.iface t (.pointer (some a)))
 eAuth:∃ t a,w.cell? (qzA 5 0)=some (.iface t (.pointer (some a)))
 eCases:∃ t a,w.cell? (qzA 6 0)=some (.iface t (.pointer (some a)))
 eCase:∃ t a,w.cell? (qzA 7 0)=some (.iface t (.pointer (some a)))
 eMoney:∃ t a,w.cell? (qzA 8 0)=some (.iface t (.pointer (some a)))
 eAct:∃ t a,w.cell? (qzA 9 0)=some (.iface t (.pointer (some a)))
 words:∀ k,k<10->w.cell? (qzA 3 k)=some (qd (Ao G7 k))
theorem gR (w:ql) (q:Nat) (os:Array Obj):Below w.heap.size w (Go.Sort.grow (w.drewN q) os) :=
 ⟨rfl,rfl,rfl,by simp [Go.Sort.grow,World.drewN],λk hk=>by simp [Go.Sort.grow,World.drewN,Array.getElem?_append,hk]⟩
theorem Kw (w w':ql) (h:E0 w) (hb:Below 17 w w'):E0 w':=by
 have k:∀ (g i:Nat) (v:Value),g<17->w.cell? (qzA g i)=some v->w'.cell? (qzA g i)=some v:=λg i v hg f=>(hb.c g i hg).t f
 obtain ⟨m,hm⟩:=h.max;obtain ⟨X,T,z⟩:=h.eFull;obtain ⟨Y,U,A⟩:=h.eLine;obtain ⟨a6,a3,J⟩:=h.eDay;obtain ⟨V,R,u⟩:=h.eAuth;obtain ⟨N,L,p⟩:=h.eCases;obtain ⟨W,S,y⟩:=h.eCase;obtain ⟨O,M,r⟩:=h.eMoney;obtain ⟨a5,Z,I⟩:=h.eAct
 exact ⟨jk h.size hb.size,Zq h.step (g:=14) (by kernel_rfl) (by decide) hb,Zq h.pow (g:=13) (by kernel_rfl) (by decide) hb,⟨m,k _ _ _ (by decide) hm⟩,⟨_,_,k _ _ _ (by decide) z⟩,⟨_,_,k _ _ _ (by decide) A⟩,⟨_,_,k _ _ _ (by decide) J⟩,⟨_,_,k _ _ _ (by decide) u⟩,⟨_,_,k _ _ _ (by decide) p⟩,⟨_,_,k _ _ _ (by decide) y⟩,⟨_,_,k _ _ _ (by decide) r⟩,⟨_,_,k _ _ _ (by decide) I⟩,λi hi=>k _ _ _ (by decide) (h.words i hi)⟩
theorem Mg {x:Int} (h:eE x):Bs x:=WalkArith.wf_i64 (by obtain ⟨j,o⟩:=h;omega)
theorem rY {x:Int} (h:Bs x):-9223372036854775808<=x/\x<=9223372036854775807:=by
 simp [Bs,Lit.wf,IntKind.min,IntKind.max,IntKind.signed,IntKind.bits] at h;omega
theorem Ab8 {B D s am day:Int} (j:eE B) (o:eE D) (C:eE s) (h4:eE am):∀ x ∈ Hf B D s am day,Xz x:=by
 intro x b;unfold Hf at b
 split at b
 ·simp at b;subst b;exact ⟨Mg j,Mg o,Mg C,Mg h4⟩
 ·cases b
theorem iC {c:Cs} {n:Int} (f:Zg c) (hn:Bs n):(∀ x ∈ Ck c n,Xz x)/\(∀ x ∈ Ez c n,Xz x):=by
 obtain ⟨j,o,C,-⟩:=f
 refine ⟨λx b=>?_,λx b=>?_⟩
 ·unfold Ck at b
  split at b
  ·cases b
  ·simp at b;subst b;exact ⟨o,j,C,hn⟩
 ·unfold Ez at b
  split at b
  ·cases b
  ·simp at b;subst b;exact ⟨j,o,C,hn⟩
theorem rD {c:Cs} {n:Int} (f:Zg c) (hn:Bs n):∀ x ∈ Fc c n,Xz x:=by
 intro x b;unfold Fc at b
 rcases List.mem_append.1 b with b|b
 ·exact (iC f hn).1 x b
 ·simp at b;subst b
  obtain ⟨j,o,C,-⟩:=f
  refine ⟨?_,(show Bs 9999 from Dd (by omega)),C,(show Bs 50000 from Dd (by omega))⟩
  show Bs (Tu c n)
  unfold Tu
  split
  ·exact o
  ·exact j
theorem Ais {c:Cs} {a:Ac} {t:Int} {zs:List Int} (f:Zg c) (F:eE a.am):∀ x ∈ doE c a t zs,Xz x:=by
 intro x b;have H:Bs c.cl:=f.2.2.2.2.2.2.1
 have a4:Bs (c.cl / 2):=WalkArith.wf_i64 (by have:=rY H;omega)
 unfold doE at b
 split at b
 ·unfold Cc at b
  split at b
  ·exact (iC f (Mg F)).1 x b
  split at b
  ·exact (iC f (Mg F)).2 x b
  split at b
  ·exact (iC f H).1 x b
  split at b
  ·exact rD f (Mg F) x b
  split at b
  ·unfold C6 at b
   split at b
   ·cases b
   split at b
   ·exact (iC f H).1 x b
   split at b
   ·exact rD f a4 x b
   ·cases b
  ·cases b
 ·cases b
theorem zN {az:List Au} {i c a d x:Int} (h:Mp az i c a d x):-1<=x:=by
 rcases h with ⟨-,h⟩|⟨-,rfl⟩
 ·rcases h with ⟨rfl,-⟩|⟨k,-,rfl,-⟩ <;> omega
 ·omega
theorem kn0:qJ F0 E0 17 where
 keep:=Kw
 size:=λw h=>h.size
 num:=λl w h=>(Tg.iNumOf_any l w (by omega)).m (λe w' ⟨j,o⟩=>⟨j,by rw [o];exact bR⟩)
 dec:=λm w h hE=>(strconv_Itoa m (by omega) (by omega) w hE.pow).m (λe w' hw=>by
  obtain ⟨rfl,k,os,rfl⟩:=hw
  exact ⟨by rw [Lib.itoa,if_neg (by omega)];rfl,gR w k os⟩)
 clone:=λl w h=>Lq l w (by omega)
 split:=λl w h hE=>by obtain ⟨m,hm⟩:=hE.max;exact Ag2 l m w h hm
 eFull:=λw h=>h.eFull
 eLine:=λw h=>h.eLine
 eDay:=λw h=>h.eDay
 eAuth:=λw h=>h.eAuth
 eCases:=λw h=>h.eCases
 eCase:=λw h=>h.eCase
 eMoney:=λw h=>h.eMoney
 eAct:=λw h=>h.eAct
 words:=λw h=>h.words
 use:=λao cap az i w h hn hd=>Ac9 ao cap az i w h (by omega) (λa F=>by have:=hd a F;omega)
 add:=λao cap az a w h hn hd hl f=>kW ao cap az a w h hn (λx b=>by have:=hd x b;omega) (by omega) (Mg f)
 best:=λao cap az B s am day w h hn hd f w3 w4=>xE ao cap az B s am day w h hn (λa F=>by have:=hd a F;omega) f w3 w4
 start:=λB D s am day w h=>lE B D s am day w (Mg h)
 small:=λB D s am day=>⟨by have:=V4 B D s am day;show (Hf B D s am day).length<=1048576;omega,λj o C h4=>Ab8 j o C h4⟩
 act:=λc a t ao cp zs w h hn hE f=>Go.Proofs.YtfpafnefpmmofaaGreatDoor.iDo_any c a t ao cp zs w h (by omega) hE.step (by have:=hE.size;omega) f.2.2.1
 few:=λc a t zs=>⟨by have:=rV c a t zs;show (doE c a t zs).length<=1048576;omega,λj o=>Ais j o⟩
 low:=λaz i c a d x h=>zN h
 stay:=λls es h=>by
  show Ke ls es=ls
  have h':(Dk ls es).isSome=false:=h;unfold Ke
  cases hp:Dk ls es with
  | none=>rfl
  | some g=>rw [hp] at h';cases h'
 code:=λc a t zs=>by have:=Ac4 c a t zs;show 0<=doV c a t zs/\doV c a t zs<=1000;omega
 post:=λao cap ls eo ec es w h hn hb hy hm he=>dC ao cap ls eo ec es w h hn hb hy hm he
structure Ma (B:Nat) (b:Bk) (q:Bp) (u:ql):Prop where
 off:u.ownsRow B 3 1 (qf q.o b.off.length q.oc) b.off.length (b.off.map (Value.int .i64))
 az:u.ownsRow B 108 6 (qf q.a b.az.length q.ac) b.az.length (Ap b.az)
 cs:u.ownsRow B 111 12 (qf q.c b.cs.length q.cc) b.cs.length (Am b.cs)
 ls:u.ownsRow B 151 3 (qf q.l b.ls.length q.lc) b.ls.length (Ak b.ls)
 log:u.ownsRow B 9 1 (qf q.g b.log.length q.gc) b.log.length (At b.log)
theorem Ma.below {B:Nat} {b:Bk} {q:Bp} {u m:ql} (h:Ma B b q u) (hb:BW u m):Ma B b q m:=⟨A5 h.off hb,A5 h.az hb,A5 h.cs hb,A5 h.ls hb,A5 h.log hb⟩
theorem Ma.low {B B':Nat} {b:Bk} {q:Bp} {u:ql} (h:Ma B b q u) (hb:B'<=B):Ma B' b q u:=⟨Fj h.off hb,Fj h.az hb,Fj h.cs hb,Fj h.ls hb,Fj h.log hb⟩
theorem KS.own5 {B K:Nat} {st:Int} {b:Bk} {q:Bp} {u:ql} (h:KS B K st b q u):Ma B b q u:=⟨h.off,h.az,h.cs,h.ls,h.log⟩
theorem eZ (b:Bk) (l:qn) {r:Bk×Int} (h:Ip F0 b l r):∃ r',Ia Hw b l r':=by
 unfold Ip at h
 split at h
 ·exact ⟨(b,2),.inl ⟨‹_›,rfl⟩⟩
 ·rename_i n
  obtain ⟨r0,i,-⟩:=h
  have hs:∃ s,Hw b l s:=by
   unfold Hw Em
   split
   ·exact ⟨_,rfl⟩
   split
   ·split
    ·exact ⟨_,rfl⟩
    ·exact ⟨_,rfl⟩
   split
   ·rename_i hp
    split
    ·rename_i hn
     unfold Hq at i
     simp only [Ed,jf,decide_eq_true_eq] at hp
     have e0:=hp.1
     rw [if_neg (by rw [e0];decide),if_neg (by rw [e0];decide),if_pos e0] at i
     unfold Km at i
     rw [if_pos ⟨hn,by rw [List.length_drop];omega⟩] at i
     obtain ⟨x,k,-⟩:=i;obtain ⟨a,c,d,e,f,j⟩:=Sg hp.2;rw [j] at k ⊢;exact ⟨_,x,k,rfl⟩
    ·exact ⟨_,rfl⟩
   split
   ·split
    ·exact ⟨_,rfl⟩
    ·exact ⟨_,rfl⟩
   ·exact ⟨_,rfl⟩
  obtain ⟨s,hs⟩:=hs
  by_cases hc:s.2=0
  ·exact ⟨_,.inr ⟨by omega,s,hs,.inr ⟨hc,rfl⟩⟩⟩
  ·exact ⟨_,.inr ⟨by omega,s,hs,.inl ⟨hc,rfl⟩⟩⟩
theorem mH {es:List En} : ∀ {ls gs:List Ln},Dk ls es=some gs->(gs=ls)\/A6 gs=true:=by
 induction es with
 | nil=>intro ls gs h;rw [Dk] at h;injection h with h;exact .inl h.s
 | cons e r ih =>
  intro ls gs h;rw [Dk] at h
  split at h
  ·rename_i hp
   rcases ih h with rfl|I
   ·exact .inr (S4 hp).2
   ·exact .inr I
  ·cases h
theorem Aak (ls:List Ln) (es:List En):Ke ls es=ls\/A6 (Ke ls es)=true:=by
 unfold Ke
 cases h:Dk ls es with
 | none=>exact .inl rfl
 | some gs=>exact mH h
theorem jU {ls:List Ln} (es:List En) (hb:∀ x ∈ ls,N3 x) (u:ls.length<=1048576):(∀ x ∈ Ke ls es,N3 x)/\(Ke ls es).length<=1048576:=by
 rcases Aak ls es with e|h
 ·rw [e];exact ⟨hb,u⟩
 ·exact ⟨fP h,by have:=(Et h).2.1;omega⟩
theorem Adp {b:Bk} {l:qn} {r:Bk×Int} (u:l.length<=1048576) (h:Hk b) (g:Hw b l r) (f:r.2=0):Hk r.1:=by
 obtain ⟨p,q,w,t,z⟩:=h.sm;unfold Hw Em at g
 split at g
 ·rw [g] at f ⊢
  unfold Xu at f ⊢
  split at f
  ·rename_i hd
   rw [if_pos hd];have hw:=G6 hd.1
   have hp:∀ a ∈ Wr b.az (Ah (Ao (Ad l) 1)),a ∈ b.az:=λa n=>by
    unfold Wr at n
    split at n
    ·exact (List.mem_filter.1 n).1
    ·cases n
   exact ⟨⟨p,jk (oZ b.az _) q,w,t,z⟩,λa n=>h.ref a (hp a n),λa n=>h.cur a (hp a n),h.cc,h.lb,(by show (Lit.int .i64 (Ah (Ao (Ad l) 1))).wf=true;exact Dd (by omega))⟩
  ·simp at f
 split at g
 ·rename_i n
  split at g
  ·rw [g] at f ⊢
   unfold Gy at f ⊢
   split at f
   ·rename_i A
    rw [if_pos A];have i:addOk b.az ⟨Ao (Ad l) 1,Ah (Ao (Ad l) 2),Ah (Ao (Ad l) 3),Ah (Ao (Ad l) 4),b.today,false⟩=true:=A;have G:=i
    simp only [addOk,jf,decide_eq_true_eq] at G
    have J:(Ad l).length=5:=by simp [B6] at n;exact n.2
    have hsh:=Hg l _ (Iz (rs:=Ad l) (k:=1) (by omega))
    refine ⟨⟨p,?_,w,t,z⟩,λa hm=>?_,λa hm=>?_,h.cc,h.lb,h.day⟩
    ·exact jk (Aa4 b.az _) (by omega)
    ·have d:a ∈ Ps b.az _:=hm
     rw [R6 i] at d
     rcases List.mem_append.1 d with m|m
     ·exact h.ref a m
     ·simp at m;subst m;show (Ao (Ad l) 1).length<=1048576;omega
    ·have d:a ∈ Ps b.az _:=hm
     rw [R6 i] at d
     rcases List.mem_append.1 d with m|m
     ·exact h.cur a m
     ·simp at m;subst m;exact Ab9 (Qm G.1).2.2.1
   ·simp at f
  ·rw [g] at f;simp at f
 split at g
 ·split at g
  ·obtain ⟨x,-,g⟩:=g
   rw [g] at f ⊢;unfold Lx at f ⊢
   split at f
   ·simp at f
   rename_i D
   rw [if_neg D]
   split at f
   ·simp at f
   rename_i v
   rw [if_neg v]
   split at f
   ·simp at f
   rename_i C
   rw [if_neg C]
   split at f
   ·simp at f
   rename_i H
   rw [if_neg H]
   have i:Aq (Dp (Ah (Ao (Ad l) 1)) (Ah (Ao (Ad l) 2)) (Ah (Ao (Ad l) 3)) (Ah (Ao (Ad l) 4)) b.today)=true:=by
    have p:F0.stOk (Ah (Ao (Ad l) 1)) (Ah (Ao (Ad l) 2)) (Ah (Ao (Ad l) 3)) (Ah (Ao (Ad l) 4)) b.today=true:=by simpa using C
    exact p
   have e1:Mi (Ah (Ao (Ad l) 1)) (Ah (Ao (Ad l) 2)) (Ah (Ao (Ad l) 3)) (Ah (Ao (Ad l) 4)) b.today=Dp (Ah (Ao (Ad l) 1)) (Ah (Ao (Ad l) 2)) (Ah (Ao (Ad l) 3)) (Ah (Ao (Ad l) 4)) b.today:=if_pos i;have o:=jU (Hf (Ah (Ao (Ad l) 1)) (Ah (Ao (Ad l) 2)) (Ah (Ao (Ad l) 3)) (Ah (Ao (Ad l) 4)) b.today) h.lb t
   refine ⟨⟨p,?_,?_,o.2,z⟩,λa hm=>?_,λa hm=>?_,λc hm=>?_,o.1,h.day⟩
   ·show (Q3 b.az x).length<=_
    rw [zF];exact q
   ·show (b.cs++[_]).length<=_
    simp;omega
   ·obtain ⟨y,hy,e,e'⟩:=aJ (x:=x) (az:=b.az) hm
    rw [<- e];exact h.ref y hy
   ·obtain ⟨y,hy,e,e'⟩:=aJ (x:=x) (az:=b.az) hm
    rw [<- e'];exact h.cur y hy
   ·have d:c ∈ b.cs++[Mi (Ah (Ao (Ad l) 1)) (Ah (Ao (Ad l) 2)) (Ah (Ao (Ad l) 3)) (Ah (Ao (Ad l) 4)) b.today]:=hm
    rcases List.mem_append.1 d with d|d
    ·exact h.cc c d
    ·simp at d;rw [d,e1];exact qR i
  ·rw [g] at f;simp at f
 split at g
 ·split at g
  ·rw [g] at f ⊢
   unfold Mc at f ⊢
   split at f
   ·simp at f
   rename_i D
   rw [if_neg D]
   split at f
   ·rename_i v
    have:=(kn0.code (Bm b.cs (Ah (Ao (Ad l) 1)).toNat) ⟨Cp (Ao (Ad l) 2),Ah (Ao (Ad l) 3),Ah (Ao (Ad l) 4)⟩ b.today b.off).1
    simp only at f
    omega
   rename_i v
   rw [if_neg v]
   split at f
   ·simp at f
   rename_i C
   rw [if_neg C];have B:doV (Bm b.cs (Ah (Ao (Ad l) 1)).toNat) ⟨Cp (Ao (Ad l) 2),Ah (Ao (Ad l) 3),Ah (Ao (Ad l) 4)⟩ b.today b.off=0:=Classical.not_not.1 v;have o:=jU (doE (Bm b.cs (Ah (Ao (Ad l) 1)).toNat) ⟨Cp (Ao (Ad l) 2),Ah (Ao (Ad l) 3),Ah (Ao (Ad l) 4)⟩ b.today b.off) h.lb t
   refine ⟨⟨p,q,?_,o.2,z⟩,h.ref,h.cur,λc hm=>?_,o.1,h.day⟩
   ·show (b.cs.set _ _).length<=_
    simp;exact w
   ·have d:c ∈ b.cs.set (Ah (Ao (Ad l) 1)).toNat (doC (Bm b.cs (Ah (Ao (Ad l) 1)).toNat) ⟨Cp (Ao (Ad l) 2),Ah (Ao (Ad l) 3),Ah (Ao (Ad l) 4)⟩ b.today b.off):=hm
    rcases List.mem_or_eq_of_mem_set d with d|d
    ·exact h.cc c d
    ·rw [d,doC,if_pos B];exact qR (Aef B).2.2.2
  ·rw [g] at f;simp at f
 ·rw [g] at f;simp at f
theorem fU {b:Bk} {l:qn} {r:Bk×Int} (u:l.length<=1048576) (h:Hk b) (g:Ia Hw b l r):Hk r.1:=by
 rcases g with ⟨-,rfl⟩|⟨L,s,hs,⟨-,rfl⟩|⟨f,rfl⟩⟩
 ·exact h
 ·exact h
 ·have j:=Adp u h hs f
  obtain ⟨p,q,w,t,z⟩:=j.sm
  exact ⟨⟨p,q,w,t,by show (b.log++[l]).length<=_;simp;omega⟩,j.ref,j.cur,j.cc,j.lb,j.day⟩
theorem Agi {b:Bk} {l:qn} {F:Bk} (u:l.length<=1048576) (h:Hk b) (hd:Ip F0 b l (F,0)):Hk F:=by
 obtain ⟨r,g⟩:=eZ b l hd;have q:=fU u h g;rw [<- (Ws hd g).1] at q;exact q
theorem Q9 (a b c d e:qn):F2 [a,b,c,d,e]=a++32::(b++32::(c++32::(d++32::e))):=by
 unfold F2;rw [Lib.join_cons];simp [Lib.joinTail]
theorem Acs {l:qn} (h:Ag 33 126 l=true):∀ c ∈ l,c≠32:=λc O e=>by
 have:=(E6 h c O).1
 rw [e] at this
 exact absurd this (by decide)
theorem dN {n:Int} (U:-1<=n) (j:n<1000000000000000000):(Lib.itoa n).length<=200:=by
 have:=Lib.itoa_length_le n (by omega) (by omega);omega
theorem Ag7 (fs:List Av) (n:Int):(Jt (Cq fs) n).length<=200:=by
 unfold Jt;have h:=(Sn (Cb fs 48)).2;have e:Cq fs=(Tg.gotT (Cb fs 48)).getD []:=rfl;rw [<- e] at h
 generalize Cq fs=tg at h
 induction tg with
 | nil=>simp [Tg.fOf]
 | cons f r ih =>
  unfold Tg.fOf
  split
  ·simpa using h f (by simp)
  ·exact ih λg hg=>h g (by simp [hg])
theorem Ny {a b c d e:qn} (N:a.length<=200) (hb:b.length<=200) (O:c.length<=200) (hd:d.length<=200) (he:e.length<=200):(F2 [a,b,c,d,e]).length<=1100:=by
 rw [Q9];simp;omega
theorem iI {a r:qn} (N:∀ c ∈ a,c≠32) (h:a≠Eo):¬ Nr (Ad (a++32::r)):=λe=>by
 have j:=e.1;rw [Ie N] at j;unfold B6 at j
 rw [decide_eq_false (show ¬ Ao (a::Ad r) 0=Eo from h),Bool.false_and] at j
 cases j
theorem yY {k:Nat} {fs:List Av} (C:(Cy k fs (Cq fs)).2.1=false):(F2 (Cy k fs (Cq fs)).1).length<=1100/\¬ Nr (Ad (F2 (Cy k fs (Cq fs)).1)):=by
 have v:=λn=>dN (Ee (Cb fs n)).1 (Ee (Cb fs n)).2
 have I:=λn=>dN (Ee (Lib.trimLeftB (Cb fs n) 48)).1 (Ee (Lib.trimLeftB (Cb fs n) 48)).2
 have z:=dN (Ee (Jt (Cq fs) 1)).1 (Ee (Jt (Cq fs) 1)).2
 have S:(qZ (Cq fs)).length<=200:=by
  unfold qZ;split
  ·exact Ag7 fs 2
  ·simp
 have act:∀ b c d e:qn,¬ Nr (Ad (F2 [[97,99,116],b,c,d,e])):=λb c d e=>by rw [Q9];exact iI (by decide) (by decide)
 unfold Cy at C ⊢
 split at C
 ·simp only [Bool.or_eq_false_iff,Bool.not_eq_false'] at C
  have p:=C.1.1.1;unfold Kv at p
  simp only [jf,decide_eq_true_eq] at p
  refine ⟨Ny (by decide) (by omega) (I 2) (v 49) (v 4),?_⟩
  rw [Q9];intro e;have y:=e.2
  rw [Ie (by decide),Ie (Acs p.2)] at y
  have R:Cb fs 37=[]:=y;rw [R] at p
  simp at p
 ·refine ⟨Ny (by decide) (I 2) (I 93) (v 49) (v 4),?_⟩
  rw [Q9];exact iI (by decide) (by decide)
 ·exact ⟨Ny (by decide) z (by decide) (v 4) (by decide),act _ _ _ _⟩
 ·exact ⟨Ny (by decide) z (by decide) (v 4) (v 25),act _ _ _ _⟩
 ·exact ⟨Ny (by decide) z (by decide) (v 4) (by decide),act _ _ _ _⟩
 ·exact ⟨Ny (by decide) z (by decide) (by decide) (by decide),act _ _ _ _⟩
 ·exact ⟨Ny (by decide) z (by decide) (by decide) (by decide),act _ _ _ _⟩
 ·exact ⟨Ny (by decide) z S (v 4) (by decide),act _ _ _ _⟩
theorem Wg (kd:Int) (fs:List Av):(Dm kd fs).1.length<=1100/\((Dm kd fs).2=0->¬ Nr (Ad (Dm kd fs).1)):=by
 unfold Dm
 split
 ·exact ⟨by simp,λh=>by cases h⟩
 ·rename_i k _
  split
  ·dsimp only
   split
   ·exact ⟨by simp,λh=>by cases h⟩
   ·rename_i h
    split
    ·exact ⟨by simp,λh=>by cases h⟩
    ·have:=yY (k:=k) (fs:=fs) (by simpa using h)
     exact ⟨this.1,λ_=>this.2⟩
  ·exact ⟨by simp,λh=>by cases h⟩
theorem yK {b:Bk} {l:qn} {r:Bk×Int} (h:Ia Hw b l r):0<=r.2/\r.2<=1010:=by
 have key:∀ s,Hw b l s->0<=s.2/\s.2<=1010:=λs hs=>by
  unfold Hw Em at hs
  split at hs
  ·rw [hs];unfold Xu;split <;> exact ⟨by dsimp only;decide,by dsimp only;decide⟩
  split at hs
  ·split at hs
   ·rw [hs];unfold Gy;split <;> exact ⟨by dsimp only;decide,by dsimp only;decide⟩
   ·rw [hs];exact ⟨by dsimp only;decide,by dsimp only;decide⟩
  split at hs
  ·split at hs
   ·obtain ⟨x,-,hs⟩:=hs
    rw [hs];unfold Lx
    split
    ·exact ⟨by dsimp only;decide,by dsimp only;decide⟩
    split
    ·exact ⟨by dsimp only;decide,by dsimp only;decide⟩
    split
    ·exact ⟨by dsimp only;decide,by dsimp only;decide⟩
    split <;> exact ⟨by dsimp only;decide,by dsimp only;decide⟩
   ·rw [hs];exact ⟨by dsimp only;decide,by dsimp only;decide⟩
  split at hs
  ·split at hs
   ·rw [hs];unfold Mc
    split
    ·exact ⟨by dsimp only;decide,by dsimp only;decide⟩
    split
    ·have:=kn0.code (Bm b.cs (Ah (Ao (Ad l) 1)).toNat) ⟨Cp (Ao (Ad l) 2),Ah (Ao (Ad l) 3),Ah (Ao (Ad l) 4)⟩ b.today b.off
     dsimp only
     omega
    split <;> exact ⟨by dsimp only;decide,by dsimp only;decide⟩
   ·rw [hs];exact ⟨by dsimp only;decide,by dsimp only;decide⟩
  ·rw [hs];exact ⟨by dsimp only;decide,by dsimp only;decide⟩
 rcases h with ⟨-,rfl⟩|⟨-,s,hs,⟨-,rfl⟩|⟨-,rfl⟩⟩
 ·exact ⟨by dsimp only;decide,by dsimp only;decide⟩
 ·exact key s hs
 ·exact ⟨by dsimp only;decide,by dsimp only;decide⟩
theorem Agq {b:Bk} {l:qn} {r:Bk×Int} (h:Ip F0 b l r):0<=r.2/\r.2<=1010:=by
 obtain ⟨F,p⟩:=eZ b l h;have j:=yK p
 rcases (Ws h p).2 with e|⟨e,-,-⟩
 ·rw [e];exact j
 ·rw [e];exact ⟨by decide,by decide⟩
def Yo (D:Bk->qn->Bk×Int->Prop) (b:Bk) (m:U2) (r:Bk×Int):Prop :=
 ((Dm m.1 m.2).2≠0/\r=(b,(Dm m.1 m.2).2))\/((Dm m.1 m.2).2=0/\∃ s,D b (Dm m.1 m.2).1 s/\r=(s.1,if s.2=0 then 0 else 10+s.2))
theorem Adq {b:Bk} {m:U2} {r F:Bk×Int} (h:Yo (Ip F0) b m r) (w:Yo (Ia Hw) b m F):r=F:=by
 rcases h with ⟨j,rfl⟩|⟨j,s,hs,rfl⟩
 ·rcases w with ⟨_,rfl⟩|⟨y,_⟩
  ·rfl
  ·exact absurd y j
 ·rcases w with ⟨y,_⟩|⟨_,W,M,rfl⟩
  ·exact absurd j y
  ·obtain ⟨e1,e2⟩:=Ws hs M
   rcases e2 with e2|⟨-,-,e2⟩
   ·rw [e1,e2]
   ·exact absurd e2 ((Wg m.1 m.2).2 j)
def J3 (T:Bk->U2->Bk×Int->Prop):Nat->Bk->List U2->Bk->List (Int×Int)->Prop
 | _,b,[],b',rj=>b'=b/\rj=[]
 | i,b,m::o,b',rj=>∃ r rj',T b m r/\J3 T (i+1) r.1 o b' rj'/\rj=if r.2=0 then rj' else ((i:Int),r.2)::rj'
theorem Sv:∀ {o:List U2} {i:Nat} {b u B:Bk} {G H:List (Int×Int)},J3 (Yo (Ip F0)) i b o u G->J3 (Yo (Ia Hw)) i b o B H->u=B/\G=H
 | [],i,b,u,B,G,H,h,w=>by
  simp only [J3] at h w
  exact ⟨h.1.t w.1.s,h.2.t w.2.s⟩
 | m::o,i,b,u,B,G,H,h,w=>by
  obtain ⟨r,q,p,A,rfl⟩:=h;obtain ⟨F,V,L,J,rfl⟩:=w;have e:=Adq p L;subst e;obtain ⟨e1,e2⟩:=Sv A J
  exact ⟨e1,by rw [e2]⟩
theorem Sw {T:Bk->U2->Bk×Int->Prop} {x:U2} {r:Bk×Int} {u:Bk} : ∀ {o:List U2} {i:Nat} {b:Bk} {rj:List (Int×Int)},J3 T i b o u rj->T u x r->J3 T i b (o++[x]) r.1 (if r.2=0 then rj else rj++[(((i+o.length:Nat):Int),r.2)])
 | [],i,b,rj,h,p=>by
  simp only [J3] at h
  obtain ⟨rfl,rfl⟩:=h
  exact ⟨r,[],p,⟨rfl,rfl⟩,by simp⟩
 | m::o,i,b,rj,h,p=>by
  obtain ⟨s,q,hs,A,rfl⟩:=h;refine ⟨s,_,hs,Sw A p,?_⟩
  have e:i+1+o.length=i+(m::o).length:=by simp;omega
  rw [e]
  by_cases j:s.2=0
  ·rw [if_pos j,if_pos j]
  ·rw [if_neg j,if_neg j]
   split <;> rfl
theorem eX {T:Bk->U2->Bk×Int->Prop} : ∀ {o:List U2} {i:Nat} {b u:Bk} {rj:List (Int×Int)},J3 T i b o u rj->rj.length<=o.length
 | [],i,b,u,rj,h=>by simp only [J3] at h;rw [h.2];exact nL
 | m::o,i,b,u,rj,h=>by
  obtain ⟨s,q,hs,A,rfl⟩:=h
  have:=eX A
  split
  ·simp;omega
  ·simp;omega
theorem Aei {a r:qn} (b:∀ c ∈ a,c≠32) (h:a≠F1):Ao (Ad (a++32::r)) 0≠F1:=by
 rw [Ie b];exact h
theorem xB (k:Nat) (fs:List Av):Ao (Ad (F2 (Cy k fs (Cq fs)).1)) 0≠F1:=by
 unfold Cy
 split <;> (dsimp only;rw [Q9];exact Aei (by decide) (by decide))
theorem aC (kd:Int) (fs:List Av) (h:(Dm kd fs).2=0):Ao (Ad (Dm kd fs).1) 0≠F1:=by
 revert h
 unfold Dm
 split
 ·exact λh=>by cases h
 ·split
  ·dsimp only
   split
   ·exact λh=>by cases h
   ·split
    ·exact λh=>by cases h
    ·exact λ_=>xB _ fs
  ·exact λh=>by cases h
theorem yF {ws:Bn} (h:Ao ws 0≠F1):C7 ws=false:=by
 unfold C7;rw [decide_eq_false h];rfl
theorem yT {y:Value} (h:NF E0 y):∃ t p,y=.iface t p:=by
 obtain ⟨w,g,c,f,d⟩:=h
 simp only [Ah3,List.mem_cons,List.not_mem_nil,or_false] at f
 rcases f with rfl|rfl|rfl|rfl|rfl|rfl|rfl
 ·obtain ⟨t,a,h⟩:=c.eLine
  exact ⟨t,_,Option.some.inj (d.s.t h)⟩
 ·obtain ⟨t,a,h⟩:=c.eDay
  exact ⟨t,_,Option.some.inj (d.s.t h)⟩
 ·obtain ⟨t,a,h⟩:=c.eAuth
  exact ⟨t,_,Option.some.inj (d.s.t h)⟩
 ·obtain ⟨t,a,h⟩:=c.eCases
  exact ⟨t,_,Option.some.inj (d.s.t h)⟩
 ·obtain ⟨t,a,h⟩:=c.eCase
  exact ⟨t,_,Option.some.inj (d.s.t h)⟩
 ·obtain ⟨t,a,h⟩:=c.eMoney
  exact ⟨t,_,Option.some.inj (d.s.t h)⟩
 ·obtain ⟨t,a,h⟩:=c.eAct
  exact ⟨t,_,Option.some.inj (d.s.t h)⟩
theorem oG {b:Bk} {code:Int} {v:Value} (h:Aec E0 b code v):(code=0/\v=.nilIface)\/∃ t p,v=.iface 199 (.agg #[.iface t p,qzI code]):=by
 rcases h with h|⟨-,y,hy,rfl⟩
 ·exact .inl h
 ·refine .inr ?_
  split at hy
  ·obtain ⟨w,c,d⟩:=hy
   obtain ⟨t,a,h⟩:=c.eFull
   exact ⟨t,_,by rw [Option.some.inj (d.s.t h)]⟩
  ·obtain ⟨t,p,rfl⟩:=yT hy
   exact ⟨t,p,rfl⟩
theorem vQ {b:Bk} {code:Int} {v:Value} (w:ql) (h:Aec E0 b code v) (f:Hl w):qi 107 #[v] w λe w'=>e=.returned (qzI code)/\BW w w':=by
 rcases oG h with ⟨rfl,rfl⟩|⟨t,p,rfl⟩
 ·exact Acr w
 ·exact tK t p code w f
def k2B (b:Bk):Nat:=1+b.off.length
def k3B (b:Bk):Nat:=k2B b+6*b.az.length
def k4B (b:Bk):Nat:=k3B b+12*b.cs.length
def k5B (b:Bk):Nat:=k4B b+3*b.ls.length
def k6B (b:Bk):Nat:=k5B b+b.log.length
structure Mrk (B:Nat) (b:Bk) (q:Bp) (u:ql):Prop where
 off:u.ownsRow B 3 1 (qf q.o b.off.length q.oc) b.off.length ((Wu 1 b.off.length).map (Value.int .i64))
 az:u.ownsRow B 108 6 (qf q.a b.az.length q.ac) b.az.length (Ap (mkA (k2B b) b.az.length))
 cs:u.ownsRow B 111 12 (qf q.c b.cs.length q.cc) b.cs.length (Am (mkC (k3B b) b.cs.length))
 ls:u.ownsRow B 151 3 (qf q.l b.ls.length q.lc) b.ls.length (Ak (lJ (k4B b) b.ls.length))
 log:u.ownsRow B 9 1 (qf q.g b.log.length q.gc) b.log.length (At (mkS (k5B b) b.log.length))
theorem Mrk.below {B:Nat} {b:Bk} {q:Bp} {u u':ql} (h:Mrk B b q u) (hb:BW u u'):Mrk B b q u':=⟨A5 h.off hb,A5 h.az hb,A5 h.cs hb,A5 h.ls hb,A5 h.log hb⟩
def iK (b:Bk) (q:Bp) (r:Option Nat):Prop :=
 r=(Value.slice q.o b.off.length q.oc).ownBlock\/r=(Value.slice q.a b.az.length q.ac).ownBlock\/r=(Value.slice q.c b.cs.length q.cc).ownBlock\/r=(Value.slice q.l b.ls.length q.lc).ownBlock\/r=(Value.slice q.g b.log.length q.gc).ownBlock
theorem vJ (b:Bk) (q:Bp) (B:Nat) (w:ql) (ho:Ma B b q w) (hn:Ld b) (Q:ql->Prop) (hQ:∀ r,iK b q r->∀ u u':ql,u.grownBy u' r->Q u->Q u') (hq:Q w) :
  qi 13 #[Fx b q,qzI 1] w λe w'=>e=.returned (qzI (k6B b:Int))/\Mrk B b q w'/\Q w':=by
 obtain ⟨n1,n2,n3,n4,n5⟩:=hn;obtain ⟨X,hX⟩:=Ae w.heap.size;obtain ⟨W,z⟩:=A0 (w.alloc (.cells (qcB b q) 40))
 have bW:BW w W:=by rw [z];exact bR.alloc nL _
 have F:qj (ZQ X b q W):=by rw [qj,z,<- hX];exact Z6.new w _ _ _ _ _ _ _
 have HT:qj (Hp W X 40):=by rw [qj,z,<- hX];exact aB w _ _
 have k:=Aa (ho.below bW)
 have a3:=Aa (hQ _ (.inl rfl) w W (by rw [z];exact World.grownBy_alloc w _ _) hq)
 have y:=Aa hQ;obtain ⟨n,d⟩:=Ae (k2B b);obtain ⟨x,f⟩:=Ae (k3B b);obtain ⟨p,i⟩:=Ae (k4B b);obtain ⟨t,j⟩:=Ae (k5B b);obtain ⟨V,v⟩:=Ae (k6B b);have e2:n=1+b.off.length:=d.s
 have e3:x=n+6*b.az.length:=by rw [<- d,<- f];rfl
 have e4:p=x+12*b.cs.length:=by rw [<- f,<- i];rfl
 have e5:t=p+3*b.ls.length:=by rw [<- i,<- j];rfl
 have e6:V=t+b.log.length:=by rw [<- j,<- v];rfl
 have H1:qj (∀ (u:ql) (xs:List Value),u.ownsRow B 3 1 (qf q.o b.off.length q.oc) b.off.length xs->qi 43 #[qf q.o b.off.length q.oc,qzI 1] u λe w'=>e=.returned (qzI (n:Int))/\w'.ownsRow B 3 1 (qf q.o b.off.length q.oc) b.off.length ((Wu 1 b.off.length).map (Value.int .i64))/\u.grownBy w' (Value.slice q.o b.off.length q.oc).ownBlock):=λu xs h=>by
  have:=Ro q.o q.oc b.off.length B 1 xs u h (by omega) (by omega) (by omega)
  rw [show (1:Int)+(b.off.length:Int)=(n:Int) from by omega] at this
  exact this
 have H2:qj (∀ u:ql,u.ownsRow B 108 6 (qf q.a b.az.length q.ac) b.az.length (Ap b.az)->qi 44 #[qf q.a b.az.length q.ac,qzI (n:Int)] u λe w'=>e=.returned (qzI (x:Int))/\w'.ownsRow B 108 6 (qf q.a b.az.length q.ac) b.az.length (Ap (mkA n b.az.length))/\u.grownBy w' (Value.slice q.a b.az.length q.ac).ownBlock):=λu h=>by
  rw [e3];exact Py q.a q.ac B n b.az u h (by omega) (by omega) (by omega)
 have H3:qj (∀ u:ql,u.ownsRow B 111 12 (qf q.c b.cs.length q.cc) b.cs.length (Am b.cs)->qi 45 #[qf q.c b.cs.length q.cc,qzI (x:Int)] u λe w'=>e=.returned (qzI (p:Int))/\w'.ownsRow B 111 12 (qf q.c b.cs.length q.cc) b.cs.length (Am (mkC x b.cs.length))/\u.grownBy w' (Value.slice q.c b.cs.length q.cc).ownBlock):=λu h=>by
  rw [e4];exact cL q.c q.cc B x b.cs u h n3 (by omega)
 have H4:qj (∀ u:ql,u.ownsRow B 151 3 (qf q.l b.ls.length q.lc) b.ls.length (Ak b.ls)->qi 46 #[.agg #[qf q.l b.ls.length q.lc],qzI (p:Int)] u λe w'=>e=.returned (qzI (t:Int))/\w'.ownsRow B 151 3 (qf q.l b.ls.length q.lc) b.ls.length (Ak (lJ p b.ls.length))/\u.grownBy w' (Value.slice q.l b.ls.length q.lc).ownBlock):=λu h=>by
  rw [e5];exact Nh q.l q.lc B p b.ls u h (by omega) (by omega)
 have H5:qj (∀ u:ql,u.ownsRow B 9 1 (qf q.g b.log.length q.gc) b.log.length (At b.log)->qi 47 #[qf q.g b.log.length q.gc,qzI (t:Int)] u λe w'=>e=.returned (qzI (V:Int))/\w'.ownsRow B 9 1 (qf q.g b.log.length q.gc) b.log.length (At (mkS t b.log.length))/\u.grownBy w' (Value.slice q.g b.log.length q.gc).ownBlock):=λu h=>by
  rw [e6];exact M9 q.g q.gc B t b.log u h (by omega) (by omega) (by omega)
 have HE:qj (k2B b=n/\k3B b=x/\k4B b=p/\k5B b=t/\k6B b=V):=⟨d,f,i,j,v⟩;have HW:=Aa z;have HX:=Aa hX;unfold Fx;clear ho n1 n2 n3 n4 n5 hQ hq bW e2 e3 e4 e5 e6 d f i j v z hX;obtain ⟨c0,c1,c2,c3,c4,c5,-,-,-,-,-,-⟩:=F.o
 go_enter func13,ntmps13
 go_wp2_with fail
 rw [<- HW.o];refine Calls.m (H1.o W _ k.o.off) ?_;rintro e u1 ⟨rfl,o1,I⟩;rw [HX.o];clear HW HX;have a4:=Aa (y.o _ (.inl rfl) _ _ I a3.o)
 have N:=Aa (F.o.grown I (E8 k.o.off HT.o (by decide)))
 have C:=Aa (HT.o.grown I (E8 k.o.off HT.o (by decide)))
 have G:=Aa (k.o.az.kept I (A7 k.o.az k.o.off (by decide)))
 have C1:=Aa (k.o.cs.kept I (A7 k.o.cs k.o.off (by decide)))
 have L1:=Aa (k.o.ls.kept I (A7 k.o.ls k.o.off (by decide)))
 have G1:=Aa (k.o.log.kept I (A7 k.o.log k.o.off (by decide)))
 have O1:=Aa o1;clear o1 I c0 c1 c2 c3 c4 c5 k HT F a3 H1;obtain ⟨c0,c1,c2,c3,c4,c5,-,-,-,-,-,-⟩:=N.o;go_wp2_with fail
 refine Calls.m (H2.o u1 G.o) ?_;rintro e u2 ⟨rfl,o2,J⟩;have a5:=Aa (y.o _ (.inr (.inl rfl)) _ _ J a4.o)
 have O:=Aa (N.o.grown J (E8 G.o C.o (by decide)))
 have D:=Aa (C.o.grown J (E8 G.o C.o (by decide)))
 have O2:=Aa (O1.o.kept J (A7 O1.o G.o (by decide)))
 have H:=Aa (C1.o.kept J (A7 C1.o G.o (by decide)))
 have L2:=Aa (L1.o.kept J (A7 L1.o G.o (by decide)))
 have G2:=Aa (G1.o.kept J (A7 G1.o G.o (by decide)))
 have A2:=Aa o2;clear o2 J c0 c1 c2 c3 c4 c5 C N a4 H2 O1 G C1 L1 G1;obtain ⟨c0,c1,c2,c3,c4,c5,-,-,-,-,-,-⟩:=O.o;go_wp2_with fail
 refine Calls.m (H3.o u2 H.o) ?_;rintro e u3 ⟨rfl,o3,L⟩;have a6:=Aa (y.o _ (.inr (.inr (.inl rfl))) _ _ L a5.o)
 have R:=Aa (O.o.grown L (E8 H.o D.o (by decide)))
 have a8:=Aa (D.o.grown L (E8 H.o D.o (by decide)))
 have O3:=Aa (O2.o.kept L (A7 O2.o H.o (by decide)))
 have A3:=Aa (A2.o.kept L (A7 A2.o H.o (by decide)))
 have Y:=Aa (L2.o.kept L (A7 L2.o H.o (by decide)))
 have G3:=Aa (G2.o.kept L (A7 G2.o H.o (by decide)))
 have C3:=Aa o3;clear o3 L c0 c1 c2 c3 c4 c5 D O a5 H3 O2 A2 H L2 G2;obtain ⟨c0,c1,c2,c3,c4,c5,-,-,-,-,-,-⟩:=R.o;go_wp2_with fail
 refine Calls.m (H4.o u3 Y.o) ?_;rintro e u4 ⟨rfl,o4,Z⟩;have a7:=Aa (y.o _ (.inr (.inr (.inr (.inl rfl)))) _ _ Z a6.o)
 have a9:=Aa (R.o.grown Z (E8 Y.o a8.o (by decide)))
 have O4:=Aa (O3.o.kept Z (A7 O3.o Y.o (by decide)))
 have A4:=Aa (A3.o.kept Z (A7 A3.o Y.o (by decide)))
 have C4:=Aa (C3.o.kept Z (A7 C3.o Y.o (by decide)))
 have G4:=Aa (G3.o.kept Z (A7 G3.o Y.o (by decide)))
 have L4:=Aa o4;clear o4 Z c0 c1 c2 c3 c4 c5 a8 R a6 H4 O3 A3 C3 Y G3;obtain ⟨c0,c1,c2,c3,c4,c5,-,-,-,-,-,-⟩:=a9.o;go_wp2_with fail
 refine Calls.m (H5.o u4 G4.o) ?_;rintro e u5 ⟨rfl,o5,g5⟩;have b1:=Aa (y.o _ (.inr (.inr (.inr (.inr rfl)))) _ _ g5 a7.o);obtain ⟨x2,x3,x4,x5,x6⟩:=HE.o
 have M:qj (Mrk B b q u5):=by
  refine ⟨O4.o.kept g5 (A7 O4.o G4.o (by decide)),?_,?_,?_,?_⟩
  ·rw [x2];exact A4.o.kept g5 (A7 A4.o G4.o (by decide))
  ·rw [x3];exact C4.o.kept g5 (A7 C4.o G4.o (by decide))
  ·rw [x4];exact L4.o.kept g5 (A7 L4.o G4.o (by decide))
  ·rw [x5];exact o5
 have HK:=Aa x6;clear o5 g5 c0 c1 c2 c3 c4 c5 x2 x3 x4 x5 x6 HE a9 a7 H5 O4 A4 C4 L4 G4;go_wp2;go_ret;rw [HK.o];exact ⟨rfl,M.o,b1.o⟩
theorem tN (b:Bk) (q:Bp) (B:Nat) (w:ql) (hm:Mrk B b q w) (hn:Ld b) :
  qi 16 #[Fx b q,qzI 1] w λe w'=>e=.returned (qzI (k6B b:Int))/\BW w w':=by
 obtain ⟨n1,n2,n3,n4,n5⟩:=hn;obtain ⟨X,hX⟩:=Ae w.heap.size;obtain ⟨W,z⟩:=A0 (w.alloc (.cells (qcB b q) 40))
 have bW:BW w W:=by rw [z];exact bR.alloc nL _
 have F:qj (∀ u,BW W u->ZQ X b q u):=λu h=>Z6.below (by rw [z,<- hX];exact Z6.new w _ _ _ _ _ _ _) h
 have M:qj (∀ u,BW W u->Mrk B b q u):=λu h=>(hm.below bW).below h
 have b0:=Aa bW;obtain ⟨n,d⟩:=Ae (k2B b);obtain ⟨x,f⟩:=Ae (k3B b);obtain ⟨p,i⟩:=Ae (k4B b);obtain ⟨t,j⟩:=Ae (k5B b);obtain ⟨V,v⟩:=Ae (k6B b);have e2:n=1+b.off.length:=d.s
 have e3:x=n+6*b.az.length:=by rw [<- d,<- f];rfl
 have e4:p=x+12*b.cs.length:=by rw [<- f,<- i];rfl
 have e5:t=p+3*b.ls.length:=by rw [<- i,<- j];rfl
 have e6:V=t+b.log.length:=by rw [<- j,<- v];rfl
 have H1:qj (∀ u,BW W u->qi 49 #[qf q.o b.off.length q.oc,qzI 1] u λe w'=>e=.returned (qzI (n:Int))/\BW u w'):=λu h=>by
  have:=cQ q.o q.oc b.off.length 1 u (Nq (M.o u h).off) (by omega) (by omega) (by omega)
  rw [show (1:Int)+(b.off.length:Int)=(n:Int) from by omega] at this
  exact this.m (λe w' ⟨h1,h2⟩=>⟨h1,by rw [h2];exact bR⟩)
 have H2:qj (∀ u,BW W u->qi 50 #[qf q.a b.az.length q.ac,qzI (n:Int)] u λe w'=>e=.returned (qzI (x:Int))/\BW u w'):=λu h=>by
  have A:=(M.o u h).az;rw [d] at A
  rw [e3];exact Za q.a q.ac b.az.length n u (Hu A) (by omega) (by omega) (by omega)
 have H3:qj (∀ u,BW W u->qi 51 #[qf q.c b.cs.length q.cc,qzI (x:Int)] u λe w'=>e=.returned (qzI (p:Int))/\BW u w'):=λu h=>by
  have A:=(M.o u h).cs;rw [f] at A
  rw [e4];exact (Y3 q.c q.cc b.cs.length x u (Hz A) n3 (by omega)).m (λe w' ⟨h1,h2⟩=>⟨h1,by rw [h2];exact bR⟩)
 have H4:qj (∀ u,BW W u->qi 52 #[.agg #[qf q.l b.ls.length q.lc],qzI (p:Int)] u λe w'=>e=.returned (qzI (t:Int))/\BW u w'):=λu h=>by
  have A:=(M.o u h).ls;rw [i] at A;have hl:(lJ p b.ls.length).length=b.ls.length:=Sl _ _
  rw [e5];exact Ya q.l q.lc b.ls.length p u (Eb (by rw [hl];exact A)) (by omega) (by omega)
 have H5:qj (∀ u,BW W u->qi 53 #[qf q.g b.log.length q.gc,qzI (t:Int)] u λe w'=>e=.returned (qzI (V:Int))/\BW u w'):=λu h=>by
  have A:=(M.o u h).log;rw [j] at A;have hl:(mkS t b.log.length).length=b.log.length:=Ou _ _
  rw [e6];exact U5 q.g q.gc b.log.length t u (G5 (by rw [hl];exact A)) (by omega) (by omega) (by omega)
 have HK:=Aa v;have HW:=Aa z;have HX:=Aa hX
 have z2:¬ (n:Int)<0:=by omega
 have z3:¬ (x:Int)<0:=by omega
 have z4:¬ (p:Int)<0:=by omega
 have z5:¬ (t:Int)<0:=by omega
 have z6:¬ (V:Int)<0:=by omega
 unfold Fx;clear hm n1 n2 n3 n4 n5 bW e2 e3 e4 e5 e6 d f i j v z hX;have k0:BW W W:=bR;obtain ⟨c0,c1,c2,c3,c4,c5,-,-,-,-,-,-⟩:=F.o W k0
 go_enter func16,ntmps16
 go_wp2_with fail
 rw [<- HW.o];refine Calls.m (H1.o W k0) ?_;rintro e u1 ⟨rfl,p1⟩;rw [HX.o];have K1:=Aa p1;clear p1 c0 c1 c2 c3 c4 c5 HW HX k0;obtain ⟨c0,c1,c2,c3,c4,c5,-,-,-,-,-,-⟩:=F.o u1 K1.o;go_wp2_with fail
 refine Calls.m (H2.o u1 K1.o) ?_;rintro e u2 ⟨rfl,p2⟩;have S:=Aa (next K1.o p2);clear p2 c0 c1 c2 c3 c4 c5;obtain ⟨c0,c1,c2,c3,c4,c5,-,-,-,-,-,-⟩:=F.o u2 S.o;go_wp2_with fail
 refine Calls.m (H3.o u2 S.o) ?_;rintro e u3 ⟨rfl,p3⟩;have T:=Aa (next S.o p3);clear p3 c0 c1 c2 c3 c4 c5;obtain ⟨c0,c1,c2,c3,c4,c5,-,-,-,-,-,-⟩:=F.o u3 T.o;go_wp2_with fail
 refine Calls.m (H4.o u3 T.o) ?_;rintro e u4 ⟨rfl,p4⟩;have U:=Aa (next T.o p4);clear p4 c0 c1 c2 c3 c4 c5;obtain ⟨c0,c1,c2,c3,c4,c5,-,-,-,-,-,-⟩:=F.o u4 U.o;go_wp2_with fail
 refine Calls.m (H5.o u4 U.o) ?_;rintro e u5 ⟨rfl,p5⟩;have b2:=Aa (next b0.o (next U.o p5));clear p5 c0 c1 c2 c3 c4 c5;go_wp2;go_ret;rw [HK.o];exact ⟨rfl,b2.o⟩
theorem Ma.far {B r:Nat} {b:Bk} {q:Bp} {u d:ql} (h:Ma B b q u) (g:u.grownBy d (some r)) (f:r<B):Ma B b q d:=by
 have ne:∀ {t:TypeId} {s n:Nat} {v:Value} {xs:List Value},u.ownsRow B t s v n xs->v.ownBlock=none\/v.ownBlock≠some r:=λo=>.inr λe=>by
  have:=(o.lt _ e).1;omega
 exact ⟨h.off.kept g (ne h.off),h.az.kept g (ne h.az),h.cs.kept g (ne h.cs),h.ls.kept g (ne h.ls),h.log.kept g (ne h.log)⟩
theorem Ma.rows {B:Nat} {b:Bk} {q:Bp} {u:ql} (h:Ma B b q u) {r:Option Nat} (f:iK b q r):∀ j,r=some j->B<=j/\j<u.heap.size:=by
 intro j c
 rcases f with rfl|rfl|rfl|rfl|rfl
 ·exact h.off.lt j c
 ·exact h.az.lt j c
 ·exact h.cs.lt j c
 ·exact h.ls.lt j c
 ·exact h.log.lt j c
def LQ (V:ql) (X:Nat) (b:Bk) (q:Bp) (u:ql):Prop:=BW V u/\ZQ X b q u
theorem Afc {V:ql} {X B:Nat} {b:Bk} {q:Bp} {i:ql} (ho:Ma B b q i) (k:V.heap.size<=B) (hX:i.heap.size<=X):∀ r,iK b q r->∀ u d:ql,u.grownBy d r->LQ V X b q u->LQ V X b q d:=by
 intro r f u d g h;have a:=ho.rows f
 refine ⟨h.1.grown g h.1.size (λj c=>by have:=(a j c).1;omega),h.2.grown g (λe=>?_)⟩
 have:=(a X e.s).2
 omega
theorem Afs {x:Int} (O:0<=x) (h1:x<=1000000000):IntKind.i64.wrap x=x:=by simp [IntKind.wrap,go_sem];omega
theorem KS.rj {B K m n:Nat} {st:Int} {b:Bk} {q:Bp} {u u':ql} {v:Value} {d:List Value} (h:KS B K st b q u) (g:u.grownBy u' v.ownBlock) (o:u.ownsRow m 70 2 v n d):KS B K st b q u' :=
 have nK:=E8 o h.kt (by decide)
 ⟨h.z.grown g nK,h.kt.grown g nK,h.off.kept g (A7 h.off o (by decide)),h.az.kept g (A7 h.az o (by decide)),h.cs.kept g (A7 h.cs o (by decide)),h.ls.kept g (A7 h.ls o (by decide)),h.log.kept g (A7 h.log o (by decide)),h.hK⟩
theorem C5.new {B:Nat} {w u u':ql} {r:Option Nat} (h:C5 B w u) (g:u.grownBy u' r) (hr:∀ j,r=some j->w.heap.size<=j) (hB:B<=w.heap.size):C5 B w u' :=
 ⟨h.b.grown g (jk hB h.b.size) (λj hj=>jk hB (hr j hj)),λk o e m=>(g.block k (Pi (h.i k o e m)) (λc=>by have:=hr k c.s;have:=Pi e;omega)).t (h.i k o e m)⟩
theorem yS:∀ k,k<10->Ao G7 k=xH k:=by
 intro k hk
 rcases (show k=0\/k=1\/k=2\/k=3\/k=4\/k=5\/k=6\/k=7\/k=8\/k=9 by omega) with rfl|rfl|rfl|rfl|rfl|rfl|rfl|rfl|rfl|rfl <;> rfl
theorem Abq (x:MV) (w:ql) (M:E0 w) (n4:aD x.kd) (hz:Aw w x.ao x.fs) (hn:x.fs.length<=1048576) (hd:Gs x.fs<=1048576) :
  qi 105 #[.agg #[qzI x.kd,qf x.ao x.fs.length x.cap]] w (qp (.tuple #[qd (Dm x.kd x.fs).1,qzI (Dm x.kd x.fs).2]) w) :=
 U4 x.kd x.ao x.cap x.fs w n4 hz hn hd M.pow M.pow λk hk=>by rw [<- yS k hk];exact M.words k hk
def TkW (B K:Nat) (b:Bk) (m:U2) (w:ql) (e:Ending) (w':ql):Prop :=
 ∃ r q,Yo (Ip F0) b m r/\e=.returned (qzI r.2)/\Hk r.1/\KS B K 0 r.1 q w'/\C5 B w w'
def MOk (x:MV):Prop:=aD x.kd/\x.fs.length<=1048576/\Gs x.fs<=1048576
theorem uO {B K:Nat} (hB:17<=B) (b:Bk) (q:Bp) (x:MV) (w:ql) (hk:KS B K 0 b q w) (M:E0 w) (hg:Hl w) (hP:Hk b) (hx:MOk x) (hz:Aw w x.ao x.fs) :
  qi 77 #[qh K,.agg #[qzI x.kd,qf x.ao x.fs.length x.cap]] w (TkW B K b x.m w):=by
 obtain ⟨W,hW⟩:=A0 (w.alloc (.cells #[qzI x.kd,qf x.ao x.fs.length x.cap] 68))
 have T:BW w W:=by rw [hW];exact bR.alloc nL _
 have v0:W.cell? ⟨w.heap.size,0,none⟩=some (qzI x.kd):=by rw [hW];simp [go_sem]
 have v1:W.cell? ⟨w.heap.size,1,none⟩=some (qf x.ao x.fs.length x.cap):=by rw [hW];simp [go_sem]
 have d9:=Abq x W (Kw _ _ M (T.m M.size)) hx.1 (hz.below T) hx.2.1 hx.2.2;have g1:=Wg x.kd x.fs;have i2:=Aa (aC x.kd x.fs);have d3:=Aa (hk.below T);have a5:qj (C5 B w W):=.of T hk.lt;have h7:=Aa (hg.below T);have d0:=Aa (Kw _ _ M (T.m M.size));have a8:=Aa hB;have b0:=Aa hP
 have HM:qj (∀ r,((Dm x.kd x.fs).2≠0/\r=(b,(Dm x.kd x.fs).2))\/((Dm x.kd x.fs).2=0/\∃ s,Ip F0 b (Dm x.kd x.fs).1 s/\r=(s.1,if s.2=0 then 0 else 10+s.2))->Yo (Ip F0) b x.m r):=λr h=>h
 obtain ⟨L,hL⟩:=Ae ((Dm x.kd x.fs).1);obtain ⟨C,hC⟩:=Ae ((Dm x.kd x.fs).2);rw [hL,hC] at d9 HM i2;rw [hL] at g1;have d4:=Aa g1.1;have b7:qj _:=d9;have Z:qj _:=hW;clear hL hC g1 d9 hk M hg hP hx hz hB hW T
 go_enter func77,ntmps77
 go_upto_region 1 with fail
 rw [<- Z.o];clear Z;go_wp2_with fail
 refine Calls.m b7.o ?_;rintro e u1 ⟨rfl,b1⟩;have I:=Aa (d3.o.below b1);have F:=Aa (a5.o.t (.of b1 d3.o.lt));have g8:=Aa (h7.o.below b1);have g7:=Aa (Kw _ _ d0.o (b1.m d0.o.size));clear b1 v0 v1 d3 a5 h7 d0 b7
 by_cases hc:C=0
 ·subst hc
  have g6:qj (qi 106 #[qh K,qd L] u1 (DoR E0 B K F0 b L u1)) :=
   iDo_any kn0 a8.o (λb q ao cap rs w h1 h2 h3 h4 h5=>Abs kn0 a8.o b q ao cap rs w h1 h2 h3 h4 h5) b q L u1 I.o g7.o b0.o (by have:=d4.o;omega) (λh=>absurd h (i2.o rfl))
  go_wp2_with fail
  refine Calls.m g6.o ?_;rintro e u2 ⟨⟨sb,cd⟩,q2,v,hs,rfl,hv,a3,p2⟩;have k7:Aec E0 b cd v:=hv;have HS:=Aa hs;have D:=Aa a3;have G:=Aa (F.o.t p2)
  have g9:qj (Hl u2):=by
   have h:=g8.o;unfold Hl at h
   exact (p2.b.c 2 0 (jd (by decide) a8.o)).t h
  have b4:qj (Hk sb):=by
   by_cases O:cd=0
   ·subst O
    exact Agi (by have:=d4.o;omega) b0.o hs
   ·have e:sb=b:=Aig hs O
    rw [qj,e];exact b0.o
  have k5:0<=cd/\cd<=1010:=Agq hs;have HV:=Aa k7;clear hs hv k7 a3 p2 g6 I F g8 g7 a8 d4
  rcases HV.o with ⟨O,rfl⟩|⟨O,y,hy,rfl⟩
  ·have HR:=Aa (HM.o _ (.inr ⟨by trivial,(sb,cd),HS.o,by rw [if_pos O]⟩))
   clear HV HM O k5;go_wp2;go_ret;exact ⟨(sb,0),q2,HR.o,rfl,b4.o,D.o,G.o⟩
  ·have HR:=Aa (HM.o _ (.inr ⟨by trivial,(sb,cd),HS.o,by rw [if_neg O]⟩))
   have g4:=Aa (vQ u2 HV.o g9.o)
   have hw:IntKind.i64.wrap (10+cd)=10+cd:=Afs (by omega) (by omega)
   clear HV HM O hy k5 HS;go_wp2_with fail
   refine Calls.m g4.o ?_;rintro e u3 ⟨rfl,b3⟩;have a7:=Aa (D.o.below b3);have a4:=Aa (G.o.t (.of b3 D.o.lt));clear b3 g4 D G g9;go_wp2;go_ret;exact ⟨(sb,10+cd),q2,HR.o,rfl,b4.o,a7.o,a4.o⟩
 ·have HR:=Aa (HM.o _ (.inl ⟨hc,rfl⟩))
  have o4:(C == 0)=false:=by simpa using hc
  have o7:(C != 0)=true:=by simpa using hc
  clear hc HM;go_wp2;go_ret;exact ⟨(b,C),q,HR.o,rfl,b0.o,I.o,F.o⟩
def TaW (B K:Nat) (b:Bk) (ms:List U2) (w:ql) (e:Ending) (w':ql):Prop :=
 ∃ (A:Bk) (q:Bp) (rj:List (Int×Int)) (v:Value),e=.returned v/\J3 (Yo (Ip F0)) 0 b ms A rj/\Hk A/\KS B K 0 A q w'/\w'.ownsRow w.heap.size 70 2 v rj.length (Oa rj)/\C5 B w w'
theorem bJ {B K:Nat} (hB:17<=B) (b:Bk) (q:Bp) (d:List MV) (a:qm) (cap:Nat) (w:ql) (hk:KS B K 0 b q w) (M:E0 w) (hg:Hl w) (hP:Hk b) (hx:∀ u,C5 B w u->Dq u a d) (hm:∀ x ∈ d,MOk x) (hn:d.length<=1048576) :
  qi 34 #[qh K,qf a d.length cap] w (TaW B K b (As d) w):=by
 obtain ⟨i0,hi,n5,n7,n8⟩:=info_parts Afp
 have m9:=Aa λ(A:Bk) (q':Bp) (x:MV) (u:ql) (h1:KS B K 0 A q' u) (h2:E0 u) (h3:Hl u) (h4:Hk A) (h5:MOk x) (h6:Aw u x.ao x.fs)=>uO hB A q' x u h1 h2 h3 h4 h5 h6
 have HE:=Aa λu (h:C5 B w u)=>Kw _ _ M (h.b.m hB)
 have HG:=Aa λu (h:C5 B w u)=>(h.b.c 2 0 (jd (by decide) hB)).t hg
 have HX:=Aa hx;have HM:=Aa hm;have h8:=Aa hk;have i5:=Aa hP;have a5:=Aa hk.lt;have l9:=Aa (Bh d);have i7:qj (J3 (Yo (Ip F0)) 0 b ((As d).take 0) b []):=⟨rfl,rfl⟩;have i3:qj (w.ownsRow w.heap.size 70 2 qe 0 (Oa [])):=jh _ _ _ _;clear hk M hg hP hx hm hB
 go_enter func34,ntmps34
 go_wp2
 go_loopw [5,11] (λs i wr=>∃ (v:Value) (k:Nat) (A:Bk) (q':Bp) (rj:List (Int×Int)),v=s/\i=qzI (k:Int)/\k<=d.length/\rj.length<=k/\J3 (Yo (Ip F0)) 0 b ((As d).take k) A rj/\Hk A/\KS B K 0 A q' wr/\wr.ownsRow w.heap.size 70 2 v rj.length (Oa rj)/\C5 B w wr) (λ_ i _=>d.length - (intOf i).toNat)
 case atStart=>exact ⟨_,0,b,q,[],rfl,rfl,qw _,nL,i7.o,i5.o,h8.o,i3.o,C5.refl _ _⟩
 case round =>
  obtain ⟨v,k,b1,q1,rj,n3,rfl,hk,o9,J,k3,k0,b9,j7⟩:=hrel;subst n3;have Y:=Aa J;have d7:=Aa k3;have I:=Aa k0;have d5:=Aa b9;have F:=Aa j7;clear J k3 k0 b9 j7 i7 i3 h8 i5
  by_cases hlt:k<d.length
  ·have n2:(k:Int)<(d.length:Int):=by omega
   obtain ⟨x,b6⟩:=Ae (Gm d k)
   have i1:qj (MOk x):=by rw [<- b6];exact HM.o _ (I8 hlt)
   obtain ⟨gb,off,rfl,o8,j8,j9,g2⟩:=(HX.o wr F.o).at hlt;rw [b6] at j8 j9 g2
   have b8:qj ((As d).take (k+1)=(As d).take k++[x.m]):=by
    rw [qj,Xx _ _ (by rw [Bh];exact hlt),Ht hlt,b6];rfl
   have i9:qj (∀ r,Yo (Ip F0) b1 x.m r->J3 (Yo (Ip F0)) 0 b ((As d).take (k+1)) r.1 (if r.2=0 then rj else rj++[((k:Int),r.2)])):=λr hr=>by
    have h:=Sw Y.o hr;rw [b8.o]
    have e:(0+((As d).take k).length:Nat)=k:=by rw [List.length_take,Bh];omega
    rw [e] at h;exact h
   obtain ⟨W,hW⟩:=A0 (wr.alloc (.cells #[qzI x.kd,qf x.ao x.fs.length x.cap] 68))
   have T:BW wr W:=by rw [hW];exact bR.alloc nL _
   have v0:W.cell? ⟨wr.heap.size,0,none⟩=some (qzI x.kd):=by rw [hW];simp [go_sem]
   have v1:W.cell? ⟨wr.heap.size,1,none⟩=some (qf x.ao x.fs.length x.cap):=by rw [hW];simp [go_sem]
   have S:=Aa (F.o.t (.of T I.o.lt));have i4:=Aa (A5 d5.o T);have j1:=Aa (m9.o b1 q1 x W (I.o.below T) (HE.o W S.o) (HG.o W S.o) d7.o i1.o (g2.below T));have Z:=Aa hW;clear g2 hW T b6 Y d7 I d5 F i1 b8;go_upto_region 5 with fail
   rw [<- Z.o];clear Z;go_wp2_with fail
   refine Calls.m j1.o ?_;rintro e u2 ⟨⟨b2,c2⟩,q2,k6,rfl,k4,a3,p2⟩;have b5:=Aa (i9.o _ k6);have i6:=Aa k4;have D:=Aa a3;have G:=Aa (S.o.t p2)
   have V:=Aa (fL i4.o p2 (by decide))
   clear k6 k4 a3 p2 v0 v1 j8 j9 j1 S i4 i9
   by_cases O:c2=0
   ·subst O
    have N:=Aa b5.o;clear b5;go_wp2
    go_roundw
    case rel=>exact ⟨v,k+1,b2,q2,rj,rfl,by go_num,by omega,by omega,N.o,i6.o,D.o,V.o,G.o⟩
    case measure=>simp [intOf];omega
   ·have N:qj (J3 (Yo (Ip F0)) 0 b ((As d).take (k+1)) b2 (rj++[((k:Int),c2)])):=by have h:=b5.o;rw [if_neg O] at h;exact h
    have o3:(c2 == 0)=false:=by simpa using O
    have o1:(c2 != 0)=true:=by simpa using O
    have m7:=Aa G.o.b.size
    have l7:=Aa λj (hj:v.ownBlock=some j)=>(V.o.lt j hj).1
    clear O b5
    go_wp2_with (at_builtin;refine wpList_append_own _ rfl (.tmp 21) (.tmp 25) 41 rfl w.heap.size 70 i0 _ 2 16 underlying41 hi n5 n7 n8 rfl (by decide) _ _ _ rfl (V.o.alloc _) ⟨u2.heap.size,0,none⟩ 1 1 [qzI (k:Int),qzI c2] rfl rfl (World.news_of_block (heap_alloc_new u2 _)) (kH _ _) (by unfold maxLen;omega) (by omega) (by simp;have:=m7.o;omega) ?_;intro v5 w5 o5 g5 _)
    have bA:Below u2.heap.size u2 (u2.alloc (.cells #[qzI (k:Int),qzI c2] 70)):=bR.alloc nL _;have d2:=Aa ((D.o.below bA).rj g5 (V.o.alloc _));have c9:=Aa ((G.o.t (.of bA D.o.lt)).new g5 l7.o a5.o)
    have a9:qj (w5.ownsRow w.heap.size 70 2 v5 (rj++[((k:Int),c2)]).length (Oa (rj++[((k:Int),c2)]))):=by rw [qj,qv,Qt];exact o5
    have f:qj ((rj++[((k:Int),c2)]).length<=k+1):=by rw [qj,qv];simp;omega
    obtain ⟨o0,c8⟩:=Ae (rj++[((k:Int),c2)]);rw [c8] at N a9 f;clear o5 g5 bA c8 D G V;go_wp2
    go_roundw
    case rel=>exact ⟨v5,k+1,b2,q2,o0,rfl,by go_num,by omega,f.o,N.o,i6.o,d2.o,a9.o,c9.o⟩
    case measure=>simp [intOf];omega
  ·have n1:k=d.length:=by omega
   subst n1
   have n2:¬ (d.length:Int)<(d.length:Int):=by omega
   have HF:qj (TaW B K b (As d) w (.returned v) wr):=⟨b1,q1,rj,v,rfl,by have h:=Y.o;rwa [<- l9.o,List.take_length] at h,d7.o,I.o,d5.o,F.o⟩
   go_wp2;go_ret;exact HF.o
def SrR (b:Bk) (ms:List U2) (w:ql) (e:Ending) (w':ql):Prop :=
 ∃ (A:Bk) (q:Bp) (rj:List (Int×Int)) (v:Value),e=.returned (.tuple #[Fx A q,v])/\J3 (Yo (Ip F0)) 0 b ms A rj/\Hk A/\Ma w.heap.size A q w'/\w'.ownsRow w.heap.size 70 2 v rj.length (Oa rj)/\BW w w'
theorem V6 (b:Bk) (p:Bp) (d:List MV) (a:qm) (cap:Nat) (w:ql) (hx:Az w b p) (hP:Hk b) (hg:∀ l ∈ b.log,l.length<=1048576) (M:E0 w) (hT:Hl w) (k8:Dq w a d) (hm:∀ x ∈ d,MOk x) (hn:d.length<=1048576) :
  qi 9 #[Fx b p,qf a d.length cap] w (SrR b (As d) w):=by
 obtain ⟨X,hX⟩:=Ae w.heap.size;obtain ⟨R,hR⟩:=Ae (X+1);obtain ⟨U,hU⟩:=A0 ((w.alloc (.cells (qcB b p) 40)).alloc (.cells qzB 40))
 have H:qj (BW w U):=by rw [qj,hU];go_grown
 have g0:qj (ZQ X b p U):=by rw [qj,hU,<- hX];exact (Z6.new w _ _ _ _ _ _ _).below (bR.alloc nL _)
 have d8:qj (Z0 R U):=by
  have h:=Z6.new (w.alloc (.cells (qcB b p) 40)) (qzI 0) qe qe qe qe qe 40
  rw [qj,hU,<- hR,<- hX];simpa using h
 have f:=Aa d8.o.lt;have o2:=Aa g0.o.lt;have a6:=Aa (Kw _ _ M (H.o.m M.size));have j2:=Aa (hT.below H.o);have g3:=Aa (hx.below H.o);have d6:=Aa (uY kn0 b p U g3.o hP.sm hP.ref hg)
 have j5:=Aa λu (h:BW U u)=>(k8.below H.o).below h
 have h9:=Aa hm;have b4:=Aa hP;have j6:=Aa hX;have i8:=Aa hR;have j3:=Aa hU;unfold Fx at d6 ⊢;clear hx hP hg M hT hX hR hU k8 hm
 go_enter func9,ntmps9
 go_upto_region 1 with fail
 rw [<- j3.o,j6.o,i8.o];clear j3;obtain ⟨x0,x1,x2,x3,x4,x5,-,-,-,-,-,-⟩:=g0.o;go_wp2_with fail
 refine Calls.m d6.o ?_;rintro e w3 ⟨K,q,rfl,k9,p3⟩;have a7:=Aa k9;have a4:=Aa p3;have N:=Aa (d8.o.below p3);have l4:=Aa (Kw _ _ a6.o (p3.m a6.o.size));have m8:=Aa (j2.o.below p3);have j4:=Aa p3.size
 have j0:qj (qi 34 #[qh K,qf a d.length cap] w3 (TaW U.heap.size K b (As d) w3)) :=
  bJ a6.o.size b q d a cap w3 a7.o l4.o m8.o b4.o (λu h=>j5.o u (a4.o.t h.b)) h9.o hn
 clear k9 p3 d6 x0 x1 x2 x3 x4 x5 g3 g0 d8 a6 j2 hn j5 h9;go_wp2_with fail
 refine Calls.m j0.o ?_;rintro e w5 ⟨A,q',rj,v,rfl,J,hj,l1,k1,p5⟩;have d2:=Aa l1;have c9:=Aa (a4.o.t p5.b);have m5:=Aa (N.o.under p5.b f.o);have n0:=Aa J;have l5:=Aa hj;have a9:=Aa k1
 have d1:qj (qi 35 #[qh K] w5 λe w'=>e=.returned (Fx A q')/\KS U.heap.size K 0 A q' w'/\Below U.heap.size w5 w'/\w'.ownsRow w3.heap.size 70 2 v rj.length (Oa rj)):=(oP A q' w5 d2.o).m λe w' ⟨h1,h2,h3⟩=>⟨h1,h2,h3.b,fL a9.o h3 (by decide)⟩
 unfold Fx at d1;clear l1 p5 J hj k1 j0 N a7;go_wp2_with fail
 refine Calls.m d1.o ?_;rintro e w6 ⟨rfl,l2,p6,k2⟩;have l6:=Aa l2;have m6:=Aa (m5.o.under p6 f.o);have l3:=Aa (H.o.t ((c9.o.t p6).m H.o.size));have l8:=Aa k2;clear l2 p6 k2 d1;obtain ⟨t0,t1,t2,t3,t4,t5,s0,s1,s2,s3,s4,s5⟩:=m6.o;go_wp2
 refine bodyPost_ret (by simp [results,results9,go_sem,t0,t1,t2,t3,t4,t5];try rfl) rfl ?_
 have bel:=Bj (R:=R) (by have:=j6.o;have:=i8.o;omega) l3.o
 have o6:=l6.o.own5;have n9:=Es l8.o (jd f.o j4.o);exact ⟨A,q',rj,v,rfl,n0.o,l5.o,(Ma.mk (Es o6.off f.o _ _ _ _ _ _) (Es o6.az f.o _ _ _ _ _ _) (Es o6.cs f.o _ _ _ _ _ _) (Es o6.ls f.o _ _ _ _ _ _) (Es o6.log f.o _ _ _ _ _ _)).low H.o.size,Fj (n9 _ _ _ _ _ _) (jk H.o.size j4.o),bel _ _ _ _ _ _⟩
theorem bG {q:Bp} {n B:Nat} (h:FrB q n) (hB:B<n):iD q B:=⟨Bb h.o hB,Bb h.a hB,Bb h.c hB,Bb h.l hB,Bb h.g hB⟩
structure ES (R X:Nat) (b:Bk) (p:Bp) (w u:ql):Prop where
 z:ZQ X b p u
 r:Z0 R u
 bk:Az u b p
 oR:iD p R
 hb:BW w u
 hR:w.heap.size<=R
 hX:w.heap.size<=X
 ne:X≠R
theorem ES.below {R X:Nat} {b:Bk} {p:Bp} {w u i:ql} (h:ES R X b p w u) (hb:BW u i):ES R X b p w i:=⟨h.z.below hb,h.r.below hb,h.bk.below hb,h.oR,next h.hb hb,h.hR,h.hX,h.ne⟩
theorem ES.put {R X n:Nat} {b d:Bk} {p q:Bp} {w u:ql} (h:ES R X b p w u) (hk:Az u d q) (f:FrB q n) (hn:X<n) (hm:R<n) :
  ES R X d q w ((((((u.setCell (qzA X 0) (qzI d.today)).setCell (qzA X 1) (qf q.o d.off.length q.oc)).setCell (qzA X 2) (qf q.a d.az.length q.ac)).setCell (qzA X 3) (qf q.c d.cs.length q.cc)).setCell (qzA X 4) (qf q.l d.ls.length q.lc)).setCell (qzA X 5) (qf q.g d.log.length q.gc)) :=
 ⟨(((((h.z.set0 _).set1 _).set2 _).set3 _).set4 _).set5 _,h.r.far6 h.ne _ _ _ _ _ _,hk.put6 (bG f hn) _ _ _ _ _ _,bG f hm,Bj h.hX h.hb _ _ _ _ _ _,h.hR,h.hX,h.ne⟩
theorem nY {H:Type} {enc:TypeId×Value->H} {P:Program} {w:ql} {base:Nat} {sp:Nat->Bool} {held:Bool} {fuel:Nat} {t e:TypeId} {n:Nat} {cs:List Value} {zs:List qn} {p:List MemPlace}
  (ht:P.underlying t=some (.array n e)) (he:P.underlying e=some .string) (hce:P.cellsOf e=1) (hct:P.cellsOf t=n)
  (h:DataW.trod enc P w base sp held fuel t cs=some (DataW.agg (zs.map λz=>.lit (.string z)),p)):cs=zs.map λz=>Value.string ⟨z.toArray⟩:=by
 cases fuel with
 | zero=>simp [DataW.trod] at h
 | succ fuel =>
  simp only [DataW.trod,ht,hce,hct,Nat.mul_one] at h
  split at h
  ·rename_i hl
   obtain ⟨xs,hm,hx⟩:=Option.map_eq_some_iff.1 h
   have O:xs.map (·.1)=zs.map λz=>(DataW.lit (.string z):DataW H):=by
    have:=congrArg Prod.fst hx
    simpa using this
   have a7:xs.length=n:=by simpa using Lib.mapM_length hm
   have a8:zs.length=n:=by
    have:=congrArg List.length O
    simp at this
    omega
   apply List.ext_getElem?;intro i
   by_cases hi:i<n
   ·obtain ⟨b,hb,hf⟩:=Lib.mapM_at hm i i (by simp [hi])
    obtain ⟨z,S,rfl,_⟩:=DataW.trod_string he hf
    have G:cs[i]?=some (.string z):=by
     have:=congrArg (·[0]?) S
     simpa [List.getElem?_take,List.getElem?_drop] using this
    have M:(xs.map (·.1))[i]?=some (DataW.lit (.string z.data.toList):DataW H):=by simp [hb]
    rw [O] at M
    simp only [List.getElem?_map,Option.map_eq_some_iff,DataW.lit.injEq,Lit.string.injEq] at M
    obtain ⟨z',a6,e⟩:=M;subst e
    simp [G,a6]
   ·rw [jl (by omega),jl (by simp;omega)]
  ·cases h
theorem Aga:(Rows.laid_loop_example_g00126_impl_actWords:DataW Unit)=DataW.agg (G7.map λz=>.lit (.string z)):=by kernel_rfl
theorem Aag : prog.globalNamed "loop.example/g00126/impl.actWords" = some 3 := by kernel_rfl
theorem Agj:(prog.globals[3]?).map (·.type)=some 266:=by kernel_rfl
theorem wO {rest : List (String × DataW Unit)} {w : ql} (h : laidMet prog (("loop.example/g00126/impl.actWords", Rows.laid_loop_example_g00126_impl_actWords) :: rest) w) : ∀ k, k < 10 -> w.cell? ⟨3, k, none⟩ = some (qd (Ao G7 k)) := by
 rw [Aga] at h;obtain ⟨J,⟨g',t',cs,fuel,p,q,X,a4,N,hd,_,_⟩,_⟩:=h;obtain rfl:=Option.some.inj (Aag.s.t X);obtain rfl:=Option.some.inj (Agj.s.t a4)
 have S:=nY underlying266 underlying9 (by kernel_rfl) (by kernel_rfl) hd
 obtain ⟨l⟩:=cs
 simp only at S
 subst S;intro k hk;rw [World.var?_cell Aag N k]
 have:k=0\/k=1\/k=2\/k=3\/k=4\/k=5\/k=6\/k=7\/k=8\/k=9:=by omega
 rcases this with rfl|rfl|rfl|rfl|rfl|rfl|rfl|rfl|rfl|rfl <;> rfl
theorem Afu : "*" ++ "errors.errorString" = "*errors.errorString" := by decide
theorem Adn (u : TypeId) (h : prog.typeName? 3 u = some "*errors.errorString") : u = 423 :=
 typeName_ptr_named (nm := "errors.errorString") (by rw [Afu]; kernel_rfl) (by kernel_rfl) (by decide) u (by rw [Afu]; exact h)
theorem tS:prog.cellsOf 441=1:=by kernel_rfl
theorem xO:prog.cellsOf 9=1:=by kernel_rfl
theorem Kf {n : String} {text : qn} {r : List (String × DataW Unit)} {W : ql} {g : Nat} (h : laidMet prog ((n, .iface "*errors.errorString" (.ptr (.agg [.lit (.string text)]))) :: r) W) (I : prog.globalNamed n = some g) (ht : (prog.globals[g]?).map (·.type) = some 160) :
  ∃ t a,W.cell? (qzA g 0)=some (.iface t (.pointer (some a))):=by
 obtain ⟨a,_,T,_⟩:=laid_sentinel h I ht underlying160 Adn underlying423 underlying441 rfl rfl underlying9 tS xO
 exact ⟨_,a,by rw [World.var?_cell I T 0];rfl⟩
theorem Ahx:(Rows.laid_internal_strconv_uint64pow10:DataW Unit)=Lib.tabData .u64 Lib.pow10Tab:=by kernel_rfl
theorem Ab4 {w : ql} {r : List (String × DataW Unit)} (G : laidMet prog (("internal/strconv.uint64pow10", Rows.laid_internal_strconv_uint64pow10) :: r) w) : Lib.TabIs prog w "internal/strconv.uint64pow10" .u64 Lib.pow10Tab := by
 rw [Ahx] at G
 exact Lib.tabIs_of_head (g:=13) (t:=391) (by kernel_rfl) (by kernel_rfl) underlying391 underlying373 (by kernel_rfl) (by kernel_rfl) G
theorem Abt {n:String} {d:DataW Unit} {r:List (String×DataW Unit)} {w:ql} {g:Nat} (h:laidMet prog ((n,d)::r) w) (I:prog.globalNamed n=some g):g<w.heap.size:=by
 obtain ⟨_,⟨_,_,_,_,_,_,_,_,L,_⟩,_⟩:=h;unfold World.var? at L
 simp only [I,Option.bind_some] at L
 rcases Nat.lt_or_ge g w.heap.size with U|U
 ·exact U
 ·rw [Array.getElem?_eq_none U] at L;simp at L
theorem Ae4 {rest r2 : List (String × DataW Unit)} {w : ql} (hp : laidMet prog (("internal/strconv.uint64pow10", Rows.laid_internal_strconv_uint64pow10) :: r2) w) (h : laidMet prog (("loop.example/g00126/impl.stepDays", Rows.laid_loop_example_g00126_impl_stepDays) :: ("loop.example/g00126/impl.errLine", Rows.laid_loop_example_g00126_impl_errLine) :: ("loop.example/g00126/impl.errLogFull", Rows.laid_loop_example_g00126_impl_errLogFull) :: ("loop.example/g00126/impl.errCasesFull", Rows.laid_loop_example_g00126_impl_errCasesFull) :: ("loop.example/g00126/impl.errAuth", Rows.laid_loop_example_g00126_impl_errAuth) :: ("loop.example/g00126/impl.errDay", Rows.laid_loop_example_g00126_impl_errDay) :: ("loop.example/g00126/impl.errCase", Rows.laid_loop_example_g00126_impl_errCase) :: ("loop.example/g00126/impl.errMoney", Rows.laid_loop_example_g00126_impl_errMoney) :: ("loop.example/g00126/impl.errAct", Rows.laid_loop_example_g00126_impl_errAct) :: ("loop.example/g00126/impl.actWords", Rows.laid_loop_example_g00126_impl_actWords) :: rest) w) (hsh : w.ShapedOpen prog) (hs : 17 <= w.heap.size) : E0 w := by
 have a3:=uW h
 have B:=Kf (g:=1) (h.tail) (by kernel_rfl) (by kernel_rfl)
 have f:=Kf (g:=0) (h.tail.tail) (by kernel_rfl) (by kernel_rfl)
 have c:=Kf (g:=6) (h.tail.tail.tail) (by kernel_rfl) (by kernel_rfl)
 have o:=Kf (g:=5) (h.tail.tail.tail.tail) (by kernel_rfl) (by kernel_rfl)
 have F:=Kf (g:=4) (h.tail.tail.tail.tail.tail) (by kernel_rfl) (by kernel_rfl)
 have A:=Kf (g:=7) (h.tail.tail.tail.tail.tail.tail) (by kernel_rfl) (by kernel_rfl)
 have m:=Kf (g:=8) (h.tail.tail.tail.tail.tail.tail.tail) (by kernel_rfl) (by kernel_rfl)
 have D:=Kf (g:=9) (h.tail.tail.tail.tail.tail.tail.tail.tail) (by kernel_rfl) (by kernel_rfl)
 exact ⟨hs,a3,Ab4 hp,cell_of_shapedOpen_int (zero:=#[.int .i64 0]) (t:=3) hsh (of_decide_eq_true (by kernel_rfl)) (by kernel_rfl) rfl (by kernel_rfl) (by kernel_rfl) underlying3,f,B,F,o,c,A,m,D,wO h.tail.tail.tail.tail.tail.tail.tail.tail.tail⟩
def qD (P:Program) (C:List String):Bool:=C.all λn=>((P.globalNamed n).bind λg=>(P.globals[g]?).map λx=>P.readableRec x.type && decide (x.type<P.types.size)) == some true
theorem bD {H:Type} {enc:TypeId×Value->H} {W W':ql} (hb:BW W W'):∀ (C:List String) (gs:List (DataW H)) (q:List MemPlace),qD prog C=true->DataW.TrodVars enc prog W (λ_=>true) C gs q->DataW.TrodVars enc prog W' (λb=>decide (b<W.heap.size)) C gs q
 | [],[],q,_,h=>h
 | n::C,d::ds,J,T,h=>by
  obtain ⟨g,t,cs,fuel,p,q,I,ht,L,hd,j,Z⟩:=h
  simp only [qD,List.all_cons,jf] at T
  obtain ⟨G,M⟩:=T;obtain ⟨x,hx,a5⟩:=Option.map_eq_some_iff.1 ht;rw [I] at G
  simp only [Option.bind_some,hx,Option.map_some] at G
  have R:(prog.readableRec x.type && decide (x.type<prog.types.size))=true:=by simpa using G
  rw [a5] at R
  simp only [jf,decide_eq_true_eq] at R
  have Y:∀ y ∈ p,y.block<W.heap.size:=DataW.trod_lt fuel _ _ _ hd
  obtain ⟨f',V⟩:=Below.trod Sc R.1 R.2 (v:=.agg cs) (⟨fuel,hd⟩:DataW.Trod enc prog W 0 (λ_=>true) true t (.agg cs) d p) hb Y
  refine ⟨g,t,cs,f',p,q,I,ht,?_,V,bD hb C ds q M j,Z⟩;exact Acv L hb
theorem bS {H:Type} {enc:TypeId×Value->H} {w:ql} {sp:Nat->Bool} {n1 n2 n3 n4 n5 n6 n7 n8 n9 n10:String} {gs:List (DataW H)} {J:List MemPlace} (h:DataW.TrodVars enc prog w sp [n1,n2,n3,n4,n5,n6,n7,n8,n9,n10] gs J) :
  ∃ y1 y2 y3 y4 y5 y6 y7 y8 y9 y10,gs=[y1,y2,y3,y4,y5,y6,y7,y8,y9,y10]:=by
 have len:∀ (C:List String) (gs:List (DataW H)) (J:List MemPlace),DataW.TrodVars enc prog w sp C gs J->gs.length=C.length:=by
  intro C
  induction C with
  | nil=>intro gs J h;cases gs with
   | nil=>rfl
   | cons a b=>simp [DataW.TrodVars] at h
  | cons n C ih=>intro gs J h;cases gs with
   | nil=>simp [DataW.TrodVars] at h
   | cons a b =>
    obtain ⟨g,t,cs,fuel,p,q,_,_,_,_,j,_⟩:=h
    simp [ih _ _ j]
 have hl:=len _ _ _ h
 match gs,hl with
 | [y1,y2,y3,y4,y5,y6,y7,y8,y9,y10],_=>exact ⟨y1,y2,y3,y4,y5,y6,y7,y8,y9,y10,rfl⟩
theorem etM : prog.globalNamed "errors.errorType" = some 2 := by kernel_rfl
theorem rtM : (prog.cutTypes.find? (·.1 == "internal/reflectlite.rtype")).map (·.2) = some 279 := by kernel_rfl
theorem Aee:((List.range 452).filter λt=>prog.rowNamed t [101,114,114,111,114])=[160]:=by kernel_rfl
theorem Ah4:prog.types.size=452:=by kernel_rfl
theorem vB {W : ql} (h : handlesMet prog [("errors.errorType", Rows.laid_errors_errorType)] W) : Hl W := by
 obtain ⟨name,u,i,e1,e2,e3,b,a⟩:=h _ (List.mem_singleton.2 rfl);have c:=(Option.some.inj e1).s;subst c;obtain rfl:=Option.some.inj (rtM.s.t e2)
 have hm:i ∈ (List.range 452).filter λt=>prog.rowNamed t [101,114,114,111,114]:=List.mem_filter.2 ⟨List.mem_range.2 (by rw [<- Ah4];exact e3),b⟩
 rw [Aee] at hm;obtain rfl:=List.mem_singleton.1 hm
 have f:typeHandle prog 160=.pointer (some (qzA 17 160)):=by kernel_rfl
 rw [f] at a;unfold Hl
 simpa using World.var?_cell etM a 0
theorem cD {P:Program} {w0:ql} {laid:List (String×DataW Unit)} (args:Array Value) (d:w0.layFits P laid []=true) (hi:w0.layIfaces P laid (w0.layVars P laid)=true) :
  laidMet P laid ((w0.layVars P laid).forCall (λ_ _=>0) ⟨#[],args,[]⟩).memory:=by
 have e1:(laid.filter λx=>(laid.map (·.1)).contains x.1)=laid:=List.filter_eq_self.2 λx hx=>List.contains_iff_mem.2 (List.mem_map.2 ⟨x,hx,rfl⟩)
 have e2:(laid.filter λx=>!(laid.map (·.1)).contains x.1)=[]:=List.filter_eq_nil_iff.2 λx hx=>by rw [List.contains_iff_mem.2 (List.mem_map.2 ⟨x,hx,rfl⟩)];simp
 have h:=laidMet_layVars (w0:=w0) (laid.map (·.1)) [] (by rw [e1]) (by rw [e1];exact d) (by rw [e1];exact hi) (by rw [e2];exact LaidIn.none)
 exact h.of_heap (by simp [World.memory,World.forCall,Input.heap])
theorem zO {w : ql} (h : laidMet prog [("math/bits.deBruijn32tab", Rows.laid_math_bits_deBruijn32tab), ("math/bits.deBruijn64tab", Rows.laid_math_bits_deBruijn64tab), ("internal/strconv.uint64pow10", Rows.laid_internal_strconv_uint64pow10), ("unicode/utf8.acceptRanges", Rows.laid_unicode_utf8_acceptRanges), ("loop.example/g00126/impl.stepDays", Rows.laid_loop_example_g00126_impl_stepDays), ("loop.example/g00126/impl.errLine", Rows.laid_loop_example_g00126_impl_errLine), ("loop.example/g00126/impl.errLogFull", Rows.laid_loop_example_g00126_impl_errLogFull), ("loop.example/g00126/impl.errCasesFull", Rows.laid_loop_example_g00126_impl_errCasesFull), ("loop.example/g00126/impl.errAuth", Rows.laid_loop_example_g00126_impl_errAuth), ("loop.example/g00126/impl.errDay", Rows.laid_loop_example_g00126_impl_errDay), ("loop.example/g00126/impl.errCase", Rows.laid_loop_example_g00126_impl_errCase), ("loop.example/g00126/impl.errMoney", Rows.laid_loop_example_g00126_impl_errMoney), ("loop.example/g00126/impl.errAct", Rows.laid_loop_example_g00126_impl_errAct), ("loop.example/g00126/impl.actWords", Rows.laid_loop_example_g00126_impl_actWords), ("unicode/utf8.first", Rows.laid_unicode_utf8_first)] w /\ handlesMet prog [("errors.errorType", Rows.laid_errors_errorType)] w) (hsh : w.ShapedOpen prog) : E0 w /\ Hl w :=
 ⟨Ae4 h.1.tail.tail h.1.tail.tail.tail.tail hsh (Abt h.1.tail (g:=16) (by kernel_rfl)),vB h.2⟩
end Kb
end Go.Proofs.YtfpafnefpmmofaaGreatDoor
