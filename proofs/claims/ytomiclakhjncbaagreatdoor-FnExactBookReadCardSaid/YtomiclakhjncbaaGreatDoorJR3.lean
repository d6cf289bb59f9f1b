import Derived.Test.YtomiclakhjncbaaGreatDoorKAICaseDo
import Derived.Test.YtomiclakhjncbaaGreatDoorKRKbOpen
import Derived.Test.YtomiclakhjncbaaGreatDoorKRCaMk
namespace Go.Proofs.YtomiclakhjncbaaGreatDoor.Kb
open Go.RowKit Go.Proofs.Tryz
set_option maxRecDepth 100000
set_option maxHeartbeats 12800000
theorem Be {w w':World} {n:String} {g G:Nat} {cs:Array Value} (h:w.var? prog n=some cs) (hg:prog.globalNamed n=some g) (hG:g<G) (hb:Below G w w'):w'.var? prog n=some cs:=by
 unfold World.var? at *
 simp only [hg,Option.bind_some] at h ⊢
 rw [hb.block g hG];exact h
structure E0 (w:World):Prop where
 size:17≤w.heap.size
 step:StepTab w
 pow : Lib.TabIs prog w "internal/strconv.uint64pow10" .u64 Lib.pow10Tab
 max:∃ m,w.cell? ⟨10,0,none⟩=some (.int .i64 m)
 eFull:∃ t a,w.cell? ⟨1,0,none⟩=some (.iface t (.pointer (some a)))
 eLine:∃ t a,w.cell? ⟨3,0,none⟩=some (.iface t (.pointer (some a)))
 eDay:∃ t a,w.cell? ⟨4,0,none⟩=some (.iface t (.pointer (some a)))
 eAuth:∃ t a,w.cell? ⟨5,0,none⟩=some (.iface t (.pointer (some a)))
 eCases:∃ t a,w.cell? ⟨6,0,none⟩=some (.iface t (.pointer (some a)))
 eCase:∃ t a,w.cell? ⟨7,0,none⟩=some (.iface t (.pointer (some a)))
 eMoney:∃ t a,w.cell? ⟨8,0,none⟩=some (.iface t (.pointer (some a)))
 eAct:∃ t a,w.cell? ⟨9,0,none⟩=some (.iface t (.pointer (some a)))
 words:∀ k,k<10→w.cell? ⟨0,k,none⟩=some (.string ⟨(nth actsW k).toArray⟩)
theorem Bs (w:World) (q:Nat) (os:Array Obj):Below w.heap.size w (Go.Sort.grow (w.drewN q) os) :=
 ⟨rfl,rfl,rfl,by simp [Go.Sort.grow,World.drewN],fun k hk=>by simp [Go.Sort.grow,World.drewN,Array.getElem?_append,hk]⟩
theorem Al (w w':World) (h:E0 w) (hb:Below 17 w w'):E0 w':=by
 have k:∀ (g i:Nat) (v:Value),g<17→w.cell? ⟨g,i,none⟩=some v→w'.cell? ⟨g,i,none⟩=some v:=fun g i v hg hc=>(hb.cell (p:=⟨g,i,none⟩) hg).trans hc
 obtain ⟨m,hm⟩:=h.max;obtain ⟨teFull,aeFull,heFull⟩:=h.eFull;obtain ⟨teLine,aeLine,heLine⟩:=h.eLine;obtain ⟨teDay,aeDay,heDay⟩:=h.eDay;obtain ⟨teAuth,aeAuth,heAuth⟩:=h.eAuth;obtain ⟨teCases,aeCases,heCases⟩:=h.eCases;obtain ⟨teCase,aeCase,heCase⟩:=h.eCase;obtain ⟨teMoney,aeMoney,heMoney⟩:=h.eMoney;obtain ⟨teAct,aeAct,heAct⟩:=h.eAct
 exact ⟨Nat.le_trans h.size hb.size,Be h.step (g:=16) (by kernel_rfl) (by decide) hb,Be h.pow (g:=13) (by kernel_rfl) (by decide) hb,⟨m,k _ _ _ (by decide) hm⟩,⟨_,_,k _ _ _ (by decide) heFull⟩,⟨_,_,k _ _ _ (by decide) heLine⟩,⟨_,_,k _ _ _ (by decide) heDay⟩,⟨_,_,k _ _ _ (by decide) heAuth⟩,⟨_,_,k _ _ _ (by decide) heCases⟩,⟨_,_,k _ _ _ (by decide) heCase⟩,⟨_,_,k _ _ _ (by decide) heMoney⟩,⟨_,_,k _ _ _ (by decide) heAct⟩,fun i hi=>k _ _ _ (by decide) (h.words i hi)⟩
theorem Am {x:Int} (h:N18 x):wf64 x:=WalkArith.wf_i64 (by obtain ⟨h1,h2⟩:=h;omega)
theorem wf_bd {x:Int} (h:wf64 x):-9223372036854775808≤x∧x≤9223372036854775807:=by
 simp [wf64,Lit.wf,IntKind.min,IntKind.max,IntKind.signed,IntKind.bits] at h;omega
theorem Dd {iss acq cur am day:Int} (h1:N18 iss) (h2:N18 acq) (h3:N18 cur) (h4:N18 am):∀ x ∈ startE iss acq cur am day,enBd x:=by
 intro x hx;unfold startE at hx
 split at hx
 ·simp at hx;subst hx;exact ⟨Am h1,Am h2,Am h3,Am h4⟩
 ·cases hx
theorem Bm {c:Cs} {n:Int} (hc:csBd c) (hn:wf64 n):(∀ x ∈ toIss c n,enBd x)∧(∀ x ∈ fromIss c n,enBd x):=by
 obtain ⟨h1,h2,h3,-⟩:=hc
 refine ⟨fun x hx=>?_,fun x hx=>?_⟩
 ·unfold toIss at hx
  split at hx
  ·cases hx
  ·simp at hx;subst hx;exact ⟨h2,h1,h3,hn⟩
 ·unfold fromIss at hx
  split at hx
  ·cases hx
  ·simp at hx;subst hx;exact ⟨h1,h2,h3,hn⟩
theorem Cg {c:Cs} {n:Int} (hc:csBd c) (hn:wf64 n):∀ x ∈ ruleE c n,enBd x:=by
 intro x hx;unfold ruleE at hx
 rcases List.mem_append.1 hx with hx | hx
 ·exact (Bm hc hn).1 x hx
 ·simp at hx;subst hx
  obtain ⟨h1,h2,h3,-⟩:=hc
  refine ⟨?_,(show wf64 9999 from wf_small (by omega)),h3,(show wf64 50000 from wf_small (by omega))⟩
  show wf64 (loser c n)
  unfold loser
  split
  ·exact h2
  ·exact h1
theorem Dv {c:Cs} {a:Ac} {t:Int} {zs:List Int} (hc:csBd c) (ha:N18 a.am):∀ x ∈ doE c a t zs,enBd x:=by
 intro x hx;have hcl:wf64 c.cl:=hc.2.2.2.2.2.2.1
 have hhf:wf64 (c.cl / 2):=WalkArith.wf_i64 (by have:=wf_bd hcl;omega)
 unfold doE at hx
 split at hx
 ·unfold nextE at hx
  split at hx
  ·exact (Bm hc (Am ha)).1 x hx
  split at hx
  ·exact (Bm hc (Am ha)).2 x hx
  split at hx
  ·exact (Bm hc hcl).1 x hx
  split at hx
  ·exact Cg hc (Am ha) x hx
  split at hx
  ·unfold expireE at hx
   split at hx
   ·cases hx
   split at hx
   ·exact (Bm hc hcl).1 x hx
   split at hx
   ·exact Cg hc hhf x hx
   ·cases hx
  ·cases hx
 ·cases hx
theorem Db {az:List Au} {i c a d x:Int} (h:BestAt az i c a d x):-1≤x:=by
 rcases h with ⟨-,h⟩ | ⟨-,rfl⟩
 ·rcases h with ⟨rfl,-⟩ | ⟨k,-,rfl,-⟩ <;> omega
 ·omega
theorem Ea:KnI F0 E0 17 where
 keep:=Al
 size:=fun w h=>h.size
 num:=fun l w h=>(Tg.iNumOf_any l w (by omega)).mono (fun e w' ⟨h1,h2⟩=>⟨h1,by rw [h2];exact bR⟩)
 dec:=fun m w h hE=>(strconv_Itoa m (by omega) (by omega) w hE.pow).mono (fun e w' hw=>by
  obtain ⟨rfl,k,os,rfl⟩:=hw
  exact ⟨by rw [Lib.itoa,if_neg (by omega)];rfl,Bs w k os⟩)
 clone:=fun l w h=>clone_any l w (by omega)
 split:=fun l w h hE=>by obtain ⟨m,hm⟩:=hE.max;exact kSplit l m w h hm
 eFull:=fun w h=>h.eFull
 eLine:=fun w h=>h.eLine
 eDay:=fun w h=>h.eDay
 eAuth:=fun w h=>h.eAuth
 eCases:=fun w h=>h.eCases
 eCase:=fun w h=>h.eCase
 eMoney:=fun w h=>h.eMoney
 eAct:=fun w h=>h.eAct
 words:=fun w h=>h.words
 prune:=fun ao cap az t w h hn hd=>iPrune_any ao cap az t w h (by omega) (fun a ha=>by have:=hd a ha;omega)
 use:=fun ao cap az i w h hn hd=>iUse_any ao cap az i w h (by omega) (fun a ha=>by have:=hd a ha;omega)
 add:=fun ao cap az a w h hn hd hl hc=>iAdd10_any ao cap az a w h hn (fun x hx=>by have:=hd x hx;omega) (by omega) (Am hc)
 best:=fun ao cap az iss cur am day w h hn hd hc w3 w4=>iBest_any ao cap az iss cur am day w h hn (fun a ha=>by have:=hd a ha;omega) hc w3 w4
 start:=fun iss acq cur am day w h=>iStart_any iss acq cur am day w (Am h)
 small:=fun iss acq cur am day=>⟨by have:=startE_len iss acq cur am day;show (startE iss acq cur am day).length≤1048576;omega,fun h1 h2 h3 h4=>Dd h1 h2 h3 h4⟩
 act:=fun c a t ao cp zs w h hn hE hc=>Go.Proofs.YtomiclakhjncbaaGreatDoor.iDo_any c a t ao cp zs w h (by omega) hE.step (by have:=hE.size;omega) hc.2.2.1
 few:=fun c a t zs=>⟨by have:=doE_len c a t zs;show (doE c a t zs).length≤1048576;omega,fun h1 h2=>Dv h1 h2⟩
 low:=fun az i c a d x h=>Db h
 stay:=fun ls es h=>by
  show allL ls es=ls
  have h':(postsL ls es).isSome=false:=h;unfold allL
  cases hp:postsL ls es with
  | none=>rfl
  | some g=>rw [hp] at h';cases h'
 code:=fun c a t zs=>by have:=doV_bd c a t zs;show 0≤doV c a t zs∧doV c a t zs≤1000;omega
 post:=fun ao cap ls eo ec es w h hn hb hy hm he=>iPostAll_any ao cap ls eo ec es w h hn hb hy hm he
def Ad (t:Int) (zs:List Int):Bk:=⟨t,zs,[],[],[],[]⟩
def At (t:Int) (zs:List Int) (rs:Recs) (b':Bk) (n:Int):Prop :=
 if bsOk t zs=true then ∃ k:Nat,n=(k:Int)∧k≤rs.length∧Did F0 (Ad t zs) (rs.take k) b'∧(k<rs.length→∃ r,DoRl F0 b' (nth rs k) r∧r.2≠0) else b'=Ad 0 []∧n = -1
structure Ae (B:Nat) (b:Bk) (q:Bp) (u:World):Prop where
 off:u.ownsRow B 3 1 (.slice q.o b.off.length q.oc) b.off.length (b.off.map (Value.int .i64))
 az:u.ownsRow B 107 6 (.slice q.a b.az.length q.ac) b.az.length (acells b.az)
 cs:u.ownsRow B 61 12 (.slice q.c b.cs.length q.cc) b.cs.length (cscells b.cs)
 ls:u.ownsRow B 113 3 (.slice q.l b.ls.length q.lc) b.ls.length (lcells b.ls)
 log:u.ownsRow B 9 1 (.slice q.g b.log.length q.gc) b.log.length (scells b.log)
theorem Ae.at {B:Nat} {b:Bk} {q:Bp} {u:World} (h:Ae B b q u):BookAt u b q:=⟨ints_own h.off,auths_any h.az,cases_own h.cs,lines_any h.ls,txts_any h.log⟩
theorem Ae.below {B:Nat} {b:Bk} {q:Bp} {u u':World} (h:Ae B b q u) (hb:BW u u'):Ae B b q u':=⟨keepL h.off hb,keepL h.az hb,keepL h.cs hb,keepL h.ls hb,keepL h.log hb⟩
theorem Ae.low {B B':Nat} {b:Bk} {q:Bp} {u:World} (h:Ae B b q u) (hb:B'≤B):Ae B' b q u:=⟨own_low h.off hb,own_low h.az hb,own_low h.cs hb,own_low h.ls hb,own_low h.log hb⟩
theorem KS.own5 {B K:Nat} {st:Int} {b:Bk} {q:Bp} {u:World} (h:KS B K st b q u):Ae B b q u:=⟨h.off,h.az,h.cs,h.ls,h.log⟩
def D0 (t:Int) (zs:List Int) (rs:Recs) (w:World) (e:Ending) (w':World):Prop :=
 ∃ (b':Bk) (n:Int) (q:Bp),e=.returned (.tuple #[bkv b' q,.int .i64 n])∧At t zs rs b' n∧JW b'∧Ae w.heap.size b' q w'∧BW w w'
theorem D7:ledgerOk []=true:=by decide
theorem A8 {t:Int} {zs:List Int} (h:bsOk t zs=true):JW (Ad t zs):=by
 simp only [bsOk,offOk,Bool.and_eq_true,decide_eq_true_eq] at h
 exact ⟨⟨(by show zs.length≤1000;omega),nL,nL,(fun a ha=>nomatch ha),(fun a ha=>nomatch ha),D7,h.1⟩,(by show 0≤600;omega),(fun a ha=>nomatch ha)⟩
theorem Di:JW (Ad 0 []):=A8 (by decide)
theorem Dg (b:Bk) (l:List UInt8) (b2:Bk) (hl:l.length<1048576) (h:JW b) (hd:DoRl F0 b l (b2,0)) (hx:∃ r,BkRel Rel0 b l r):JW b2:=by
 obtain ⟨r,hr⟩:=hx;have h1:=(do_agree hd hr).1
 have h2:=jw_do h (by omega) hr
 rw [← h1] at h2;exact h2
theorem C6 (b:Bk) (l:List UInt8) {r:Bk×Int} (h:DoRl F0 b l r):∃ r',BkRel Rel0 b l r':=by
 unfold DoRl at h
 split at h
 ·exact ⟨(b,2),.inl ⟨‹_›,rfl⟩⟩
 ·rename_i hf
  obtain ⟨r0,h0,-⟩:=h
  have hs:∃ s,Rel0 b l s:=by
   unfold Rel0 LineRel
   split
   ·exact ⟨_,rfl⟩
   split
   ·split
    ·exact ⟨_,rfl⟩
    ·exact ⟨_,rfl⟩
   split
   ·rename_i hp
    split
    ·rename_i hn
     unfold WordsI at h0
     simp only [isPay,Bool.and_eq_true,decide_eq_true_eq] at hp
     have e0:=hp.1
     rw [if_neg (by rw [e0];decide),if_neg (by rw [e0];decide),if_pos e0] at h0
     unfold PayRl at h0
     rw [if_pos ⟨hn,by rw [List.length_drop];omega⟩] at h0
     obtain ⟨x,hx,-⟩:=h0;obtain ⟨a,c,d,e,f,hws⟩:=len_five hp.2;rw [hws] at hx ⊢;exact ⟨_,x,hx,rfl⟩
    ·exact ⟨_,rfl⟩
   split
   ·split
    ·exact ⟨_,rfl⟩
    ·exact ⟨_,rfl⟩
   ·exact ⟨_,rfl⟩
  obtain ⟨s,hs⟩:=hs
  by_cases hc:s.2=0
  ·exact ⟨_,.inr ⟨by omega,s,hs,.inr ⟨hc,rfl⟩⟩⟩
  ·exact ⟨_,.inr ⟨by omega,s,hs,.inl ⟨hc,rfl⟩⟩⟩
theorem Cz (t:Int) (ao:Option Addr) (c:Nat) (zs:List Int) (lo:Option Addr) (lc:Nat) (rs:Recs) (w:World) (hx:IntsAt w ao zs) (hn:zs.length≤1048576) (hz:TxtsAt w lo rs) (hm:rs.length≤1048576) (hd:∀ r ∈ rs,r.length<1048576) (hE:E0 w) :
  Calls prog 14 #[.int .i64 t,.slice ao zs.length c,.slice lo rs.length lc] w (D0 t zs rs w):=by
 obtain ⟨R,hR⟩:∃ R,w.heap.size=R:=⟨_,rfl⟩;obtain ⟨W,hW⟩:∃ W,W=w.alloc (.cells #[.int .i64 0,.slice none 0 0,.slice none 0 0,.slice none 0 0,.slice none 0 0,.slice none 0 0] 31):=⟨_,rfl⟩
 have HBW:Hid (BW w W):=by rw [Hid,hW];exact bR.alloc nL _
 have HZ0:Hid (Z0 R W):=by rw [Hid,hW,← hR];exact Z6.new w _ _ _ _ _ _ _
 have HST:Hid (Calls prog 44 #[.int .i64 t,.slice ao zs.length c] W (BsR W t zs)):=iBStart_any t ao c zs W (hx.below HBW.out) hn;have HTX:Hid (TxtsAt w lo rs):=hz
 have HTL:Hid (rs≠[]→∀ x,lo=some x→x.block<w.heap.size):=fun hne x hx=>by
  rcases hz with h | ⟨g,off,h1,h2,_⟩
  ·exact absurd h hne
  ·rw [h1] at hx;injection hx with hx;subst hx;exact h2
 have HE:Hid (E0 w):=hE;have HD:Hid (∀ r ∈ rs,r.length<1048576):=hd;have HRR:Hid _:=hR;have HWW:Hid _:=hW;clear hx hz hE hd hR hW
 go_enter func14,ntmps14
 go_wp2_with fail
 rw [← HWW.out];refine Calls.mono HST.out ?_;rintro e w1 ⟨a,k,rfl,o1,p1⟩;rw [HRR.out];have HB1:Hid (BW w w1):=next HBW.out p1;have HZ1:Hid (Z0 R w1):=HZ0.out.below p1;have HSW:Hid (R<W.heap.size):=HZ0.out.lt;have HS1:Hid (W.heap.size≤w1.heap.size):=p1.size;clear p1 HST HWW HZ0
 cases hok:bsOk t zs
 ·have e1:bsT t zs=0:=if_neg (by rw [hok];decide)
  have e2:bsL t zs=[]:=if_neg (by rw [hok];decide)
  rw [e1,e2]
  simp only [List.length_nil]
  unfold bk0;obtain ⟨U,hU⟩:∃ U,U=w1.alloc (.cells #[.int .i64 0,.slice a 0 k,.slice none 0 0,.slice none 0 0,.slice none 0 0,.slice none 0 0] 31):=⟨_,rfl⟩
  have HBU:Hid (BW w U):=by rw [Hid,hU];exact HB1.out.alloc HB1.out.size _
  have HZU:Hid (Z0 R U):=by rw [Hid,hU];exact HZ1.out.below (bR.alloc nL _)
  have HQ:Hid (At t zs rs (Ad 0 []) (-1)):=by rw [Hid,At,if_neg (by rw [hok];decide)];exact ⟨rfl,rfl⟩
  have HU:Hid _:=hU;clear hU e1 e2 hok o1;go_upto_region 2 with fail
  rw [← HU.out];obtain ⟨t0,t1,t2,t3,t4,t5,s0,s1,s2,s3,s4,s5⟩:=HZU.out;go_wp2
  refine bodyPost_ret (by simp [results,results14,go_sem,t0,t1,t2,t3,t4,t5];try rfl) rfl ?_
  have bel:=put6_below (R:=R) (by rw [HRR.out];exact nL) HBU.out
  exact ⟨Ad 0 [],-1,⟨none,0,none,0,none,0,none,0,none,0⟩,rfl,HQ.out,Di,⟨World.ownsRow_nil _ _ _ _,World.ownsRow_nil _ _ _ _,World.ownsRow_nil _ _ _ _,World.ownsRow_nil _ _ _ _,World.ownsRow_nil _ _ _ _⟩,bel _ _ _ _ _ _⟩
 ·have e1:bsT t zs=t:=if_pos hok
  have e2:bsL t zs=zs:=if_pos hok;rw [e1,e2];rw [e2] at o1;unfold bk0;obtain ⟨U,hU⟩:∃ U,U=w1.alloc (.cells #[.int .i64 t,.slice a zs.length k,.slice none 0 0,.slice none 0 0,.slice none 0 0,.slice none 0 0] 31):=⟨_,rfl⟩;obtain ⟨X,hX⟩:∃ X,w1.heap.size=X:=⟨_,rfl⟩
  have HBU:Hid (BW w U):=by rw [Hid,hU];exact HB1.out.alloc HB1.out.size _
  have HZU:Hid (Z0 R U):=by rw [Hid,hU];exact HZ1.out.below (bR.alloc nL _)
  have HXU:Hid (Z6 X (.int .i64 t) (.slice a zs.length k) (.slice none 0 0) (.slice none 0 0) (.slice none 0 0) (.slice none 0 0) U):=by rw [Hid,hU,← hX];exact Z6.new w1 _ _ _ _ _ _ _
  have HEU:Hid (E0 U):=Al _ _ HE.out (HBU.out.mono HE.out.size)
  have hof:zs.length≤400:=by
   have h:=hok
   simp only [bsOk,offOk,Bool.and_eq_true,decide_eq_true_eq] at h
   exact h.2.1
  have HOP:Hid (Calls prog 50 #[.agg #[.int .i64 t,.slice a zs.length k,.slice none 0 0,.slice none 0 0,.slice none 0 0,.slice none 0 0]] U (D8 (Ad t zs) U)) :=
   Ct Ea (Ad t zs) ⟨a,k,none,0,none,0,none,0,none,0⟩ U ⟨by rw [hU];exact ints_own (keepL o1 (bR.alloc nL _)),.inl rfl,.inl rfl,.inl rfl,.inl rfl⟩ ⟨by show zs.length≤1048576;omega,Nat.zero_le _,Nat.zero_le _,Nat.zero_le _,Nat.zero_le _⟩ (fun a ha=>nomatch ha) (fun a ha=>nomatch ha)
  have HRU:Hid (R<U.heap.size):=HZU.out.lt;have HJ:Hid (JW (Ad t zs)):=A8 hok
  have HQ:Hid (∀ (m:Nat) (b':Bk),m≤rs.length→Did F0 (Ad t zs) (rs.take m) b'→(m<rs.length→∃ r,DoRl F0 b' (nth rs m) r∧r.2≠0)→At t zs rs b' (m:Int)):=fun m b' h1 h2 h3=>by rw [At,if_pos hok];exact ⟨m,rfl,h1,h2,h3⟩
  have HU:Hid _:=hU;have HXX:Hid _:=hX;clear hU hX e1 e2 hok o1;go_upto_region 2 with fail
  rw [← HU.out,HXX.out];obtain ⟨x0,x1,x2,x3,x4,x5,-,-,-,-,-,-⟩:=HXU.out;go_wp2_with fail
  refine Calls.mono HOP.out ?_;rintro e w3 ⟨K,q,rfl,ks3,p3⟩;have HK3:Hid (KS U.heap.size K 0 (Ad t zs) q w3):=ks3;have HB3:Hid (BW w w3):=next HBU.out p3;have HZ3:Hid (Z0 R w3):=HZU.out.below p3;have HE3:Hid (E0 w3):=Al _ _ HE.out (HB3.out.mono HE.out.size)
  have HDU:Hid (Calls prog 51 #[.pointer (some ⟨K,0,none⟩),.slice lo rs.length lc] w3 (UnR U.heap.size K F0 JW (Ad t zs) rs w3)) :=
   iUntil_any Ea (Nat.le_trans HE.out.size HBU.out.size) (fun b h=>jw_pre h) (fun b l b2 hl h hd=>Dg b l b2 hl h hd (C6 b l hd)) (Ad t zs) q lo lc rs w3 HK3.out HE3.out HJ.out (HTX.out.below HB3.out) (fun hne x hx=>Nat.lt_of_lt_of_le (HTL.out hne x hx) HBU.out.size) hm HD.out
  clear ks3 p3 HOP x0 x1 x2 x3 x4 x5 HXU;go_wp2_with fail
  refine Calls.mono HDU.out ?_;rintro e w4 ⟨m,b',q',rfl,hm1,hm2,hm3,hj,ks4,p4⟩;have HK4:Hid (KS U.heap.size K 0 b' q' w4):=ks4;have HZ4:Hid (Z0 R w4):=HZ3.out.under p4 HRU.out;have HB4:Hid (BW w w4):=HB3.out.trans (p4.mono HBU.out.size);have HJ4:Hid (JW b'):=hj;have HQ4:Hid (At t zs rs b' (m:Int)):=HQ.out m b' hm1 hm2 hm3
  have HHO:Hid (Calls prog 52 #[.pointer (some ⟨K,0,none⟩)] w4 fun e w'=>e=.returned (bkv b' q')∧KS U.heap.size K 0 b' q' w'∧Below U.heap.size w4 w'):=iHand_any b' q' w4 HK4.out
  unfold bkv at HHO;clear ks4 p4 hj hm1 hm2 hm3 HDU HQ;go_wp2_with fail
  refine Calls.mono HHO.out ?_;rintro e w5 ⟨rfl,ks5,p5⟩;have HK5:Hid (KS U.heap.size K 0 b' q' w5):=ks5;have HZ5:Hid (Z0 R w5):=HZ4.out.under p5 HRU.out;have HB5:Hid (BW w w5):=HB4.out.trans (p5.mono HBU.out.size);clear ks5 p5 HHO;obtain ⟨t0,t1,t2,t3,t4,t5,s0,s1,s2,s3,s4,s5⟩:=HZ5.out;go_wp2
  refine bodyPost_ret (by simp [results,results14,go_sem,t0,t1,t2,t3,t4,t5];try rfl) rfl ?_
  have bel:=put6_below (R:=R) (by rw [HRR.out];exact nL) HB5.out
  have o5:=HK5.out.own5;exact ⟨b',m,q',rfl,HQ4.out,HJ4.out,(Ae.mk (put6_row o5.off HRU.out _ _ _ _ _ _) (put6_row o5.az HRU.out _ _ _ _ _ _) (put6_row o5.cs HRU.out _ _ _ _ _ _) (put6_row o5.ls HRU.out _ _ _ _ _ _) (put6_row o5.log HRU.out _ _ _ _ _ _)).low HBU.out.size,bel _ _ _ _ _ _⟩
def An:Bk→Recs→Bk→Prop
 | b,[],b'=>b'=b
 | b,l::ls,b'=>∃ b1,BkRel Rel0 b l (b1,0)∧An b1 ls b'
theorem Ba {l:List UInt8} {b1 b2:Bk} : ∀ {b:Bk} {ls:Recs},An b ls b1→BkRel Rel0 b1 l (b2,0)→An b (ls++[l]) b2
 | b,[],h,hd=>by
  rw [An] at h;subst h
  exact ⟨b2,hd,by rw [An]⟩
 | b,x::xs,h,hd=>by
  obtain ⟨b3,h3,h4⟩:=h;exact ⟨b3,h3,Ba h4 hd⟩
theorem Bt {c:Bk} : ∀ {b:Bk} {xs ys:Recs},An b (xs++ys) c→∃ d,An b xs d∧An d ys c
 | b,[],ys,h=>⟨b,by rw [An],h⟩
 | b,x::xs,ys,h=>by
  obtain ⟨b1,h1,h2⟩:=h;obtain ⟨d,h3,h4⟩:=Bt h2;exact ⟨d,⟨b1,h1,h3⟩,h4⟩
theorem Cj {F:Fns} {c:Bk} : ∀ {b:Bk} {xs ys:Recs},Did F b (xs++ys) c→∃ d,Did F b xs d∧Did F d ys c
 | b,[],ys,h=>⟨b,by rw [Did],h⟩
 | b,x::xs,ys,h=>by
  obtain ⟨b1,h1,h2⟩:=h;obtain ⟨d,h3,h4⟩:=Cj h2;exact ⟨d,⟨b1,h1,h3⟩,h4⟩
theorem Bx {ws:Recs} {r r':Bk×Int} (h:Agr ws r r'):r.2=0 ↔ r'.2=0:=by
 rcases h.2 with e | ⟨e1,e2,_⟩
 ·rw [e]
 ·rw [e1,e2];decide
theorem Av:∀ {b:Bk} {ls:Recs} {b1 b2:Bk},Did F0 b ls b1→An b ls b2→b1=b2
 | b,[],b1,b2,h,h'=>by
  rw [Did] at h;rw [An] at h';rw [h,h']
 | b,x::xs,b1,b2,h,h'=>by
  obtain ⟨c1,d1,e1⟩:=h;obtain ⟨c2,d2,e2⟩:=h'
  have:c1=c2:=(do_agree d1 d2).1
  subst this;exact Av e1 e2
def Ag (t:Int) (zs:List Int) (rs:Recs) (b':Bk) (n:Int):Prop :=
 if bsOk t zs=true then ∃ k:Nat,n=(k:Int)∧k≤rs.length∧An (Ad t zs) (rs.take k) b'∧(k<rs.length→∃ r,BkRel Rel0 b' (nth rs k) r∧r.2≠0) else b'=Ad 0 []∧n = -1
theorem A7 (rs:Recs) {k m:Nat} (h:k<m) (hm:m≤rs.length):∃ ys,rs.take m=rs.take k++nth rs k::ys:=by
 refine ⟨(rs.drop (k+1)).take (m - (k+1)),?_⟩
 have h1:rs.take m=rs.take (k+1)++(rs.drop (k+1)).take (m - (k+1)):=by
  rw [← List.take_add];congr 1;omega
 rw [h1,takeNth rs k (by omega),List.append_assoc]
 rfl
theorem Bh {t:Int} {zs:List Int} {rs:Recs} {b b':Bk} {n n':Int} (h:At t zs rs b n) (h':Ag t zs rs b' n'):b=b'∧n=n':=by
 unfold At at h;unfold Ag at h'
 split at h
 ·rename_i hok
  rw [if_pos hok] at h';obtain ⟨k,rfl,hk,d,st⟩:=h;obtain ⟨m,rfl,hm,d',st'⟩:=h'
  rcases Nat.lt_trichotomy k m with hlt | rfl | hlt
  ·obtain ⟨ys,hys⟩:=A7 rs hlt hm
   rw [hys] at d';obtain ⟨c,d1,b1,d2,-⟩:=Bt d';have hb:b=c:=Av d d1;subst hb
   obtain ⟨r,hr,hr0⟩:=st (by omega)
   exact absurd ((Bx (do_agree hr d2)).2 rfl) hr0
  ·exact ⟨Av d d',rfl⟩
  ·obtain ⟨ys,hys⟩:=A7 rs hlt hk
   rw [hys] at d;obtain ⟨c,d1,b1,d2,-⟩:=Cj d;have hb:c=b':=Av d1 d';subst hb
   obtain ⟨r,hr,hr0⟩:=st' (by omega)
   exact absurd ((Bx (do_agree d2 hr)).1 rfl) hr0
 ·rename_i hok
  rw [if_neg hok] at h';exact ⟨h.1.trans h'.1.symm,h.2.trans h'.2.symm⟩
def D6 (t:Int) (zs:List Int) (rs:Recs) (w:World) (e:Ending) (w':World):Prop :=
 ∃ (b':Bk) (n:Int) (q:Bp),e=.returned (.tuple #[bkv b' q,.int .i64 n])∧Ag t zs rs b' n∧BookAt w' b' q∧BW w w'
def D9 (t:Int) (zs:List Int) (rs:Recs) (w:World) (e:Ending) (w':World):Prop :=
 ∃ (b':Bk) (n:Int) (q:Bp),e=.returned (.tuple #[bkv b' q,.int .i64 n])∧Ag t zs rs b' n∧BookAt w' b' q∧BW w w'∧FrB q w.heap.size
structure AS (R X:Nat) (b:Bk) (p:Bp) (w u:World):Prop where
 z:ZB X b p u
 r:Z0 R u
 bk:BookAt u b p
 oX:OffB p X
 oR:OffB p R
 hb:BW w u
 hR:w.heap.size=R
 hX:R<X
 fr:FrB p R
theorem AS.below {R X:Nat} {b:Bk} {p:Bp} {w u u':World} (h:AS R X b p w u) (hb:BW u u'):AS R X b p w u':=⟨h.z.below hb,h.r.below hb,h.bk.below hb,h.oX,h.oR,next h.hb hb,h.hR,h.hX,h.fr⟩
theorem A5 {q:Bp} {n B:Nat} (h:FrB q n) (hB:B<n):OffB q B:=⟨fresh_off h.o hB,fresh_off h.a hB,fresh_off h.c hB,fresh_off h.l hB,fresh_off h.g hB⟩
theorem AS.put {R X n:Nat} {b b2:Bk} {p q:Bp} {w u:World} (h:AS R X b p w u) (hk:BookAt u b2 q) (hf:FrB q n) (hn:X<n) :
  AS R X b2 q w ((((((u.setCell ⟨X,0,none⟩ (.int .i64 b2.today)).setCell ⟨X,1,none⟩ (.slice q.o b2.off.length q.oc)).setCell ⟨X,2,none⟩ (.slice q.a b2.az.length q.ac)).setCell ⟨X,3,none⟩ (.slice q.c b2.cs.length q.cc)).setCell ⟨X,4,none⟩ (.slice q.l b2.ls.length q.lc)).setCell ⟨X,5,none⟩ (.slice q.g b2.log.length q.gc)):=by
 have h1:=h.hX;have h2:=h.hR
 refine ⟨(((((h.z.set0 _).set1 _).set2 _).set3 _).set4 _).set5 _,h.r.far6 (by omega) _ _ _ _ _ _,hk.put6 (A5 hf hn) _ _ _ _ _ _,A5 hf hn,A5 hf (by omega),?_,h.hR,h.hX,⟨fr_mono hf.o (by omega),fr_mono hf.a (by omega),fr_mono hf.c (by omega),fr_mono hf.l (by omega),fr_mono hf.g (by omega)⟩⟩
 exact (((((h.hb.setCell (p:=⟨X,0,none⟩) (by show _≤X;omega) _).setCell (p:=⟨X,1,none⟩) (by show _≤X;omega) _).setCell (p:=⟨X,2,none⟩) (by show _≤X;omega) _).setCell (p:=⟨X,3,none⟩) (by show _≤X;omega) _).setCell (p:=⟨X,4,none⟩) (by show _≤X;omega) _).setCell (p:=⟨X,5,none⟩) (by show _≤X;omega) _
theorem Dp {b:Bk} (h:JW b):Pre0 b:=⟨(jw_pre h).sm,(jw_pre h).ref,(jw_pre h).day⟩
theorem Dl {V u2:World} {t:TypeId} (bb:Below (V.alloc (.cells #[.int .i64 0,.slice none 0 0,.slice none 0 0,.slice none 0 0,.slice none 0 0,.slice none 0 0] t)).drew.heap.size (V.alloc (.cells #[.int .i64 0,.slice none 0 0,.slice none 0 0,.slice none 0 0,.slice none 0 0,.slice none 0 0] t)).drew u2) :
  Z6 V.heap.size (.int .i64 0) (.slice none 0 0) (.slice none 0 0) (.slice none 0 0) (.slice none 0 0) (.slice none 0 0) u2∧BW V u2 :=
 ⟨((Z6.new V _ _ _ _ _ _ t).below (bR.drew)).below bb,Below.trans (((Below.refl V.heap.size V).alloc nL _).drew) (bb.mono (by simp))⟩
theorem Bb (t:Int) (ao:Option Addr) (c:Nat) (zs:List Int) (lo:Option Addr) (lc:Nat) (rs:Recs) (w:World) (hx:IntsAt w ao zs) (hn:zs.length≤1048576) (hz:TxtsAt w lo rs) (hm:rs.length≤1048576) (hd:∀ r ∈ rs,r.length<1048576) :
  Calls prog 11 #[.int .i64 t,.slice ao zs.length c,.slice lo rs.length lc] w (D9 t zs rs w):=by
 obtain ⟨R,hR⟩:∃ R,w.heap.size=R:=⟨_,rfl⟩;obtain ⟨W,hW⟩:∃ W,W=w.alloc (.cells #[.int .i64 0,.slice none 0 0,.slice none 0 0,.slice none 0 0,.slice none 0 0,.slice none 0 0] 31):=⟨_,rfl⟩
 have HBW:Hid (BW w W):=by rw [Hid,hW];exact bR.alloc nL _
 have HZ0:Hid (Z0 R W):=by rw [Hid,hW,← hR];exact Z6.new w _ _ _ _ _ _ _
 have HST:Hid (Calls prog 45 #[.int .i64 t,.slice ao zs.length c] W (BsR W t zs)):=sBStart_any t ao c zs W (hx.below HBW.out) hn;have HTX:Hid (TxtsAt w lo rs):=hz;have HD:Hid (∀ r ∈ rs,r.length<1048576):=hd;have HRR:Hid _:=hR;have HWW:Hid _:=hW;clear hx hz hd hR hW
 go_enter func11,ntmps11
 go_wp2_with fail
 rw [← HWW.out];refine Calls.mono HST.out ?_;rintro e w1 ⟨a,k,rfl,o1,p1⟩;rw [HRR.out];have HB1:Hid (BW w w1):=next HBW.out p1;have HZ1:Hid (Z0 R w1):=HZ0.out.below p1;have HSW:Hid (R<W.heap.size):=HZ0.out.lt;have HS1:Hid (W.heap.size≤w1.heap.size):=p1.size;clear p1 HST HWW HZ0
 cases hok:bsOk t zs
 ·have e1:bsT t zs=0:=if_neg (by rw [hok];decide)
  have e2:bsL t zs=[]:=if_neg (by rw [hok];decide)
  rw [e1,e2]
  simp only [List.length_nil]
  unfold bk0;obtain ⟨U,hU⟩:∃ U,U=w1.alloc (.cells #[.int .i64 0,.slice a 0 k,.slice none 0 0,.slice none 0 0,.slice none 0 0,.slice none 0 0] 31):=⟨_,rfl⟩
  have HBU:Hid (BW w U):=by rw [Hid,hU];exact HB1.out.alloc HB1.out.size _
  have HZU:Hid (Z0 R U):=by rw [Hid,hU];exact HZ1.out.below (bR.alloc nL _)
  have HQ:Hid (Ag t zs rs (Ad 0 []) (-1)):=by rw [Hid,Ag,if_neg (by rw [hok];decide)];exact ⟨rfl,rfl⟩
  have HU:Hid _:=hU;clear hU e1 e2 hok o1;go_upto_region 2 with fail
  rw [← HU.out];obtain ⟨t0,t1,t2,t3,t4,t5,s0,s1,s2,s3,s4,s5⟩:=HZU.out;go_wp2
  refine bodyPost_ret (by simp [results,results11,go_sem,t0,t1,t2,t3,t4,t5];try rfl) rfl ?_
  have bel:=put6_below (R:=R) (by rw [HRR.out];exact nL) HBU.out
  exact ⟨Ad 0 [],-1,⟨none,0,none,0,none,0,none,0,none,0⟩,rfl,HQ.out,⟨.inl rfl,.inl rfl,.inl rfl,.inl rfl,.inl rfl⟩,bel _ _ _ _ _ _,⟨(fun x hx=>nomatch hx),(fun x hx=>nomatch hx),(fun x hx=>nomatch hx),(fun x hx=>nomatch hx),(fun x hx=>nomatch hx)⟩⟩
 ·have e1:bsT t zs=t:=if_pos hok
  have e2:bsL t zs=zs:=if_pos hok;rw [e1,e2];rw [e2] at o1;unfold bk0;obtain ⟨U,hU⟩:∃ U,U=w1.alloc (.cells #[.int .i64 t,.slice a zs.length k,.slice none 0 0,.slice none 0 0,.slice none 0 0,.slice none 0 0] 31):=⟨_,rfl⟩;obtain ⟨X,hX⟩:∃ X,w1.heap.size=X:=⟨_,rfl⟩
  have HAS:Hid (AS R X (Ad t zs) ⟨a,k,none,0,none,0,none,0,none,0⟩ w U):=by
   have bA:BW w1 U:=by rw [hU];exact bR.alloc nL _
   have hna:∀ B',Off1 none B':=fun B' x hx=>nomatch hx
   have hfr:=own_fresh o1
   have hlt:Off1 a X:=fun x hx e=>by
    have:=own_ahead o1 nL x hx
    omega
   refine ⟨by rw [hU,← hX];exact Z6.new w1 _ _ _ _ _ _ _,HZ1.out.below bA,⟨ints_own (keepL o1 bA),.inl rfl,.inl rfl,.inl rfl,.inl rfl⟩,⟨hlt,hna _,hna _,hna _,hna _⟩,⟨fresh_off hfr HSW.out,hna _,hna _,hna _,hna _⟩,next HB1.out bA,HRR.out,?_,⟨fr_mono hfr (Nat.le_of_lt HSW.out),(fun x hx=>nomatch hx),(fun x hx=>nomatch hx),(fun x hx=>nomatch hx),(fun x hx=>nomatch hx)⟩⟩
   have:=HSW.out
   have:=HS1.out
   omega
  have HJ:Hid (JW (Ad t zs)):=A8 hok
  have HD0:Hid (An (Ad t zs) (rs.take 0) (Ad t zs)):=by rw [Hid,List.take_zero,An]
  have HQ:Hid (∀ (m:Nat) (b':Bk),m≤rs.length→An (Ad t zs) (rs.take m) b'→(m<rs.length→∃ r,BkRel Rel0 b' (nth rs m) r∧r.2≠0)→Ag t zs rs b' (m:Int)):=fun m b' h1 h2 h3=>by rw [Ag,if_pos hok];exact ⟨m,rfl,h1,h2,h3⟩
  have HU:Hid _:=hU;have HXX:Hid _:=hX;clear hU hX e1 e2 hok o1;go_upto_region 2 with fail
  rw [← HU.out,HXX.out];clear HU HXX HZ1 HB1 HSW HS1 HBW;go_wp2
  go_loopw [10] (fun i wr=>∃ (j:Nat) (b:Bk) (p:Bp),j≤rs.length∧i=.int .i64 (j:Int)∧An (Ad t zs) (rs.take j) b∧JW b∧AS R X b p w wr) (fun i _=>rs.length - (intOf i).toNat)
  case atStart=>exact ⟨0,_,_,Nat.zero_le _,rfl,HD0.out,HJ.out,HAS.out⟩
  case round =>
   obtain ⟨j,b,p,hj,rfl,hdid,hjw,has⟩:=hrel;have HAA:Hid (AS R X b p w wr):=has;have HDD:Hid (An (Ad t zs) (rs.take j) b):=hdid;have HJJ:Hid (JW b):=hjw;clear has hdid hjw HAS HJ HD0
   by_cases hlt:j<rs.length
   ·have hji:(j:Int)<(rs.length:Int):=by omega
    obtain ⟨gb,off,rfl,hgb,hcell⟩:∃ gb off,lo=some ⟨gb,off,none⟩∧gb<wr.heap.size∧wr.cell? ⟨gb,off+j,none⟩=some (.string ⟨(nth rs j).toArray⟩):=by
     rcases HTX.out.below HAA.out.hb with h | ⟨gb,off,h1,h2,h3⟩
     ·rw [h] at hlt;simp at hlt
     ·exact ⟨gb,off,h1,h2,h3 j hlt⟩
    have HDC:Hid (∀ u,BookAt u b p→Calls prog 31 #[.agg #[.int .i64 b.today,.slice p.o b.off.length p.oc,.slice p.a b.az.length p.ac,.slice p.c b.cs.length p.cc,.slice p.l b.ls.length p.lc,.slice p.g b.log.length p.gc],.string ⟨(nth rs j).toArray⟩] u (BoF Rel0 b (nth rs j) u)):=fun u h=>sBookDoF_any doKnown0 b p (nth rs j) u h (Dp HJJ.out) (by have:=HD.out _ (nth_mem hlt);omega)
    have HNX:Hid (∀ b2,BkRel Rel0 b (nth rs j) (b2,0)→JW b2∧An (Ad t zs) (rs.take (j+1)) b2):=fun b2 h=>⟨jw_do HJJ.out (by have:=HD.out _ (nth_mem hlt);omega) h,by rw [takeNth rs j hlt];exact Ba HDD.out h⟩
    have HRE:Hid (∀ r,BkRel Rel0 b (nth rs j) r→r.2≠0→Ag t zs rs b (j:Int)):=fun r h hc=>HQ.out j b hj HDD.out (fun _=>⟨r,h,hc⟩)
    obtain ⟨ln,hln⟩:∃ x,nth rs j=x:=⟨_,rfl⟩;rw [hln] at hcell HDC HNX HRE;clear hln
    have HSS:Hid (∀ u,BW wr u→u.cell? ⟨X,0,none⟩=some (.int .i64 b.today)∧u.cell? ⟨X,1,none⟩=some (.slice p.o b.off.length p.oc)∧u.cell? ⟨X,2,none⟩=some (.slice p.a b.az.length p.ac)∧u.cell? ⟨X,3,none⟩=some (.slice p.c b.cs.length p.cc)∧u.cell? ⟨X,4,none⟩=some (.slice p.l b.ls.length p.lc)∧u.cell? ⟨X,5,none⟩=some (.slice p.g b.log.length p.gc)∧u.cell? ⟨gb,off+j,none⟩=some (.string ⟨ln.toArray⟩)):=fun u h=>by
     have z:=HAA.out.z.below h;exact ⟨z.c0,z.c1,z.c2,z.c3,z.c4,z.c5,(h.cell (p:=⟨gb,off+j,none⟩) hgb).trans hcell⟩
    have k0:BW wr wr:=bR;have HP1:Hid (BookAt wr.drew b p):=HAA.out.bk.below (bR.drew);have HP2:Hid (BookAt (wr.alloc (.cells #[.int .i64 0,.slice none 0 0,.slice none 0 0,.slice none 0 0,.slice none 0 0,.slice none 0 0] 31)).drew b p):=HAA.out.bk.below (((Below.refl wr.heap.size wr).alloc nL _).drew);clear hcell;go_upto_region 7 with fail
    go_cut [11,12] (fun v11 v12 wc=>∃ (Y:Nat) (b2:Bk) (q2:Bp) (code:Int),v11=.pointer (some ⟨Y,0,none⟩)∧v12=.int .i64 code∧BkRel Rel0 b ln (b2,code)∧ZB Y b2 q2 wc∧BookAt wc b2 q2∧FrB q2 wr.heap.size∧BW wr wc)
    case first =>
     go_region_held3 (fun u=>u.cell? ⟨X,0,none⟩=some (.int .i64 b.today)∧u.cell? ⟨X,1,none⟩=some (.slice p.o b.off.length p.oc)∧u.cell? ⟨X,2,none⟩=some (.slice p.a b.az.length p.ac)∧u.cell? ⟨X,3,none⟩=some (.slice p.c b.cs.length p.cc)∧u.cell? ⟨X,4,none⟩=some (.slice p.l b.ls.length p.lc)∧u.cell? ⟨X,5,none⟩=some (.slice p.g b.log.length p.gc)∧u.cell? ⟨gb,off+j,none⟩=some (.string ⟨ln.toArray⟩)) (first | with_reducible exact HSS.out _ hb2 | with_reducible exact HSS.out _ k0 | with_reducible exact HSS.out _ k0.drew | with_reducible exact HSS.out _ (k0.alloc nL _) | with_reducible exact HSS.out _ ((k0.alloc nL _).drew) | with_reducible exact HSS.out _ (hb2.alloc hb2.size _) | with_reducible exact HSS.out _ (put6_below nL hb2 _ _ _ _ _ _)) ((first
      | (go_at_call 31;(with_reducible refine Calls.mono (HDC.out wr.drew HP1.out) ?_);rintro e u2 ⟨⟨b2,code⟩,q2,hrel,rfl,hbk,bb,hfr⟩;have hb2:BW wr u2:=Below.trans ((Below.refl wr.heap.size wr).drew) bb;unfold bkv;simp only)
      | (go_at_call 31;(with_reducible refine Calls.mono (HDC.out (wr.alloc (.cells #[.int .i64 0,.slice none 0 0,.slice none 0 0,.slice none 0 0,.slice none 0 0,.slice none 0 0] 31)).drew HP2.out) ?_);rintro e u2 ⟨⟨b2,code⟩,q2,hrel,rfl,hbk,bb,hfr⟩;obtain ⟨hzy,hb2⟩:=Dl bb;have HZY:Hid _:=hzy;obtain ⟨g0,g1,g2,g3,g4,g5,m0,m1,m2,m3,m4,m5⟩:=hzy;unfold bkv;simp only)))
     ·go_wp2_with fail
      go_meet;have h1:=hb2.alloc hb2.size (.cells #[.int .i64 b2.today,.slice q2.o b2.off.length q2.oc,.slice q2.a b2.az.length q2.ac,.slice q2.c b2.cs.length q2.cc,.slice q2.l b2.ls.length q2.lc,.slice q2.g b2.log.length q2.gc] 31);exact ⟨u2.heap.size,b2,q2,code,rfl,rfl,hrel,Z6.new u2 _ _ _ _ _ _ _,hbk.below (bR.alloc nL _),⟨hfr.o,hfr.a,hfr.c,hfr.l,hfr.g⟩,h1⟩
     ·go_wp2_with fail
      go_meet
      have hf2:FrB q2 (wr.heap.size+1):=by simpa using hfr
      exact ⟨wr.heap.size,b2,q2,code,rfl,rfl,hrel,(((((HZY.out.set0 _).set1 _).set2 _).set3 _).set4 _).set5 _,hbk.put6 (A5 hf2 (Nat.lt_succ_self _)) _ _ _ _ _ _,⟨fr_mono hf2.o (Nat.le_succ _),fr_mono hf2.a (Nat.le_succ _),fr_mono hf2.c (Nat.le_succ _),fr_mono hf2.l (Nat.le_succ _),fr_mono hf2.g (Nat.le_succ _)⟩,put6_below nL hb2 _ _ _ _ _ _⟩
    case rest =>
     obtain ⟨V,hV⟩:∃ x,x=wc:=⟨_,rfl⟩;subst hV;obtain ⟨Y,b2,q2,code,rfl,rfl,hrel,hzy,hbk,hfr,hbV⟩:=hcut;have HAV:Hid (AS R X b p w V):=HAA.out.below hbV;have HXL:Hid (X<wr.heap.size):=HAA.out.z.lt;obtain ⟨x0,x1,x2,x3,x4,x5,y0,y1,y2,y3,y4,y5⟩:=HAV.out.z;clear hbV HDC HSS HP1 HP2 k0
     by_cases hc:code=0
     ·subst hc
      obtain ⟨j2,d2⟩:=HNX.out b2 hrel;have HJ2:Hid (JW b2):=j2;have HD2:Hid (An (Ad t zs) (rs.take (j+1)) b2):=d2;have HA2:Hid _:=HAV.out.put hbk hfr HXL.out;obtain ⟨n0,n1,n2,n3,n4,n5,-,-,-,-,-,-⟩:=hzy;clear j2 d2 hrel hbk hfr;go_wp2
      go_roundw
      case rel=>exact ⟨j+1,b2,q2,by omega,by go_num,HD2.out,HJ2.out,HA2.out⟩
      case measure=>simp [intOf];omega
     ·have hne:(code != 0)=true:=by simpa using hc
      have HF:Hid (Ag t zs rs b (j:Int)):=HRE.out _ hrel hc;obtain ⟨r0,r1,r2,r3,r4,r5,s0,s1,s2,s3,s4,s5⟩:=HAV.out.r;clear hrel hc hzy hbk hfr;go_wp2
      refine bodyPost_ret (by simp [results,results11,go_sem,r0,r1,r2,r3,r4,r5];try rfl) rfl ?_
      exact ⟨b,_,p,rfl,HF.out,HAV.out.bk.put6 HAV.out.oR _ _ _ _ _ _,put6_below (by rw [HAV.out.hR];exact nL) HAV.out.hb _ _ _ _ _ _,by rw [HAV.out.hR];exact HAV.out.fr⟩
   ·have hje:j=rs.length:=by omega
    subst hje
    have hji:¬ (rs.length:Int)<(rs.length:Int):=by omega
    have HF:Hid (Ag t zs rs b (rs.length:Int)):=HQ.out _ b nL HDD.out (fun h=>absurd h (Nat.lt_irrefl _))
    obtain ⟨x0,x1,x2,x3,x4,x5,-,-,-,-,-,-⟩:=HAA.out.z;obtain ⟨r0,r1,r2,r3,r4,r5,s0,s1,s2,s3,s4,s5⟩:=HAA.out.r;go_wp2
    refine bodyPost_ret (by simp [results,results11,go_sem,r0,r1,r2,r3,r4,r5];try rfl) rfl ?_
    exact ⟨b,_,p,rfl,HF.out,HAA.out.bk.put6 HAA.out.oR _ _ _ _ _ _,put6_below (by rw [HAA.out.hR];exact nL) HAA.out.hb _ _ _ _ _ _,by rw [HAA.out.hR];exact HAA.out.fr⟩
theorem Du (t:Int) (ao:Option Addr) (c:Nat) (zs:List Int) (lo:Option Addr) (lc:Nat) (rs:Recs) (w:World) (hx:IntsAt w ao zs) (hn:zs.length≤1048576) (hz:TxtsAt w lo rs) (hm:rs.length≤1048576) (hd:∀ r ∈ rs,r.length<1048576) :
  Calls prog 11 #[.int .i64 t,.slice ao zs.length c,.slice lo rs.length lc] w (D6 t zs rs w) :=
 Calls.mono (Bb t ao c zs lo lc rs w hx hn hz hm hd) (fun _ _ ⟨b',n,q,h1,h2,h3,h4,_⟩=>⟨b',n,q,h1,h2,h3,h4⟩)
def Dz (b:Bk):Nat:=1+b.off.length
def Dw (b:Bk):Nat:=Dz b+6*b.az.length
def Dx (b:Bk):Nat:=Dw b+12*b.cs.length
def Ds (b:Bk):Nat:=Dx b+3*b.ls.length
def De (b:Bk):Nat:=Ds b+b.log.length
structure Cy (B:Nat) (b:Bk) (q:Bp) (u:World):Prop where
 off:u.ownsRow B 3 1 (.slice q.o b.off.length q.oc) b.off.length ((cnt 1 b.off.length).map (Value.int .i64))
 az:u.ownsRow B 107 6 (.slice q.a b.az.length q.ac) b.az.length (acells (mkA (Dz b) b.az.length))
 cs:u.ownsRow B 61 12 (.slice q.c b.cs.length q.cc) b.cs.length (cscells (Bz (Dw b) b.cs.length))
 ls:u.ownsRow B 113 3 (.slice q.l b.ls.length q.lc) b.ls.length (lcells (mkL (Dx b) b.ls.length))
 log:u.ownsRow B 9 1 (.slice q.g b.log.length q.gc) b.log.length (scells (mkS (Ds b) b.log.length))
theorem Cy.below {B:Nat} {b:Bk} {q:Bp} {u u':World} (h:Cy B b q u) (hb:BW u u'):Cy B b q u':=⟨keepL h.off hb,keepL h.az hb,keepL h.cs hb,keepL h.ls hb,keepL h.log hb⟩
def Bn (b:Bk) (q:Bp) (r:Option Nat):Prop :=
 r=(Value.slice q.o b.off.length q.oc).ownBlock∨r=(Value.slice q.a b.az.length q.ac).ownBlock∨r=(Value.slice q.c b.cs.length q.cc).ownBlock∨r=(Value.slice q.l b.ls.length q.lc).ownBlock∨r=(Value.slice q.g b.log.length q.gc).ownBlock
theorem Cw (b:Bk) (q:Bp) (B:Nat) (w:World) (ho:Ae B b q w) (hn:bkSm b) (Q:World→Prop) (hQ:∀ r,Bn b q r→∀ u u':World,u.grownBy u' r→Q u→Q u') (hq:Q w) :
  Calls prog 20 #[bkv b q,.int .i64 1] w fun e w'=>e=.returned (.int .i64 (De b:Int))∧Cy B b q w'∧Q w':=by
 obtain ⟨n1,n2,n3,n4,n5⟩:=hn;obtain ⟨X,hX⟩:∃ X,w.heap.size=X:=⟨_,rfl⟩;obtain ⟨W,hW⟩:∃ W,W=w.alloc (.cells #[.int .i64 b.today,.slice q.o b.off.length q.oc,.slice q.a b.az.length q.ac,.slice q.c b.cs.length q.cc,.slice q.l b.ls.length q.lc,.slice q.g b.log.length q.gc] 31):=⟨_,rfl⟩
 have bW:BW w W:=by rw [hW];exact bR.alloc nL _
 have HZ:Hid (ZB X b q W):=by rw [Hid,hW,← hX];exact Z6.new w _ _ _ _ _ _ _
 have HT:Hid (Holds1 W X 31):=by rw [Hid,hW,← hX];exact Bf w _ _
 have HO:Hid (Ae B b q W):=ho.below bW
 have HQ0:Hid (Q W):=hQ _ (.inl rfl) w W (by rw [hW];exact World.grownBy_alloc w _ _) hq
 have HQQ:Hid (∀ r,Bn b q r→∀ u u':World,u.grownBy u' r→Q u→Q u'):=hQ;obtain ⟨K2,hK2⟩:∃ k,Dz b=k:=⟨_,rfl⟩;obtain ⟨K3,hK3⟩:∃ k,Dw b=k:=⟨_,rfl⟩;obtain ⟨K4,hK4⟩:∃ k,Dx b=k:=⟨_,rfl⟩;obtain ⟨K5,hK5⟩:∃ k,Ds b=k:=⟨_,rfl⟩;obtain ⟨K6,hK6⟩:∃ k,De b=k:=⟨_,rfl⟩;have e2:K2=1+b.off.length:=hK2.symm
 have e3:K3=K2+6*b.az.length:=by rw [← hK2,← hK3];rfl
 have e4:K4=K3+12*b.cs.length:=by rw [← hK3,← hK4];rfl
 have e5:K5=K4+3*b.ls.length:=by rw [← hK4,← hK5];rfl
 have e6:K6=K5+b.log.length:=by rw [← hK5,← hK6];rfl
 have H1:Hid (∀ (u:World) (xs:List Value),u.ownsRow B 3 1 (.slice q.o b.off.length q.oc) b.off.length xs→Calls prog 18 #[.slice q.o b.off.length q.oc,.int .i64 1] u fun e w'=>e=.returned (.int .i64 (K2:Int))∧w'.ownsRow B 3 1 (.slice q.o b.off.length q.oc) b.off.length ((cnt 1 b.off.length).map (Value.int .i64))∧u.grownBy w' (Value.slice q.o b.off.length q.oc).ownBlock):=fun u xs h=>by
  have:=markIntS_any q.o q.oc b.off.length B 1 xs u h (by omega) (by omega) (by omega)
  rw [show (1:Int)+(b.off.length:Int)=(K2:Int) from by omega] at this
  exact this
 have H2:Hid (∀ u:World,u.ownsRow B 107 6 (.slice q.a b.az.length q.ac) b.az.length (acells b.az)→Calls prog 57 #[.slice q.a b.az.length q.ac,.int .i64 (K2:Int)] u fun e w'=>e=.returned (.int .i64 (K3:Int))∧w'.ownsRow B 107 6 (.slice q.a b.az.length q.ac) b.az.length (acells (mkA K2 b.az.length))∧u.grownBy w' (Value.slice q.a b.az.length q.ac).ownBlock):=fun u h=>by
  rw [e3];exact markAuthS_any q.a q.ac B K2 b.az u h (by omega) (by omega) (by omega)
 have H3:Hid (∀ u:World,u.ownsRow B 61 12 (.slice q.c b.cs.length q.cc) b.cs.length (cscells b.cs)→Calls prog 58 #[.slice q.c b.cs.length q.cc,.int .i64 (K3:Int)] u fun e w'=>e=.returned (.int .i64 (K4:Int))∧w'.ownsRow B 61 12 (.slice q.c b.cs.length q.cc) b.cs.length (cscells (Bz K3 b.cs.length))∧u.grownBy w' (Value.slice q.c b.cs.length q.cc).ownBlock):=fun u h=>by
  rw [e4];exact Bl q.c q.cc B K3 b.cs u h n3 (by omega)
 have H4:Hid (∀ u:World,u.ownsRow B 113 3 (.slice q.l b.ls.length q.lc) b.ls.length (lcells b.ls)→Calls prog 59 #[.agg #[.slice q.l b.ls.length q.lc],.int .i64 (K4:Int)] u fun e w'=>e=.returned (.int .i64 (K5:Int))∧w'.ownsRow B 113 3 (.slice q.l b.ls.length q.lc) b.ls.length (lcells (mkL K4 b.ls.length))∧u.grownBy w' (Value.slice q.l b.ls.length q.lc).ownBlock):=fun u h=>by
  rw [e5];exact markLedger_any q.l q.lc B K4 b.ls u h (by omega) (by omega)
 have H5:Hid (∀ u:World,u.ownsRow B 9 1 (.slice q.g b.log.length q.gc) b.log.length (scells b.log)→Calls prog 19 #[.slice q.g b.log.length q.gc,.int .i64 (K5:Int)] u fun e w'=>e=.returned (.int .i64 (K6:Int))∧w'.ownsRow B 9 1 (.slice q.g b.log.length q.gc) b.log.length (scells (mkS K5 b.log.length))∧u.grownBy w' (Value.slice q.g b.log.length q.gc).ownBlock):=fun u h=>by
  rw [e6];exact markStringS_any q.g q.gc B K5 b.log u h (by omega) (by omega) (by omega)
 have HE:Hid (Dz b=K2∧Dw b=K3∧Dx b=K4∧Ds b=K5∧De b=K6):=⟨hK2,hK3,hK4,hK5,hK6⟩;have HW:Hid _:=hW;have HX:Hid _:=hX;unfold bkv;clear ho n1 n2 n3 n4 n5 hQ hq bW e2 e3 e4 e5 e6 hK2 hK3 hK4 hK5 hK6 hW hX;obtain ⟨c0,c1,c2,c3,c4,c5,-,-,-,-,-,-⟩:=HZ.out
 go_enter func20,ntmps20
 go_wp2_with fail
 rw [← HW.out];refine Calls.mono (H1.out W _ HO.out.off) ?_;rintro e u1 ⟨rfl,o1,g1⟩;rw [HX.out];clear HW HX;have HQ1:Hid (Q u1):=HQQ.out _ (.inl rfl) _ _ g1 HQ0.out
 have HZ1:Hid _:=HZ.out.grown g1 (own_neR HO.out.off HT.out (by decide))
 have HT1:Hid (Holds1 u1 X 31):=HT.out.grown g1 (own_neR HO.out.off HT.out (by decide))
 have A1:Hid (u1.ownsRow B 107 6 (.slice q.a b.az.length q.ac) b.az.length (acells b.az)):=HO.out.az.kept g1 (own_ne HO.out.az HO.out.off (by decide))
 have C1:Hid (u1.ownsRow B 61 12 (.slice q.c b.cs.length q.cc) b.cs.length (cscells b.cs)):=HO.out.cs.kept g1 (own_ne HO.out.cs HO.out.off (by decide))
 have L1:Hid (u1.ownsRow B 113 3 (.slice q.l b.ls.length q.lc) b.ls.length (lcells b.ls)):=HO.out.ls.kept g1 (own_ne HO.out.ls HO.out.off (by decide))
 have G1:Hid (u1.ownsRow B 9 1 (.slice q.g b.log.length q.gc) b.log.length (scells b.log)):=HO.out.log.kept g1 (own_ne HO.out.log HO.out.off (by decide))
 have O1:Hid (u1.ownsRow B 3 1 (.slice q.o b.off.length q.oc) b.off.length ((cnt 1 b.off.length).map (Value.int .i64))):=o1;clear o1 g1 c0 c1 c2 c3 c4 c5 HO HT HZ HQ0 H1;obtain ⟨c0,c1,c2,c3,c4,c5,-,-,-,-,-,-⟩:=HZ1.out;go_wp2_with fail
 refine Calls.mono (H2.out u1 A1.out) ?_;rintro e u2 ⟨rfl,o2,g2⟩;have HQ2:Hid (Q u2):=HQQ.out _ (.inr (.inl rfl)) _ _ g2 HQ1.out
 have HZ2:Hid _:=HZ1.out.grown g2 (own_neR A1.out HT1.out (by decide))
 have HT2:Hid (Holds1 u2 X 31):=HT1.out.grown g2 (own_neR A1.out HT1.out (by decide))
 have O2:Hid (u2.ownsRow B 3 1 (.slice q.o b.off.length q.oc) b.off.length ((cnt 1 b.off.length).map (Value.int .i64))):=O1.out.kept g2 (own_ne O1.out A1.out (by decide))
 have C2:Hid (u2.ownsRow B 61 12 (.slice q.c b.cs.length q.cc) b.cs.length (cscells b.cs)):=C1.out.kept g2 (own_ne C1.out A1.out (by decide))
 have L2:Hid (u2.ownsRow B 113 3 (.slice q.l b.ls.length q.lc) b.ls.length (lcells b.ls)):=L1.out.kept g2 (own_ne L1.out A1.out (by decide))
 have G2:Hid (u2.ownsRow B 9 1 (.slice q.g b.log.length q.gc) b.log.length (scells b.log)):=G1.out.kept g2 (own_ne G1.out A1.out (by decide))
 have A2:Hid (u2.ownsRow B 107 6 (.slice q.a b.az.length q.ac) b.az.length (acells (mkA K2 b.az.length))):=o2;clear o2 g2 c0 c1 c2 c3 c4 c5 HT1 HZ1 HQ1 H2 O1 A1 C1 L1 G1;obtain ⟨c0,c1,c2,c3,c4,c5,-,-,-,-,-,-⟩:=HZ2.out;go_wp2_with fail
 refine Calls.mono (H3.out u2 C2.out) ?_;rintro e u3 ⟨rfl,o3,g3⟩;have HQ3:Hid (Q u3):=HQQ.out _ (.inr (.inr (.inl rfl))) _ _ g3 HQ2.out
 have HZ3:Hid _:=HZ2.out.grown g3 (own_neR C2.out HT2.out (by decide))
 have HT3:Hid (Holds1 u3 X 31):=HT2.out.grown g3 (own_neR C2.out HT2.out (by decide))
 have O3:Hid (u3.ownsRow B 3 1 (.slice q.o b.off.length q.oc) b.off.length ((cnt 1 b.off.length).map (Value.int .i64))):=O2.out.kept g3 (own_ne O2.out C2.out (by decide))
 have A3:Hid (u3.ownsRow B 107 6 (.slice q.a b.az.length q.ac) b.az.length (acells (mkA K2 b.az.length))):=A2.out.kept g3 (own_ne A2.out C2.out (by decide))
 have L3:Hid (u3.ownsRow B 113 3 (.slice q.l b.ls.length q.lc) b.ls.length (lcells b.ls)):=L2.out.kept g3 (own_ne L2.out C2.out (by decide))
 have G3:Hid (u3.ownsRow B 9 1 (.slice q.g b.log.length q.gc) b.log.length (scells b.log)):=G2.out.kept g3 (own_ne G2.out C2.out (by decide))
 have C3:Hid (u3.ownsRow B 61 12 (.slice q.c b.cs.length q.cc) b.cs.length (cscells (Bz K3 b.cs.length))):=o3;clear o3 g3 c0 c1 c2 c3 c4 c5 HT2 HZ2 HQ2 H3 O2 A2 C2 L2 G2;obtain ⟨c0,c1,c2,c3,c4,c5,-,-,-,-,-,-⟩:=HZ3.out;go_wp2_with fail
 refine Calls.mono (H4.out u3 L3.out) ?_;rintro e u4 ⟨rfl,o4,g4⟩;have HQ4:Hid (Q u4):=HQQ.out _ (.inr (.inr (.inr (.inl rfl)))) _ _ g4 HQ3.out
 have HZ4:Hid _:=HZ3.out.grown g4 (own_neR L3.out HT3.out (by decide))
 have O4:Hid (u4.ownsRow B 3 1 (.slice q.o b.off.length q.oc) b.off.length ((cnt 1 b.off.length).map (Value.int .i64))):=O3.out.kept g4 (own_ne O3.out L3.out (by decide))
 have A4:Hid (u4.ownsRow B 107 6 (.slice q.a b.az.length q.ac) b.az.length (acells (mkA K2 b.az.length))):=A3.out.kept g4 (own_ne A3.out L3.out (by decide))
 have C4:Hid (u4.ownsRow B 61 12 (.slice q.c b.cs.length q.cc) b.cs.length (cscells (Bz K3 b.cs.length))):=C3.out.kept g4 (own_ne C3.out L3.out (by decide))
 have G4:Hid (u4.ownsRow B 9 1 (.slice q.g b.log.length q.gc) b.log.length (scells b.log)):=G3.out.kept g4 (own_ne G3.out L3.out (by decide))
 have L4:Hid (u4.ownsRow B 113 3 (.slice q.l b.ls.length q.lc) b.ls.length (lcells (mkL K4 b.ls.length))):=o4;clear o4 g4 c0 c1 c2 c3 c4 c5 HT3 HZ3 HQ3 H4 O3 A3 C3 L3 G3;obtain ⟨c0,c1,c2,c3,c4,c5,-,-,-,-,-,-⟩:=HZ4.out;go_wp2_with fail
 refine Calls.mono (H5.out u4 G4.out) ?_;rintro e u5 ⟨rfl,o5,g5⟩;have HQ5:Hid (Q u5):=HQQ.out _ (.inr (.inr (.inr (.inr rfl)))) _ _ g5 HQ4.out;obtain ⟨x2,x3,x4,x5,x6⟩:=HE.out
 have HM:Hid (Cy B b q u5):=by
  refine ⟨O4.out.kept g5 (own_ne O4.out G4.out (by decide)),?_,?_,?_,?_⟩
  ·rw [x2];exact A4.out.kept g5 (own_ne A4.out G4.out (by decide))
  ·rw [x3];exact C4.out.kept g5 (own_ne C4.out G4.out (by decide))
  ·rw [x4];exact L4.out.kept g5 (own_ne L4.out G4.out (by decide))
  ·rw [x5];exact o5
 have HK:Hid (De b=K6):=x6;clear o5 g5 c0 c1 c2 c3 c4 c5 x2 x3 x4 x5 x6 HE HZ4 HQ4 H5 O4 A4 C4 L4 G4;go_wp2;go_ret;rw [HK.out];exact ⟨rfl,HM.out,HQ5.out⟩
theorem Cn (b:Bk) (q:Bp) (B:Nat) (w:World) (hm:Cy B b q w) (hn:bkSm b) :
  Calls prog 21 #[bkv b q,.int .i64 1] w fun e w'=>e=.returned (.int .i64 (De b:Int))∧BW w w':=by
 obtain ⟨n1,n2,n3,n4,n5⟩:=hn;obtain ⟨X,hX⟩:∃ X,w.heap.size=X:=⟨_,rfl⟩;obtain ⟨W,hW⟩:∃ W,W=w.alloc (.cells #[.int .i64 b.today,.slice q.o b.off.length q.oc,.slice q.a b.az.length q.ac,.slice q.c b.cs.length q.cc,.slice q.l b.ls.length q.lc,.slice q.g b.log.length q.gc] 31):=⟨_,rfl⟩
 have bW:BW w W:=by rw [hW];exact bR.alloc nL _
 have HZ:Hid (∀ u,BW W u→ZB X b q u):=fun u h=>Z6.below (by rw [hW,← hX];exact Z6.new w _ _ _ _ _ _ _) h
 have HM:Hid (∀ u,BW W u→Cy B b q u):=fun u h=>(hm.below bW).below h
 have HBW:Hid (BW w W):=bW;obtain ⟨K2,hK2⟩:∃ k,Dz b=k:=⟨_,rfl⟩;obtain ⟨K3,hK3⟩:∃ k,Dw b=k:=⟨_,rfl⟩;obtain ⟨K4,hK4⟩:∃ k,Dx b=k:=⟨_,rfl⟩;obtain ⟨K5,hK5⟩:∃ k,Ds b=k:=⟨_,rfl⟩;obtain ⟨K6,hK6⟩:∃ k,De b=k:=⟨_,rfl⟩;have e2:K2=1+b.off.length:=hK2.symm
 have e3:K3=K2+6*b.az.length:=by rw [← hK2,← hK3];rfl
 have e4:K4=K3+12*b.cs.length:=by rw [← hK3,← hK4];rfl
 have e5:K5=K4+3*b.ls.length:=by rw [← hK4,← hK5];rfl
 have e6:K6=K5+b.log.length:=by rw [← hK5,← hK6];rfl
 have H1:Hid (∀ u,BW W u→Calls prog 60 #[.slice q.o b.off.length q.oc,.int .i64 1] u fun e w'=>e=.returned (.int .i64 (K2:Int))∧BW u w'):=fun u h=>by
  have:=heldIntS_any q.o q.oc b.off.length 1 u (ints_own (HM.out u h).off) (by omega) (by omega) (by omega)
  rw [show (1:Int)+(b.off.length:Int)=(K2:Int) from by omega] at this
  exact this.mono (fun e w' ⟨h1,h2⟩=>⟨h1,by rw [h2];exact bR⟩)
 have H2:Hid (∀ u,BW W u→Calls prog 61 #[.slice q.a b.az.length q.ac,.int .i64 (K2:Int)] u fun e w'=>e=.returned (.int .i64 (K3:Int))∧BW u w'):=fun u h=>by
  have hh:=(HM.out u h).az;rw [hK2] at hh
  rw [e3];exact heldAuthS_any q.a q.ac b.az.length K2 u (auths_any hh) (by omega) (by omega) (by omega)
 have H3:Hid (∀ u,BW W u→Calls prog 62 #[.slice q.c b.cs.length q.cc,.int .i64 (K3:Int)] u fun e w'=>e=.returned (.int .i64 (K4:Int))∧BW u w'):=fun u h=>by
  have hh:=(HM.out u h).cs;rw [hK3] at hh
  rw [e4];exact (A9 q.c q.cc b.cs.length K3 u (cases_own hh) n3 (by omega)).mono (fun e w' ⟨h1,h2⟩=>⟨h1,by rw [h2];exact bR⟩)
 have H4:Hid (∀ u,BW W u→Calls prog 63 #[.agg #[.slice q.l b.ls.length q.lc],.int .i64 (K4:Int)] u fun e w'=>e=.returned (.int .i64 (K5:Int))∧BW u w'):=fun u h=>by
  have hh:=(HM.out u h).ls;rw [hK4] at hh;have hl:(mkL K4 b.ls.length).length=b.ls.length:=mkL_len _ _
  rw [e5];exact heldLedger_any q.l q.lc b.ls.length K4 u (lines_any (by rw [hl];exact hh)) (by omega) (by omega)
 have H5:Hid (∀ u,BW W u→Calls prog 64 #[.slice q.g b.log.length q.gc,.int .i64 (K5:Int)] u fun e w'=>e=.returned (.int .i64 (K6:Int))∧BW u w'):=fun u h=>by
  have hh:=(HM.out u h).log;rw [hK5] at hh;have hl:(mkS K5 b.log.length).length=b.log.length:=mkS_len _ _
  rw [e6];exact heldStringS_any q.g q.gc b.log.length K5 u (txts_any (by rw [hl];exact hh)) (by omega) (by omega) (by omega)
 have HK:Hid (De b=K6):=hK6;have HW:Hid _:=hW;have HX:Hid _:=hX
 have z2:¬ (K2:Int)<0:=by omega
 have z3:¬ (K3:Int)<0:=by omega
 have z4:¬ (K4:Int)<0:=by omega
 have z5:¬ (K5:Int)<0:=by omega
 have z6:¬ (K6:Int)<0:=by omega
 unfold bkv;clear hm n1 n2 n3 n4 n5 bW e2 e3 e4 e5 e6 hK2 hK3 hK4 hK5 hK6 hW hX;have k0:BW W W:=bR;obtain ⟨c0,c1,c2,c3,c4,c5,-,-,-,-,-,-⟩:=HZ.out W k0
 go_enter func21,ntmps21
 go_wp2_with fail
 rw [← HW.out];refine Calls.mono (H1.out W k0) ?_;rintro e u1 ⟨rfl,p1⟩;rw [HX.out];have K1:Hid (BW W u1):=p1;clear p1 c0 c1 c2 c3 c4 c5 HW HX k0;obtain ⟨c0,c1,c2,c3,c4,c5,-,-,-,-,-,-⟩:=HZ.out u1 K1.out;go_wp2_with fail
 refine Calls.mono (H2.out u1 K1.out) ?_;rintro e u2 ⟨rfl,p2⟩;have K2':Hid (BW W u2):=next K1.out p2;clear p2 c0 c1 c2 c3 c4 c5;obtain ⟨c0,c1,c2,c3,c4,c5,-,-,-,-,-,-⟩:=HZ.out u2 K2'.out;go_wp2_with fail
 refine Calls.mono (H3.out u2 K2'.out) ?_;rintro e u3 ⟨rfl,p3⟩;have K3':Hid (BW W u3):=next K2'.out p3;clear p3 c0 c1 c2 c3 c4 c5;obtain ⟨c0,c1,c2,c3,c4,c5,-,-,-,-,-,-⟩:=HZ.out u3 K3'.out;go_wp2_with fail
 refine Calls.mono (H4.out u3 K3'.out) ?_;rintro e u4 ⟨rfl,p4⟩;have K4':Hid (BW W u4):=next K3'.out p4;clear p4 c0 c1 c2 c3 c4 c5;obtain ⟨c0,c1,c2,c3,c4,c5,-,-,-,-,-,-⟩:=HZ.out u4 K4'.out;go_wp2_with fail
 refine Calls.mono (H5.out u4 K4'.out) ?_;rintro e u5 ⟨rfl,p5⟩;have K5':Hid (BW w u5):=next HBW.out (next K4'.out p5);clear p5 c0 c1 c2 c3 c4 c5;go_wp2;go_ret;rw [HK.out];exact ⟨rfl,K5'.out⟩
theorem Ae.far {B r:Nat} {b:Bk} {q:Bp} {u u':World} (h:Ae B b q u) (g:u.grownBy u' (some r)) (hr:r<B):Ae B b q u':=by
 have ne:∀ {t:TypeId} {s n:Nat} {v:Value} {xs:List Value},u.ownsRow B t s v n xs→v.ownBlock=none∨v.ownBlock≠some r:=fun o=>.inr fun e=>by
  have:=(o.lt _ e).1;omega
 exact ⟨h.off.kept g (ne h.off),h.az.kept g (ne h.az),h.cs.kept g (ne h.cs),h.ls.kept g (ne h.ls),h.log.kept g (ne h.log)⟩
theorem Ae.rows {B:Nat} {b:Bk} {q:Bp} {u:World} (h:Ae B b q u) {r:Option Nat} (hr:Bn b q r):∀ j,r=some j→B≤j∧j<u.heap.size:=by
 intro j hj
 rcases hr with rfl | rfl | rfl | rfl | rfl
 ·exact h.off.lt j hj
 ·exact h.az.lt j hj
 ·exact h.cs.lt j hj
 ·exact h.ls.lt j hj
 ·exact h.log.lt j hj
def LQ (V:World) (X:Nat) (b:Bk) (q:Bp) (u:World):Prop:=BW V u∧ZB X b q u
theorem Dh {V:World} {X B:Nat} {b:Bk} {q:Bp} {u0:World} (ho:Ae B b q u0) (hV:V.heap.size≤B) (hX:u0.heap.size≤X):∀ r,Bn b q r→∀ u u':World,u.grownBy u' r→LQ V X b q u→LQ V X b q u':=by
 intro r hr u u' g h;have hrow:=ho.rows hr
 refine ⟨h.1.grown g h.1.size (fun j hj=>by have:=(hrow j hj).1;omega),h.2.grown g (fun e=>?_)⟩
 have:=(hrow X e.symm).2
 omega
def Aa (l:List UInt8):Nat→Recs×Nat
 | 0=>([],0)
 | i+1=>if l.getD i 0=10 then ((Aa l i).1++[(l.drop (Aa l i).2).take (i - (Aa l i).2)],i+1) else Aa l i
theorem Ar (l:List UInt8):∀ i,(Aa l i).2≤i∧(Aa l i).1.length≤i
 | 0=>⟨nL,nL⟩
 | i+1=>by
  have:=Ar l i
  unfold Aa
  split
  ·refine ⟨nL,?_⟩
   simp;omega
  ·omega
theorem Aq {l:List UInt8} {i:Nat} (h:l.getD i 0=10):Aa l (i+1)=((Aa l i).1++[(l.drop (Aa l i).2).take (i - (Aa l i).2)],i+1):=by rw [Aa,if_pos h]
theorem Ao {l:List UInt8} {i:Nat} (h:l.getD i 0≠10):Aa l (i+1)=Aa l i:=by rw [Aa,if_neg h]
theorem Ap (l:List UInt8):∀ i,i≤l.length→∀ r ∈ (Aa l i).1,r.length<l.length
 | 0,_=>fun r h=>nomatch h
 | i+1,hi=>fun r h=>by
  unfold Aa at h
  split at h
  ·rcases List.mem_append.1 h with h | h
   ·exact Ap l i (by omega) r h
   ·rw [List.mem_singleton.1 h];simp;omega
  ·exact Ap l i (by omega) r h
def Ab (l:List UInt8):Recs:=(Aa l l.length).1
def Dy (l:List UInt8):List UInt8:=l.drop (Aa l l.length).2
theorem A0 (l:List UInt8):(Ab l).length≤l.length:=(Ar l l.length).2
theorem Aw (l:List UInt8):∀ r ∈ Ab l,r.length<l.length:=Ap l l.length nL
theorem Ce (l:List UInt8) (w:World) (hl:l.length≤1048576) :
  Calls prog 65 #[.string ⟨l.toArray⟩] w fun e w'=>∃ a k,e=.returned (.slice a (Ab l).length k)∧w'.ownsRow w.heap.size 9 1 (.slice a (Ab l).length k) (Ab l).length (scells (Ab l))∧BW w w':=by
 obtain ⟨i0,hi,hz0,hz1,hz2⟩:=info_parts infoS
 have HO0:Hid ((w.alloc (.cells #[] 9)).ownsRow w.heap.size 9 1 (.slice (some ⟨w.heap.size,0,none⟩) 0 0) 0 (scells [])):=by
  have h:=World.ownsRow_lit (base:=w.heap.size) (e:=9) (size:=1) w #[] 0 nL (by unfold maxLen;omega) rfl
  rw [Hid];simpa [scells] using h
 have HBA:Hid (Below w.heap.size w (w.alloc (.cells #[] 9))):=bR.alloc nL _;have HWE:Hid (Ab l=(Aa l l.length).1):=rfl;obtain ⟨WW,hWW⟩:∃ x,Ab l=x:=⟨_,rfl⟩;rw [hWW] at HWE ⊢;clear hWW
 go_enter func65,ntmps65
 go_wp2
 go_loopw [3,4,5] (fun s f i wr=>∃ (v:Value) (k:Nat),v=s∧k≤l.length∧i=.int .i64 (k:Int)∧f=.int .i64 ((Aa l k).2:Int)∧wr.ownsRow w.heap.size 9 1 v (Aa l k).1.length (scells (Aa l k).1)∧BW w wr) (fun _ _ i _=>l.length - (intOf i).toNat)
 case atStart=>exact ⟨_,0,rfl,Nat.zero_le _,rfl,rfl,HO0.out,HBA.out⟩
 case round =>
  obtain ⟨v,k,hvs,hk,rfl,rfl,hown,hbr⟩:=hrel;subst hvs;have HBR:Hid (BW w wr):=hbr;have HSZ:Hid (w.heap.size≤wr.heap.size):=hbr.size
  have HLT:Hid (∀ j,v.ownBlock=some j→w.heap.size≤j):=fun j hj=>(hown.lt j hj).1
  have hsc:=Ar l k
  by_cases hlt:k<l.length
  ·have hki:(k:Int)<(l.length:Int):=by omega
   have HY:Hid _:=@Aq l k;have HN:Hid _:=@Ao l k
   obtain ⟨c,hc⟩:∃ c,(⟨l.toArray⟩:ByteArray)[k]'(by rw [ba_size];exact hlt)=c:=⟨_,rfl⟩
   rw [(byte_at l k hlt).trans hc] at HY HN;obtain ⟨R,hR⟩:∃ x,(Aa l k).1=x:=⟨_,rfl⟩;obtain ⟨f,hf⟩:∃ x,(Aa l k).2=x:=⟨_,rfl⟩;rw [hR,hf] at HY;rw [hR] at hown hsc;rw [hf] at hsc ⊢;have HO:Hid (wr.ownsRow w.heap.size 9 1 v R.length (scells R)):=hown;have HRF:Hid ((Aa l k).1=R∧(Aa l k).2=f):=⟨hR,hf⟩;clear hR hf hown hbr HO0 HBA
   by_cases h10:c=10
   ·subst h10
    have hx:(⟨l.toArray⟩:ByteArray).extract f k=⟨((l.drop f).take (k - f)).toArray⟩:=ba_extract l f k;have HNX:Hid (Aa l (k+1)=(R++[(l.drop f).take (k - f)],k+1)):=HY.out rfl;obtain ⟨r,hr⟩:∃ x,(l.drop f).take (k - f)=x:=⟨_,rfl⟩;rw [hr] at hx HNX
    have hfk:(f:Int)≤(k:Int):=by omega
    clear HY HN hr
    go_wp2_with (at_builtin;refine wpList_append_own _ rfl (.tmp 17) (.tmp 22) 23 rfl w.heap.size 9 i0 (.string ⟨#[]⟩) 1 16 underlying23 hi hz0 hz1 hz2 rfl (by decide) _ _ _ rfl (HO.out.alloc _) ⟨wr.heap.size,0,none⟩ 1 1 [.string ⟨r.toArray⟩] rfl rfl (World.news_of_block (heap_alloc_new wr _)) (one_oneS _) (by unfold maxLen;omega) (by omega) (by simp;have:=HSZ.out;omega) ?_;intro v5 w5 o5 g5 _)
    have q5:BW w w5:=(HBR.out.alloc (by have:=HSZ.out;omega) _).grown g5 (by have:=HSZ.out;simp;omega) HLT.out
    have HR5:Hid (w5.ownsRow w.heap.size 9 1 v5 (Aa l (k+1)).1.length (scells (Aa l (k+1)).1)):=by
     rw [Hid,HNX.out];simp only [List.length_append,scells_append];exact o5
    have HF5:Hid ((Aa l (k+1)).2=k+1):=by rw [Hid,HNX.out]
    clear o5 g5 hx;go_wp2
    go_roundw
    case rel=>exact ⟨_,k+1,rfl,by omega,by go_num,by rw [HF5.out];go_num,HR5.out,q5⟩
    case measure=>simp [intOf];omega
   ·have HNX:Hid (Aa l (k+1)=Aa l k):=HN.out h10
    have hcb:((c.toNat:Int) == 10)=false:=by
     simp only [beq_eq_false_iff_ne,ne_eq]
     intro e;apply h10;apply UInt8.toNat_inj.1
     show c.toNat=10
     omega
    have HR5:Hid (wr.ownsRow w.heap.size 9 1 v (Aa l (k+1)).1.length (scells (Aa l (k+1)).1)):=by
     rw [Hid,HNX.out,HRF.out.1];exact HO.out
    have HF5:Hid ((Aa l (k+1)).2=f):=by rw [Hid,HNX.out,HRF.out.2]
    clear HY HN;go_wp2
    go_roundw
    case rel=>exact ⟨_,k+1,rfl,by omega,by go_num,by rw [HF5.out],HR5.out,HBR.out⟩
    case measure=>simp [intOf];omega
  ·have hke:k=l.length:=by omega
   subst hke
   have hki:¬ (l.length:Int)<(l.length:Int):=by omega
   obtain ⟨R,hR⟩:∃ x,(Aa l l.length).1=x:=⟨_,rfl⟩;rw [hR] at HWE;rw [hR] at hown hsc
   have HR5:Hid (wr.ownsRow w.heap.size 9 1 v WW.length (scells WW)):=by rw [Hid,HWE.out];exact hown
   obtain ⟨a,cp,hv,-,-⟩:=txts_of_own HR5.out;subst hv;clear hR hown hbr HO0 HBA;go_wp2;go_ret;exact ⟨a,cp,rfl,HR5.out,HBR.out⟩
def Ai (l:List UInt8):Recs:=(Aa l l.length).1++[l.drop (Aa l l.length).2]
theorem C7 {l:List UInt8} (h:∀ c ∈ l,c≠10):∀ i,i≤l.length→Aa l i=([],0):=by
 intro i
 induction i with
 | zero=>intro _;rfl
 | succ i ih =>
  intro hi
  have hg:l.getD i 0=l[i]:=by
   rw [List.getD_eq_getElem?_getD,List.getElem?_eq_getElem (by omega)];rfl
  rw [Ao (by rw [hg];exact h _ (List.getElem_mem _))]
  exact ih (by omega)
theorem Ay {l:List UInt8} (h:∀ c ∈ l,c≠10):Ai l=[l]:=by
 rw [Ai,C7 h _ nL];rfl
theorem Bw {x r:List UInt8} (hx:∀ c ∈ x,c≠10):∀ i,i≤x.length→Aa (x++10::r) i=([],0):=by
 intro i
 induction i with
 | zero=>intro _;rfl
 | succ i ih =>
  intro hi
  have hg:(x++10::r).getD i 0=x[i]:=by
   rw [List.getD_eq_getElem?_getD,List.getElem?_append_left (by omega),List.getElem?_eq_getElem (by omega)]
   rfl
  rw [Ao (by rw [hg];exact hx _ (List.getElem_mem _))]
  exact ih (by omega)
theorem Bq (x r:List UInt8) (s:Nat):(x++10::r).drop (x.length+1+s)=r.drop s:=by
 rw [List.drop_append,List.drop_of_length_le (by omega),List.nil_append,show x.length+1+s - x.length=s+1 from by omega]
 rfl
theorem Bu {x r:List UInt8} (hx:∀ c ∈ x,c≠10):∀ j,j≤r.length→Aa (x++10::r) (x.length+1+j)=(x::(Aa r j).1,x.length+1+(Aa r j).2):=by
 intro j
 induction j with
 | zero =>
  intro _
  have hg:(x++10::r).getD x.length 0=10:=by simp [List.getD_eq_getElem?_getD]
  show Aa (x++10::r) (x.length+1)=_
  rw [Aq hg,Bw hx _ nL]
  simp [Aa]
 | succ j ih =>
  intro hj
  have h:=ih (by omega)
  have hg:(x++10::r).getD (x.length+1+j) 0=r.getD j 0:=by
   rw [List.getD_eq_getElem?_getD,List.getElem?_append_right (by omega),show x.length+1+j - x.length=j+1 from by omega]
   simp [List.getD_eq_getElem?_getD]
  have hle:=(Ar r j).1
  by_cases h10:r.getD j 0=10
  ·rw [show x.length+1+(j+1)=(x.length+1+j)+1 from by omega,Aq (by rw [hg];exact h10),h,Aq h10]
   simp only [List.cons_append]
   rw [Bq,show x.length+1+j - (x.length+1+(Aa r j).2)=j - (Aa r j).2 from by omega]
   rfl
  ·rw [show x.length+1+(j+1)=(x.length+1+j)+1 from by omega,Ao (by rw [hg];exact h10),h,Ao h10]
theorem Bi {x r:List UInt8} (hx:∀ c ∈ x,c≠10):Ai (x++10::r)=x::Ai r:=by
 have h:=Bu hx (r:=r) r.length nL
 have hl:(x++10::r).length=x.length+1+r.length:=by simp;omega
 rw [Ai,hl,h,Ai]
 simp only [List.cons_append]
 rw [Bq]
theorem As:∀ (n:Nat) (l:List UInt8),l.length≤n→Lib.splitK [10] 0 (l.count 10) l=Ai l
 | 0,l,h=>by
  have:l=[]:=List.eq_nil_of_length_eq_zero (by omega)
  subst this
  rw [Ay (fun c hc=>by cases hc)]
  rfl
 | n+1,l,h=>by
  by_cases hm:(10:UInt8) ∈ l
  ·obtain ⟨x,r,rfl,hx⟩:=List.eq_append_cons_of_mem hm
   have hx':∀ c ∈ x,c≠10:=fun c hc e=>hx (e ▸ hc)
   have h0:x.count 10=0:=List.count_eq_zero.2 hx
   have hc:(x++10::r).count 10=r.count 10+1:=by
    rw [List.count_append,h0,List.count_cons_self];omega
   have hi:Lib.index (x++10::r) [10]=(x.length:Int):=by rw [Lib.index_one,index_first hx']
   rw [hc,Lib.splitK,hi,if_neg (by simp),Bi hx']
   have e1:(x++10::r).take ((x.length:Int).toNat+0)=x:=by simp
   have e2:(x++10::r).drop ((x.length:Int).toNat+[(10:UInt8)].length)=r:=by simp
   rw [e1,e2,As n r (by simp at h;omega)]
  ·have hx:∀ c ∈ l,c≠10:=fun c hc e=>hm (e ▸ hc)
   rw [List.count_eq_zero.2 hm,Ay hx]
   rfl
theorem Cx (l:List UInt8):((Lib.splitB ⟨#[10]⟩ 0 (Lib.countB ⟨l.toArray⟩ ⟨#[10]⟩) ⟨l.toArray⟩).map Value.string)=scells (Ai l)∧Lib.countB ⟨l.toArray⟩ ⟨#[10]⟩+1=(Ai l).length:=by
 have hc:Lib.countB ⟨l.toArray⟩ ⟨#[10]⟩=l.count 10:=by
  show Lib.count l.toArray.toList [10]=l.count 10
  rw [Lib.count_one]
 have hd:=Lib.splitB_data ⟨#[10]⟩ 0 (l.count 10) ⟨l.toArray⟩
 have hd2:(Lib.splitB ⟨#[10]⟩ 0 (l.count 10) ⟨l.toArray⟩).map (·.data.toList)=Ai l:=by
  rw [hd];exact As l.length l nL
 have hl:=Lib.splitB_all ⟨#[10]⟩ (by decide) 0 (l.count 10) ⟨l.toArray⟩ hc
 rw [hc]
 constructor
 ·rw [← hd2,scells,List.map_map]
  apply List.map_congr_left;intro s _
  simp [scell]
 ·rw [← hd2,List.length_map,hl]
theorem Dk (l:List UInt8) (m:Int) (w:World) (hl:l.length≤1048576) (hm:w.cell? ⟨10,0,none⟩=some (.int .i64 m)) :
  Calls prog 66 #[.string ⟨l.toArray⟩,.string ⟨#[10]⟩] w fun e w'=>∃ a,e=.returned (.slice a (Ai l).length (Ai l).length)∧TxtsAt w' a (Ai l)∧BW w w':=by
 obtain ⟨h1,h2⟩:=Cx l
 have hs:(⟨l.toArray⟩:ByteArray).size<4294967281:=by
  show l.toArray.size<_
  rw [List.size_toArray];omega
 refine (strings_Split ⟨l.toArray⟩ ⟨#[10]⟩ m w hs hm (by decide)).mono ?_
 rintro e w' ⟨rfl,rfl⟩;rw [h1,h2]
 refine ⟨some ⟨w.heap.size,0,none⟩,rfl,.inr ⟨w.heap.size,0,rfl,by simp,fun i hi=>?_⟩,bR.alloc nL _⟩
 have:=scells_at (Ai l) i hi
 simpa [go_sem] using this
theorem Cb {w:World} {ao:Option Addr} {rs:Recs} {y:List UInt8} (h:TxtsAt w ao (rs++[y])):(∃ g off,ao=some ⟨g,off,none⟩)∧TxtsAt w ao rs:=by
 rcases h with h | ⟨g,off,h1,h2,h3⟩
 ·simp at h
 ·refine ⟨⟨g,off,h1⟩,.inr ⟨g,off,h1,h2,fun i hi=>?_⟩⟩
  have e:=h3 i (by simp;omega)
  rw [show nth (rs++[y]) i=nth rs i from by simp only [nth,List.getD_eq_getElem?_getD,List.getElem?_append_left hi]] at e
  exact e
theorem Bv {g off n:Nat} (W:World):(Instr.slice 23 (.slice (some ⟨g,off,none⟩) (n+1) (n+1)) none (some (.int .i64 n)) none).run prog W=.ok (.slice (some ⟨g,off,none⟩) n (n+1)) W:=by
 rw [run_slice_h W _ _ _ _ underTx .i64 _ (by omega) (by omega),elemTx,sizeTx]
 simp [Result.andThen,sliced,Addr.add]
theorem Da (l:List UInt8):(Ai l).length=(Ab l).length+1:=by simp [Ai,Ab]
theorem Bg (t:Int) (ao:Option Addr) (c:Nat) (zs:List Int) (l:List UInt8) (w:World) (hx:IntsAt w ao zs) (hn:zs.length≤1048576) (hl:l.length≤1048576) (hE:E0 w) :
  Calls prog 23 #[.int .i64 t,.slice ao zs.length c,.string ⟨l.toArray⟩] w (D0 t zs (Ab l) w):=by
 obtain ⟨R,hR⟩:∃ R,w.heap.size=R:=⟨_,rfl⟩;obtain ⟨W,hW⟩:∃ W,W=w.alloc (.cells #[.int .i64 0,.slice none 0 0,.slice none 0 0,.slice none 0 0,.slice none 0 0,.slice none 0 0] 31):=⟨_,rfl⟩
 have HBW:Hid (BW w W):=by rw [Hid,hW];exact bR.alloc nL _
 have HZ0:Hid (Z0 R W):=by rw [Hid,hW,← hR];exact Z6.new w _ _ _ _ _ _ _
 have HRW:Hid (R<W.heap.size):=HZ0.out.lt;have HEW:Hid (E0 W):=Al _ _ hE (HBW.out.mono hE.size)
 have HSP:Hid (Calls prog 66 #[.string ⟨l.toArray⟩,.string ⟨#[10]⟩] W fun e w'=>∃ a,e=.returned (.slice a (Ai l).length (Ai l).length)∧TxtsAt w' a (Ai l)∧BW W w'):=by
  obtain ⟨m,hm⟩:=HEW.out.max;exact Dk l m W hl hm
 have HSH:Hid (∀ r ∈ Ab l,r.length<1048576):=fun r hr=>by have:=Aw l r hr;omega
 have HLN:Hid ((Ab l).length≤1048576):=by have:=A0 l;rw [Hid];omega
 have HX:Hid (IntsAt w ao zs):=hx;have HAN:Hid (Ai l=Ab l++[Dy l]):=rfl;have HAL:Hid ((Ai l).length=(Ab l).length+1):=Da l;have HRR:Hid _:=hR;have HWW:Hid _:=hW;clear hx hE hR hW hl
 go_enter func23,ntmps23
 go_wp2_with fail
 rw [← HWW.out,HRR.out];refine Calls.mono HSP.out ?_;rintro e w1 ⟨a,rfl,hz1,p1⟩;rw [HAN.out] at hz1;rw [HAL.out];obtain ⟨⟨g,off,rfl⟩,hz⟩:=Cb hz1;have HB1:Hid (BW w w1):=next HBW.out p1;have HZ1:Hid (Z0 R w1):=HZ0.out.below p1;have HE1:Hid (E0 w1):=Al _ _ HEW.out (p1.mono HEW.out.size);have HRL:Hid (R<w1.heap.size):=HZ1.out.lt;have HAL1:Hid (Calls prog 14 #[.int .i64 t,.slice ao zs.length c,.slice (some ⟨g,off,none⟩) (Ab l).length ((Ab l).length+1)] w1 (D0 t zs (Ab l) w1)):=Cz t ao c zs _ _ (Ab l) w1 (HX.out.below HB1.out) hn hz HLN.out HSH.out HE1.out;obtain ⟨n,hnn⟩:∃ n,(Ab l).length=n:=⟨_,rfl⟩;have hsl:=Bv (g:=g) (off:=off) (n:=n)
 have hle:n≤1048576:=by rw [← hnn];exact HLN.out
 rw [hnn] at HAL1 ⊢;clear hz hz1 p1 HSP HZ0 hnn;go_wp2_with fail
 refine Calls.mono HAL1.out ?_;rintro e w2 ⟨b',m,q,rfl,ha,hj,o2,p2⟩;unfold bkv;have HO:Hid (Ae w1.heap.size b' q w2):=o2;have HB2:Hid (BW w w2):=next HB1.out p2;have HZ2:Hid (Z0 R w2):=HZ1.out.below p2;have HA:Hid (At t zs (Ab l) b' m):=ha;have HJ:Hid (JW b'):=hj;clear o2 p2 ha hj HAL1;obtain ⟨t0,t1,t2,t3,t4,t5,s0,s1,s2,s3,s4,s5⟩:=HZ2.out;go_wp2
 refine bodyPost_ret (by simp [results,results23,go_sem,t0,t1,t2,t3,t4,t5];try rfl) rfl ?_
 have bel:=put6_below (R:=R) (by rw [HRR.out];exact nL) HB2.out
 exact ⟨b',m,q,rfl,HA.out,HJ.out,(Ae.mk (put6_row HO.out.off HRL.out _ _ _ _ _ _) (put6_row HO.out.az HRL.out _ _ _ _ _ _) (put6_row HO.out.cs HRL.out _ _ _ _ _ _) (put6_row HO.out.ls HRL.out _ _ _ _ _ _) (put6_row HO.out.log HRL.out _ _ _ _ _ _)).low HB1.out.size,bel _ _ _ _ _ _⟩
theorem Cu (t:Int) (ao:Option Addr) (c:Nat) (zs:List Int) (l:List UInt8) (w:World) (hx:IntsAt w ao zs) (hn:zs.length≤1048576) (hl:l.length≤1048576) :
  Calls prog 22 #[.int .i64 t,.slice ao zs.length c,.string ⟨l.toArray⟩] w (D6 t zs (Ab l) w):=by
 obtain ⟨R,hR⟩:∃ R,w.heap.size=R:=⟨_,rfl⟩;obtain ⟨W,hW⟩:∃ W,W=w.alloc (.cells #[.int .i64 0,.slice none 0 0,.slice none 0 0,.slice none 0 0,.slice none 0 0,.slice none 0 0] 31):=⟨_,rfl⟩
 have HBW:Hid (BW w W):=by rw [Hid,hW];exact bR.alloc nL _
 have HZ0:Hid (Z0 R W):=by rw [Hid,hW,← hR];exact Z6.new w _ _ _ _ _ _ _
 have HRW:Hid (R<W.heap.size):=HZ0.out.lt;have HSP:=Ce l W hl
 have HSH:Hid (∀ r ∈ Ab l,r.length<1048576):=fun r hr=>by have:=Aw l r hr;omega
 have HLN:Hid ((Ab l).length≤1048576):=by have:=A0 l;rw [Hid];omega
 have HX:Hid (IntsAt w ao zs):=hx;have HSP2:Hid _:=HSP;have HRR:Hid _:=hR;have HWW:Hid _:=hW;clear hx hR hW hl HSP
 go_enter func22,ntmps22
 go_wp2_with fail
 rw [← HWW.out,HRR.out];refine Calls.mono HSP2.out ?_;rintro e w1 ⟨a,k,rfl,o1,p1⟩;have HB1:Hid (BW w w1):=next HBW.out p1;have HZ1:Hid (Z0 R w1):=HZ0.out.below p1;have HRL:Hid (R<w1.heap.size):=HZ1.out.lt;have HAL1:Hid (Calls prog 11 #[.int .i64 t,.slice ao zs.length c,.slice a (Ab l).length k] w1 (D9 t zs (Ab l) w1)):=Bb t ao c zs _ _ (Ab l) w1 (HX.out.below HB1.out) hn (txts_any o1) HLN.out HSH.out;obtain ⟨n,hnn⟩:∃ n,(Ab l).length=n:=⟨_,rfl⟩;rw [hnn] at HAL1 ⊢;clear o1 p1 HSP2 HZ0 hnn;go_wp2_with fail
 refine Calls.mono HAL1.out ?_;rintro e w2 ⟨b',m,q,rfl,ha,hk,p2,hf⟩;unfold bkv;have HO:Hid (BookAt w2 b' q):=hk;have HB2:Hid (BW w w2):=next HB1.out p2;have HZ2:Hid (Z0 R w2):=HZ1.out.below p2;have HA:Hid (Ag t zs (Ab l) b' m):=ha;have HF:Hid (FrB q w1.heap.size):=hf;clear hk p2 ha hf HAL1;obtain ⟨t0,t1,t2,t3,t4,t5,s0,s1,s2,s3,s4,s5⟩:=HZ2.out;go_wp2
 refine bodyPost_ret (by simp [results,results22,go_sem,t0,t1,t2,t3,t4,t5];try rfl) rfl ?_
 have bel:=put6_below (R:=R) (by rw [HRR.out];exact nL) HB2.out
 exact ⟨b',m,q,rfl,HA.out,HO.out.put6 (A5 HF.out HRL.out) _ _ _ _ _ _,bel _ _ _ _ _ _⟩
theorem Dm (t:Int) (a1:Option Addr) (len1 cap1:Nat) (z1:List Int) (l:List UInt8) (w:World) (w1:IsRow .i64 w a1 len1 cap1 z1) (hE:E0 w) :
  Calls prog 4 #[.int .i64 t,.slice a1 len1 cap1,.string ⟨l.toArray⟩] w fun e w'=>e=.returned (.bool true)∧BW w w':=by
 obtain ⟨hl,hz⟩:=ints_of_row w1;clear w1
 generalize z1.take len1=zs at hl hz
 subst hl
 by_cases hbig:(1048576:Int)<(zs.length:Int)
 ·clear hz hE
  go_enter func4,ntmps4
  go_wp2;go_ret;exact ⟨rfl,bR⟩
 by_cases hbig2:(1048576:Int)<(l.length:Int)
 ·clear hz hE
  go_enter func4,ntmps4
  go_wp2;go_ret;exact ⟨rfl,bR⟩
 have hll:l.length≤1048576:=by omega
 have hn:zs.length≤1048576:=by omega
 have HZ:Hid (IntsAt w a1 zs):=hz;have HE:Hid (E0 w):=hE;obtain ⟨rs,hrs⟩:∃ x,Ab l=x:=⟨_,rfl⟩
 have HI:Hid (∀ u,BW w u→Calls prog 12 #[.slice a1 zs.length cap1] u fun e w'=>e=.returned (.slice (some ⟨u.heap.size,0,none⟩) zs.length zs.length)∧w'.ownsRow u.heap.size 3 1 (.slice (some ⟨u.heap.size,0,none⟩) zs.length zs.length) zs.length (zs.map (Value.int .i64))∧BW u w'):=fun u h=>toIntS_any a1 cap1 zs u (HZ.out.below h) hn
 have HRS:Hid _:=hrs;clear hz hE hrs
 go_enter func4,ntmps4
 go_wp2_with fail
 have B0:Hid (BW w w):=bR;refine Calls.mono (HI.out w B0.out) ?_;rintro e u1 ⟨rfl,o1,p1⟩;have B1:Hid (BW w u1):=next B0.out p1;have X1:Hid (IntsAt u1 (some ⟨w.heap.size,0,none⟩) zs):=ints_own o1;clear o1 p1
 have HSP:Hid (Calls prog 22 #[.int .i64 t,.slice (some ⟨w.heap.size,0,none⟩) zs.length zs.length,.string ⟨l.toArray⟩] u1 (D6 t zs rs u1)):=by rw [← HRS.out];exact Cu t _ _ zs l u1 X1.out hn hll
 go_wp2_with fail
 refine Calls.mono HSP.out ?_;rintro e u3 ⟨b,n,p,rfl,hal,hbk,p3⟩;unfold bkv;have HAL:Hid (Ag t zs rs b n):=hal;obtain ⟨X8,hX8⟩:∃ X,u3.heap.size=X:=⟨_,rfl⟩;obtain ⟨W8,hW8⟩:∃ W,W=u3.alloc (.cells #[.int .i64 b.today,.slice p.o b.off.length p.oc,.slice p.a b.az.length p.ac,.slice p.c b.cs.length p.cc,.slice p.l b.ls.length p.lc,.slice p.g b.log.length p.gc] 31):=⟨_,rfl⟩
 have b8:BW u3 W8:=by rw [hW8];exact bR.alloc nL _
 have Z8:Hid (ZB X8 b p W8):=by rw [Hid,hW8,← hX8];exact Z6.new u3 _ _ _ _ _ _ _
 have K8:Hid (BookAt W8 b p):=hbk.below b8;have B8:Hid (BW w W8):=next (next B1.out p3) b8
 have V8:Hid (∀ u,BW W8 u→BW w u):=fun u h=>next B8.out h
 have EQ8:Hid _:=hW8;have EX8:Hid _:=hX8;clear hal hbk p3 b8 hW8 hX8 HSP X1 B0 B1;go_upto_region 6 with fail
 rw [← EQ8.out,EX8.out];clear EQ8 EX8;go_wp2_with fail
 refine Calls.mono (HI.out W8 B8.out) ?_;rintro e u4 ⟨rfl,o4,p4⟩;obtain ⟨I,hI⟩:∃ I,W8.heap.size=I:=⟨_,rfl⟩;have B4:Hid (BW W8 u4):=p4
 have R4:Hid (u4.ownsRow I 3 1 (.slice (some ⟨I,0,none⟩) zs.length zs.length) zs.length (zs.map (Value.int .i64))):=by rw [Hid,← hI];exact o4
 have HIV:Hid (W8.heap.size=I):=hI;rw [hI];clear o4 p4 hI;have HIT:Hid (I<u4.heap.size):=(R4.out.lt I rfl).2;have HE5:Hid (E0 u4):=Al _ _ HE.out ((V8.out u4 B4.out).mono HE.out.size)
 have HIM:Hid (Calls prog 23 #[.int .i64 t,.slice (some ⟨I,0,none⟩) zs.length zs.length,.string ⟨l.toArray⟩] u4 (D0 t zs rs u4)):=by rw [← HRS.out];exact Bg t _ _ zs l u4 (ints_own R4.out) hn hll HE5.out
 go_wp2_with fail
 refine Calls.mono HIM.out ?_;rintro e u6 ⟨b',n',q,rfl,hai,hj,how,p6⟩;obtain ⟨hbb,hnn⟩:=Bh hai HAL.out
 have HALF:Hid (Ag t zs rs b' n'):=by rw [hbb,hnn];exact HAL.out
 subst hbb;subst hnn;unfold bkv;have HSM:Hid (bkSm b'):=(jw_pre hj).sm;obtain ⟨X12,hX12⟩:∃ X,u6.heap.size=X:=⟨_,rfl⟩;obtain ⟨W12,hW12⟩:∃ W,W=u6.alloc (.cells #[.int .i64 b'.today,.slice q.o b'.off.length q.oc,.slice q.a b'.az.length q.ac,.slice q.c b'.cs.length q.cc,.slice q.l b'.ls.length q.lc,.slice q.g b'.log.length q.gc] 31):=⟨_,rfl⟩
 have b12:BW u6 W12:=by rw [hW12];exact bR.alloc nL _
 have Z12:Hid (ZB X12 b' q W12):=by rw [Hid,hW12,← hX12];exact Z6.new u6 _ _ _ _ _ _ _
 have O12:Hid (Ae u4.heap.size b' q W12):=how.below b12
 have HROW:Hid (∀ r,Bn b' q r→∀ u u':World,u.grownBy u' r→LQ W8 X12 b' q u→LQ W8 X12 b' q u'):=Dh how (by have:=B4.out.size;exact this) (by rw [hX12];exact nL)
 have B12:Hid (BW W8 W12):=next (next B4.out p6) b12;have R12:Hid (W12.ownsRow I 3 1 (.slice (some ⟨I,0,none⟩) zs.length zs.length) zs.length (zs.map (Value.int .i64))):=keepL (keepL R4.out p6) b12
 have HTX:Hid (u4.heap.size≤X12):=by rw [Hid,← hX12];exact p6.size
 have EQ12:Hid _:=hW12;have EX12:Hid _:=hX12;clear hai hj how p6 b12 hW12 hX12 HIM R4 HAL HE5 B4;go_upto_region 8 with fail
 rw [← EQ12.out,EX12.out];clear EQ12 EX12
 have HEQ:Hid (∀ (u:World) (q':Bp),BW W8 u→BookAt u b' q'→Calls prog 15 #[bkv b' q',bkv b' p] u fun e w'=>e=.returned (.bool true)∧BW u w'):=fun u q' h hk=>eqBook_same b' q' p u hk (K8.out.below h) HSM.out
 unfold bkv at HEQ
 have Z8U:Hid (∀ u,BW W8 u→ZB X8 b' p u):=fun u h=>Z8.out.below h
 obtain ⟨c0,c1,c2,c3,c4,c5,-,-,-,-,-,-⟩:=Z12.out;obtain ⟨d0,d1,d2,d3,d4,d5,-,-,-,-,-,-⟩:=Z8U.out W12 B12.out
 have hnn:(n' != n')=false:=by simp
 go_wp2_with fail
 refine Calls.mono (HEQ.out W12 q B12.out O12.out.at) ?_;rintro e u7 ⟨rfl,p7⟩;have B7:Hid (BW W8 u7):=next B12.out p7;have Z7:Hid (ZB X12 b' q u7):=Z12.out.below p7;have O7:Hid (Ae u4.heap.size b' q u7):=O12.out.below p7;have R7:Hid (u7.ownsRow I 3 1 (.slice (some ⟨I,0,none⟩) zs.length zs.length) zs.length (zs.map (Value.int .i64))):=keepL R12.out p7;clear p7 c0 c1 c2 c3 c4 c5 d0 d1 d2 d3 d4 d5 Z12 O12 R12 B12;go_wp2_with fail
 refine Calls.mono (HI.out u7 (V8.out u7 B7.out)) ?_;rintro e u8 ⟨rfl,o8,p8⟩;have y8:=ints_own o8;have B8':Hid (BW W8 u8):=next B7.out p8
 have HCI:Hid (Calls prog 16 #[.slice (some ⟨I,0,none⟩) zs.length zs.length,.slice (some ⟨u7.heap.size,0,none⟩) zs.length zs.length] u8 fun e w'=>e=.returned (.bool (decide (zs=zs)))∧BW u8 w'):=eqIntS_any _ _ _ _ zs zs u8 ((ints_own R7.out).below p8) y8 (by omega) (by omega)
 have P8:Hid (BW u7 u8):=p8;rw [decide_eq_true (rfl:zs=zs)] at HCI;clear o8 p8 y8;go_wp2_with fail
 refine Calls.mono HCI.out ?_;rintro e u9 ⟨rfl,p9⟩;have P9:Hid (BW u7 u9):=next P8.out p9;have B9:Hid (BW W8 u9):=next B8'.out p9;have P11:Hid (BW u7 u9):=P9.out;have B11:Hid (BW W8 u9):=B9.out;clear p9 HCI P8 B8' P9 B9;have Z11:Hid (ZB X12 b' q u9):=Z7.out.below P11.out;have O11:Hid (Ae u4.heap.size b' q u9):=O7.out.below P11.out;have R11:Hid (u9.ownsRow I 3 1 (.slice (some ⟨I,0,none⟩) zs.length zs.length) zs.length (zs.map (Value.int .i64))):=keepL R7.out P11.out
 have HMI:Hid (Calls prog 18 #[.slice (some ⟨I,0,none⟩) zs.length zs.length,.int .i64 1] u9 fun e w'=>e=.returned (.int .i64 (1+(zs.length:Int)))∧w'.ownsRow I 3 1 (.slice (some ⟨I,0,none⟩) zs.length zs.length) zs.length ((cnt 1 zs.length).map (Value.int .i64))∧u9.grownBy w' (Value.slice (some ⟨I,0,none⟩) zs.length zs.length).ownBlock):=markIntS_any _ _ _ I 1 _ u9 R11.out (by omega) (by omega) (by omega)
 obtain ⟨m1,hm1⟩:∃ m:Nat,1+zs.length=m:=⟨_,rfl⟩
 rw [show (1:Int)+(zs.length:Int)=(m1:Int) from by omega] at HMI
 have hm1b:0<m1∧m1≤1048577:=by omega
 have hm2b:¬ (m1:Int)<0:=by omega
 clear P11 Z7 O7 R7 B7 hm1 hm1b;go_wp2_with fail
 refine Calls.mono HMI.out ?_;rintro e u12 ⟨rfl,-,g12⟩;replace g12:u9.grownBy u12 (some I):=g12
 have B12:Hid (BW W8 u12):=B11.out.grown g12 B11.out.size (fun j hj=>by injection hj with hj;have:=HIV.out;omega)
 have Z12:Hid (ZB X12 b' q u12):=Z11.out.grown g12 (fun e=>by injection e with e;have:=HTX.out;have:=HIT.out;omega)
 have O12:Hid (Ae u4.heap.size b' q u12):=O11.out.far g12 (by have:=HIT.out;omega)
 clear g12 HMI B11 Z11 O11 R11;obtain ⟨c0,c1,c2,c3,c4,c5,-,-,-,-,-,-⟩:=Z12.out;obtain ⟨d0,d1,d2,d3,d4,d5,-,-,-,-,-,-⟩:=Z8U.out u12 B12.out;go_wp2_with fail
 refine Calls.mono (HEQ.out u12 q B12.out O12.out.at) ?_;rintro e u14 ⟨rfl,p14⟩;have B14:Hid (BW W8 u14):=next B12.out p14;have Z14:Hid (ZB X12 b' q u14):=Z12.out.below p14;have O14:Hid (Ae u4.heap.size b' q u14):=O12.out.below p14
 have HMB:Hid (Calls prog 20 #[bkv b' q,.int .i64 1] u14 fun e w'=>e=.returned (.int .i64 (De b':Int))∧Cy u4.heap.size b' q w'∧LQ W8 X12 b' q w'):=Cw b' q _ u14 O14.out HSM.out (LQ W8 X12 b' q) HROW.out ⟨B14.out,Z14.out⟩
 unfold bkv at HMB
 have HHB:Hid (∀ u,Cy u4.heap.size b' q u→Calls prog 21 #[bkv b' q,.int .i64 1] u fun e w'=>e=.returned (.int .i64 (De b':Int))∧BW u w'):=fun u h=>Cn b' q _ u h HSM.out
 unfold bkv at HHB;obtain ⟨K6,hK6⟩:∃ k:Nat,De b'=k:=⟨_,rfl⟩;rw [hK6] at HMB HHB
 have hkn:¬ (K6:Int)<0:=by omega
 have hkk:((K6:Int) != (K6:Int))=false:=by simp
 clear p14 c0 c1 c2 c3 c4 c5 d0 d1 d2 d3 d4 d5 B12 Z12 O12 hK6 HROW;obtain ⟨c0,c1,c2,c3,c4,c5,-,-,-,-,-,-⟩:=Z14.out;go_wp2_with fail
 refine Calls.mono HMB.out ?_;rintro e u15 ⟨rfl,mk15,lq15⟩;have B15:Hid (BW W8 u15):=lq15.1;have Z15:Hid (ZB X12 b' q u15):=lq15.2;have M15:Hid (Cy u4.heap.size b' q u15):=mk15;clear mk15 lq15 c0 c1 c2 c3 c4 c5 Z14 O14 B14 HMB;obtain ⟨c0,c1,c2,c3,c4,c5,-,-,-,-,-,-⟩:=Z15.out;go_wp2_with fail
 refine Calls.mono (HHB.out u15 M15.out) ?_;rintro e u16 ⟨rfl,p16⟩;have B16:Hid (BW W8 u16):=next B15.out p16;have Z16:Hid (ZB X12 b' q u16):=Z15.out.below p16;have M16:Hid (Cy u4.heap.size b' q u16):=M15.out.below p16;clear p16 c0 c1 c2 c3 c4 c5 Z15 M15 B15;go_wp2_with fail
 refine Calls.mono (HI.out u16 (V8.out u16 B16.out)) ?_;rintro e u17 ⟨rfl,o17,p17⟩;have P17:Hid (BW u16 u17):=p17;have X17:Hid (IntsAt u17 (some ⟨u16.heap.size,0,none⟩) zs):=ints_own o17;have B17:Hid (BW W8 u17):=next B16.out p17;clear o17 p17;have HE18:Hid (E0 u17):=Al _ _ HE.out ((V8.out u17 B17.out).mono HE.out.size)
 have HIM2:Hid (Calls prog 23 #[.int .i64 t,.slice (some ⟨u16.heap.size,0,none⟩) zs.length zs.length,.string ⟨l.toArray⟩] u17 fun e w'=>∃ q2,e=.returned (.tuple #[bkv b' q2,.int .i64 n'])∧BookAt w' b' q2∧BW u17 w'):=(Bg t _ _ zs l u17 X17.out hn hll HE18.out).mono (fun e w' h=>by
  obtain ⟨b2,n2,q2,h1,h2,_,h4,h5⟩:=h;rw [HRS.out] at h2;obtain ⟨e1,e2⟩:=Bh h2 HALF.out;subst e1;subst e2;exact ⟨q2,h1,h4.at,h5⟩)
 unfold bkv at HIM2;have PZ:Hid (BW u16 u17):=P17.out;have BZ:Hid (BW W8 u17):=B17.out;clear X17 P17 B17 HE18;go_wp2_with fail
 refine Calls.mono HIM2.out ?_;rintro e u19 ⟨q2,rfl,bk19,p19⟩;obtain ⟨X17,hX17⟩:∃ X,u19.heap.size=X:=⟨_,rfl⟩;obtain ⟨W17,hW17⟩:∃ W,W=u19.alloc (.cells #[.int .i64 b'.today,.slice q2.o b'.off.length q2.oc,.slice q2.a b'.az.length q2.ac,.slice q2.c b'.cs.length q2.cc,.slice q2.l b'.ls.length q2.lc,.slice q2.g b'.log.length q2.gc] 31):=⟨_,rfl⟩
 have b17:BW u19 W17:=by rw [hW17];exact bR.alloc nL _
 have Z17:Hid (ZB X17 b' q2 W17):=by rw [Hid,hW17,← hX17];exact Z6.new u19 _ _ _ _ _ _ _
 have K17:Hid (BookAt W17 b' q2):=bk19.below b17;have P17:Hid (BW u16 W17):=next (next PZ.out p19) b17;have B17:Hid (BW W8 W17):=next (next BZ.out p19) b17;have EQ17:Hid _:=hW17;have EX17:Hid _:=hX17;clear bk19 p19 b17 hW17 hX17 HIM2 PZ BZ;go_upto_region 25 with fail
 rw [← EQ17.out,EX17.out];clear EQ17 EX17;obtain ⟨c0,c1,c2,c3,c4,c5,-,-,-,-,-,-⟩:=Z17.out;obtain ⟨d0,d1,d2,d3,d4,d5,-,-,-,-,-,-⟩:=Z8U.out W17 B17.out;go_wp2_with fail
 refine Calls.mono (HEQ.out W17 q2 B17.out K17.out) ?_;rintro e u20 ⟨rfl,p20⟩;have P20:Hid (BW u16 u20):=next P17.out p20;have B20:Hid (BW W8 u20):=next B17.out p20;have Z20:Hid (ZB X12 b' q u20):=Z16.out.below P20.out;have M20:Hid (Cy u4.heap.size b' q u20):=M16.out.below P20.out;clear p20 c0 c1 c2 c3 c4 c5 d0 d1 d2 d3 d4 d5 Z17 K17 P17 B17 P20;obtain ⟨c0,c1,c2,c3,c4,c5,-,-,-,-,-,-⟩:=Z20.out;go_wp2_with fail
 refine Calls.mono (HHB.out u20 M20.out) ?_;rintro e u21 ⟨rfl,p21⟩;have HFIN:Hid (BW w u21):=V8.out u21 (next B20.out p21);clear p21 c0 c1 c2 c3 c4 c5;go_wp2;go_ret;exact ⟨rfl,HFIN.out⟩
end Go.Proofs.YtomiclakhjncbaaGreatDoor.Kb
