import Derived.Test.YtomiclakhjncbaaGreatDoorJA8a
import Derived.Test.YtomiclakhjncbaaGreatDoorJA1a
import Derived.Test.YtomiclakhjncbaaGreatDoorJA2a
import Derived.Test.YtomiclakhjncbaaGreatDoorJA4a
import Derived.Test.YtomiclakhjncbaaGreatDoorKACStart
import Derived.Test.YtomiclakhjncbaaGreatDoorKAICaseDo
import Derived.Test.YtomiclakhjncbaaGreatDoorJA0a
import Derived.Test.YtomiclakhjncbaaGreatDoorKAKbOpen
import Derived.Test.YtomiclakhjncbaaGreatDoorKAKbHand
import Derived.Test.YtomiclakhjncbaaGreatDoorJA7a
import Derived.Test.YtomiclakhjncbaaGreatDoorKACaMk
import Derived.Test.YtomiclakhjncbaaGreatDoorKALnLaw2
namespace Go.Proofs.YtomiclakhjncbaaGreatDoor.Kb
open Go.RowKit
set_option maxRecDepth 100000
set_option maxHeartbeats 12800000
theorem var_keepG {w w':World} {n:String} {g G:Nat} {cs:Array Value} (h:w.var? Tryz.prog n=some cs) (hg:Tryz.prog.globalNamed n=some g) (hG:g<G) (hb:Below G w w'):w'.var? Tryz.prog n=some cs:=by
 unfold World.var? at *
 simp only [hg,Option.bind_some] at h ⊢
 rw [hb.block g hG]
 exact h
structure E0 (w:World):Prop where
 size:17≤w.heap.size
 step:StepTab w
 pow : Lib.TabIs Tryz.prog w "internal/strconv.uint64pow10" .u64 Lib.pow10Tab
 max:∃ m,w.cell? ⟨10,0,none⟩=some (.int .i64 m)
 eFull:∃ t a,w.cell? ⟨1,0,none⟩=some (.iface t (.pointer (some a)))
 eLine:∃ t a,w.cell? ⟨3,0,none⟩=some (.iface t (.pointer (some a)))
 eDay:∃ t a,w.cell? ⟨4,0,none⟩=some (.iface t (.pointer (some a)))
 eAuth:∃ t a,w.cell? ⟨5,0,none⟩=some (.iface t (.pointer (some a)))
 eCases:∃ t a,w.cell? ⟨6,0,none⟩=some (.iface t (.pointer (some a)))
 eCase:∃ t a,w.cell? ⟨7,0,none⟩=some (.iface t (.pointer (some a)))
 eMoney:∃ t a,w.cell? ⟨8,0,none⟩=some (.iface t (.pointer (some a)))
 eAct:∃ t a,w.cell? ⟨9,0,none⟩=some (.iface t (.pointer (some a)))
 words:∀ k,k<10→w.cell? ⟨0,k,none⟩=some (.string ⟨(nth actsW k).toArray⟩)
theorem grow_belowK (w:World) (q:Nat) (os:Array Obj):Below w.heap.size w (Go.Sort.grow (w.drewN q) os) :=
 ⟨rfl,rfl,rfl,by simp [Go.Sort.grow,World.drewN],fun k hk=>by simp [Go.Sort.grow,World.drewN,Array.getElem?_append,hk]⟩
theorem e0_keep (w w':World) (h:E0 w) (hb:Below 17 w w'):E0 w':=by
 have k:∀ (g i:Nat) (v:Value),g<17→w.cell? ⟨g,i,none⟩=some v→w'.cell? ⟨g,i,none⟩=some v:=fun g i v hg hc=>(hb.cell (p:=⟨g,i,none⟩) hg).trans hc
 obtain ⟨m,hm⟩:=h.max
 obtain ⟨teFull,aeFull,heFull⟩:=h.eFull
 obtain ⟨teLine,aeLine,heLine⟩:=h.eLine
 obtain ⟨teDay,aeDay,heDay⟩:=h.eDay
 obtain ⟨teAuth,aeAuth,heAuth⟩:=h.eAuth
 obtain ⟨teCases,aeCases,heCases⟩:=h.eCases
 obtain ⟨teCase,aeCase,heCase⟩:=h.eCase
 obtain ⟨teMoney,aeMoney,heMoney⟩:=h.eMoney
 obtain ⟨teAct,aeAct,heAct⟩:=h.eAct
 exact ⟨Nat.le_trans h.size hb.size,var_keepG h.step (g:=16) (by kernel_rfl) (by decide) hb,var_keepG h.pow (g:=13) (by kernel_rfl) (by decide) hb,⟨m,k _ _ _ (by decide) hm⟩,⟨_,_,k _ _ _ (by decide) heFull⟩,⟨_,_,k _ _ _ (by decide) heLine⟩,⟨_,_,k _ _ _ (by decide) heDay⟩,⟨_,_,k _ _ _ (by decide) heAuth⟩,⟨_,_,k _ _ _ (by decide) heCases⟩,⟨_,_,k _ _ _ (by decide) heCase⟩,⟨_,_,k _ _ _ (by decide) heMoney⟩,⟨_,_,k _ _ _ (by decide) heAct⟩,fun i hi=>k _ _ _ (by decide) (h.words i hi)⟩
theorem n18_wf {x:Int} (h:N18 x):wf64 x:=WalkArith.wf_i64 (by obtain ⟨h1,h2⟩:=h;omega)
theorem wf_bd {x:Int} (h:wf64 x):-9223372036854775808≤x∧x≤9223372036854775807:=by
 simp [wf64,Lit.wf,IntKind.min,IntKind.max,IntKind.signed,IntKind.bits] at h;omega
theorem start_bd {iss acq cur am day:Int} (h1:N18 iss) (h2:N18 acq) (h3:N18 cur) (h4:N18 am):∀ x ∈ startE iss acq cur am day,enBd x:=by
 intro x hx
 unfold startE at hx
 split at hx
 ·simp at hx;subst hx;exact ⟨n18_wf h1,n18_wf h2,n18_wf h3,n18_wf h4⟩
 ·cases hx
theorem to_bd {c:Cs} {n:Int} (hc:csBd c) (hn:wf64 n):(∀ x ∈ toIss c n,enBd x)∧(∀ x ∈ fromIss c n,enBd x):=by
 obtain ⟨h1,h2,h3,-⟩:=hc
 refine ⟨fun x hx=>?_,fun x hx=>?_⟩
 ·unfold toIss at hx
  split at hx
  ·cases hx
  ·simp at hx;subst hx;exact ⟨h2,h1,h3,hn⟩
 ·unfold fromIss at hx
  split at hx
  ·cases hx
  ·simp at hx;subst hx;exact ⟨h1,h2,h3,hn⟩
theorem rule_bd {c:Cs} {n:Int} (hc:csBd c) (hn:wf64 n):∀ x ∈ ruleE c n,enBd x:=by
 intro x hx
 unfold ruleE at hx
 rcases List.mem_append.1 hx with hx | hx
 ·exact (to_bd hc hn).1 x hx
 ·simp at hx;subst hx
  obtain ⟨h1,h2,h3,-⟩:=hc
  refine ⟨?_,(show wf64 9999 from wf_small (by omega)),h3,(show wf64 50000 from wf_small (by omega))⟩
  show wf64 (loser c n)
  unfold loser
  split
  ·exact h2
  ·exact h1
theorem do_bd {c:Cs} {a:Ac} {t:Int} {zs:List Int} (hc:csBd c) (ha:N18 a.am):∀ x ∈ doE c a t zs,enBd x:=by
 intro x hx
 have hcl:wf64 c.cl:=hc.2.2.2.2.2.2.1
 have hhf:wf64 (c.cl / 2):=WalkArith.wf_i64 (by have:=wf_bd hcl;omega)
 unfold doE at hx
 split at hx
 ·unfold nextE at hx
  split at hx
  ·exact (to_bd hc (n18_wf ha)).1 x hx
  split at hx
  ·exact (to_bd hc (n18_wf ha)).2 x hx
  split at hx
  ·exact (to_bd hc hcl).1 x hx
  split at hx
  ·exact rule_bd hc (n18_wf ha) x hx
  split at hx
  ·unfold expireE at hx
   split at hx
   ·cases hx
   split at hx
   ·exact (to_bd hc hcl).1 x hx
   split at hx
   ·exact rule_bd hc hhf x hx
   ·cases hx
  ·cases hx
 ·cases hx
theorem best_low {az:List Au} {i c a d x:Int} (h:BestAt az i c a d x):-1≤x:=by
 rcases h with ⟨-,h⟩ | ⟨-,rfl⟩
 ·rcases h with ⟨rfl,-⟩ | ⟨k,-,rfl,-⟩ <;> omega
 ·omega
theorem kn0:KnI F0 E0 17 where
 keep:=e0_keep
 size:=fun w h=>h.size
 num:=fun l w h=>(Tg.iNumOf_any l w (by omega)).mono (fun e w' ⟨h1,h2⟩=>⟨h1,by rw [h2];exact Below.refl _ _⟩)
 dec:=fun m w h hE=>(Tryz.strconv_Itoa m (by omega) (by omega) w hE.pow).mono (fun e w' hw=>by
  obtain ⟨rfl,k,os,rfl⟩:=hw
  exact ⟨by rw [Lib.itoa,if_neg (by omega)];rfl,grow_belowK w k os⟩)
 clone:=fun l w h=>clone_any l w (by omega)
 split:=fun l w h hE=>by obtain ⟨m,hm⟩:=hE.max;exact kSplit l m w h hm
 eFull:=fun w h=>h.eFull
 eLine:=fun w h=>h.eLine
 eDay:=fun w h=>h.eDay
 eAuth:=fun w h=>h.eAuth
 eCases:=fun w h=>h.eCases
 eCase:=fun w h=>h.eCase
 eMoney:=fun w h=>h.eMoney
 eAct:=fun w h=>h.eAct
 words:=fun w h=>h.words
 prune:=fun ao cap az t w h hn hd=>iPrune_any ao cap az t w h (by omega) (fun a ha=>by have:=hd a ha;omega)
 use:=fun ao cap az i w h hn hd=>iUse_any ao cap az i w h (by omega) (fun a ha=>by have:=hd a ha;omega)
 add:=fun ao cap az a w h hn hd hl hc=>iAdd10_any ao cap az a w h hn (fun x hx=>by have:=hd x hx;omega) (by omega) (n18_wf hc)
 best:=fun ao cap az iss cur am day w h hn hd hc w3 w4=>iBest_any ao cap az iss cur am day w h hn (fun a ha=>by have:=hd a ha;omega) hc w3 w4
 start:=fun iss acq cur am day w h=>iStart_any iss acq cur am day w (n18_wf h)
 small:=fun iss acq cur am day=>⟨by have:=startE_len iss acq cur am day;show (startE iss acq cur am day).length≤1048576;omega,fun h1 h2 h3 h4=>start_bd h1 h2 h3 h4⟩
 act:=fun c a t ao cp zs w h hn hE hc=>Go.Proofs.YtomiclakhjncbaaGreatDoor.iDo_any c a t ao cp zs w h (by omega) hE.step (by have:=hE.size;omega) hc.2.2.1
 few:=fun c a t zs=>⟨by have:=doE_len c a t zs;show (doE c a t zs).length≤1048576;omega,fun h1 h2=>do_bd h1 h2⟩
 low:=fun az i c a d x h=>best_low h
 stay:=fun ls es h=>by
  show allL ls es=ls
  have h':(postsL ls es).isSome=false:=h
  unfold allL
  cases hp:postsL ls es with
  | none=>rfl
  | some g=>rw [hp] at h';cases h'
 code:=fun c a t zs=>by have:=doV_bd c a t zs;show 0≤doV c a t zs∧doV c a t zs≤1000;omega
 post:=fun ao cap ls eo ec es w h hn hb hy hm he=>iPostAll_any ao cap ls eo ec es w h hn hb hy hm he
def startB (t:Int) (zs:List Int):Bk:=⟨t,zs,[],[],[],[]⟩
def AllRl (t:Int) (zs:List Int) (rs:Recs) (b':Bk) (n:Int):Prop :=
 if bsOk t zs=true then ∃ k:Nat,n=(k:Int)∧k≤rs.length∧Did F0 (startB t zs) (rs.take k) b'∧(k<rs.length→∃ r,DoRl F0 b' (nth rs k) r∧r.2≠0) else b'=startB 0 []∧n = -1
structure Own5 (B:Nat) (b:Bk) (q:Bp) (u:World):Prop where
 off:u.ownsRow B 3 1 (.slice q.o b.off.length q.oc) b.off.length (b.off.map (Value.int .i64))
 az:u.ownsRow B 107 6 (.slice q.a b.az.length q.ac) b.az.length (acells b.az)
 cs:u.ownsRow B 61 12 (.slice q.c b.cs.length q.cc) b.cs.length (cscells b.cs)
 ls:u.ownsRow B 113 3 (.slice q.l b.ls.length q.lc) b.ls.length (lcells b.ls)
 log:u.ownsRow B 9 1 (.slice q.g b.log.length q.gc) b.log.length (scells b.log)
theorem Own5.at {B:Nat} {b:Bk} {q:Bp} {u:World} (h:Own5 B b q u):BookAt u b q:=⟨ints_own h.off,auths_any h.az,cases_own h.cs,lines_any h.ls,txts_any h.log⟩
theorem Own5.below {B:Nat} {b:Bk} {q:Bp} {u u':World} (h:Own5 B b q u) (hb:Below u.heap.size u u'):Own5 B b q u':=⟨keepL h.off hb,keepL h.az hb,keepL h.cs hb,keepL h.ls hb,keepL h.log hb⟩
theorem Own5.low {B B':Nat} {b:Bk} {q:Bp} {u:World} (h:Own5 B b q u) (hb:B'≤B):Own5 B' b q u:=⟨own_low h.off hb,own_low h.az hb,own_low h.cs hb,own_low h.ls hb,own_low h.log hb⟩
theorem KS.own5 {B K:Nat} {st:Int} {b:Bk} {q:Bp} {u:World} (h:KS B K st b q u):Own5 B b q u:=⟨h.off,h.az,h.cs,h.ls,h.log⟩
def AlR (t:Int) (zs:List Int) (rs:Recs) (w:World) (e:Ending) (w':World):Prop :=
 ∃ (b':Bk) (n:Int) (q:Bp),e=.returned (.tuple #[bkv b' q,.int .i64 n])∧AllRl t zs rs b' n∧JW b'∧Own5 w.heap.size b' q w'∧Below w.heap.size w w'
theorem led0:ledgerOk []=true:=by decide
theorem jw_start {t:Int} {zs:List Int} (h:bsOk t zs=true):JW (startB t zs):=by
 simp only [bsOk,offOk,Bool.and_eq_true,decide_eq_true_eq] at h
 exact ⟨⟨(by show zs.length≤1000;omega),Nat.le_refl _,Nat.le_refl _,(fun a ha=>nomatch ha),(fun a ha=>nomatch ha),led0,h.1⟩,(by show 0≤600;omega),(fun a ha=>nomatch ha)⟩
theorem jw_zero:JW (startB 0 []):=jw_start (by decide)
theorem jw_step (b:Bk) (l:List UInt8) (b2:Bk) (hl:l.length<1048576) (h:JW b) (hd:DoRl F0 b l (b2,0)) (hx:∃ r,BkRel Rel0 b l r):JW b2:=by
 obtain ⟨r,hr⟩:=hx
 have h1:=(do_agree hd hr).1
 have h2:=jw_do h (by omega) hr
 rw [← h1] at h2
 exact h2
theorem rel_some (b:Bk) (l:List UInt8) {r:Bk×Int} (h:DoRl F0 b l r):∃ r',BkRel Rel0 b l r':=by
 unfold DoRl at h
 split at h
 ·exact ⟨(b,2),.inl ⟨‹_›,rfl⟩⟩
 ·rename_i hf
  obtain ⟨r0,h0,-⟩:=h
  have hs:∃ s,Rel0 b l s:=by
   unfold Rel0 LineRel
   split
   ·exact ⟨_,rfl⟩
   split
   ·split
    ·exact ⟨_,rfl⟩
    ·exact ⟨_,rfl⟩
   split
   ·rename_i hp
    split
    ·rename_i hn
     unfold WordsI at h0
     simp only [isPay,Bool.and_eq_true,decide_eq_true_eq] at hp
     have e0:=hp.1
     rw [if_neg (by rw [e0];decide),if_neg (by rw [e0];decide),if_pos e0] at h0
     unfold PayRl at h0
     rw [if_pos ⟨hn,by rw [List.length_drop];omega⟩] at h0
     obtain ⟨x,hx,-⟩:=h0
     obtain ⟨a,c,d,e,f,hws⟩:=len_five hp.2
     rw [hws] at hx ⊢
     exact ⟨_,x,hx,rfl⟩
    ·exact ⟨_,rfl⟩
   split
   ·split
    ·exact ⟨_,rfl⟩
    ·exact ⟨_,rfl⟩
   ·exact ⟨_,rfl⟩
  obtain ⟨s,hs⟩:=hs
  by_cases hc:s.2=0
  ·exact ⟨_,.inr ⟨by omega,s,hs,.inr ⟨hc,rfl⟩⟩⟩
  ·exact ⟨_,.inr ⟨by omega,s,hs,.inl ⟨hc,rfl⟩⟩⟩
theorem iAll_any (t:Int) (ao:Option Addr) (c:Nat) (zs:List Int) (lo:Option Addr) (lc:Nat) (rs:Recs) (w:World) (hx:IntsAt w ao zs) (hn:zs.length≤1048576) (hz:TxtsAt w lo rs) (hm:rs.length≤1048576) (hd:∀ r ∈ rs,r.length<1048576) (hE:E0 w) :
  Calls Tryz.prog 14 #[.int .i64 t,.slice ao zs.length c,.slice lo rs.length lc] w (AlR t zs rs w):=by
 obtain ⟨R,hR⟩:∃ R,w.heap.size=R:=⟨_,rfl⟩
 obtain ⟨W,hW⟩:∃ W,W=w.alloc (.cells #[.int .i64 0,.slice none 0 0,.slice none 0 0,.slice none 0 0,.slice none 0 0,.slice none 0 0] 31):=⟨_,rfl⟩
 have HBW:Hid (Below w.heap.size w W):=by rw [Hid,hW];exact (Below.refl _ _).alloc (Nat.le_refl _) _
 have HZ0:Hid (Z6 R (.int .i64 0) (.slice none 0 0) (.slice none 0 0) (.slice none 0 0) (.slice none 0 0) (.slice none 0 0) W):=by rw [Hid,hW,← hR];exact Z6.new w _ _ _ _ _ _ _
 have HST:Hid (Calls Tryz.prog 44 #[.int .i64 t,.slice ao zs.length c] W (BsR W t zs)):=iBStart_any t ao c zs W (hx.below HBW.out) hn
 have HTX:Hid (TxtsAt w lo rs):=hz
 have HTL:Hid (rs≠[]→∀ x,lo=some x→x.block<w.heap.size):=fun hne x hx=>by
  rcases hz with h | ⟨g,off,h1,h2,_⟩
  ·exact absurd h hne
  ·rw [h1] at hx;injection hx with hx;subst hx;exact h2
 have HE:Hid (E0 w):=hE
 have HD:Hid (∀ r ∈ rs,r.length<1048576):=hd
 have HRR:Hid _:=hR
 have HWW:Hid _:=hW
 clear hx hz hE hd hR hW
 go_enter Tryz.func14,Tryz.ntmps14
 go_wp2_with fail
 rw [← HWW.out]
 refine Calls.mono HST.out ?_
 rintro e w1 ⟨a,k,rfl,o1,p1⟩
 rw [HRR.out]
 have HB1:Hid (Below w.heap.size w w1):=next HBW.out p1
 have HZ1:Hid (Z6 R (.int .i64 0) (.slice none 0 0) (.slice none 0 0) (.slice none 0 0) (.slice none 0 0) (.slice none 0 0) w1):=HZ0.out.below p1
 have HSW:Hid (R<W.heap.size):=HZ0.out.lt
 have HS1:Hid (W.heap.size≤w1.heap.size):=p1.size
 clear p1 HST HWW HZ0
 cases hok:bsOk t zs
 ·have e1:bsT t zs=0:=if_neg (by rw [hok];decide)
  have e2:bsL t zs=[]:=if_neg (by rw [hok];decide)
  rw [e1,e2]
  simp only [List.length_nil]
  unfold bk0
  obtain ⟨U,hU⟩:∃ U,U=w1.alloc (.cells #[.int .i64 0,.slice a 0 k,.slice none 0 0,.slice none 0 0,.slice none 0 0,.slice none 0 0] 31):=⟨_,rfl⟩
  have HBU:Hid (Below w.heap.size w U):=by rw [Hid,hU];exact HB1.out.alloc HB1.out.size _
  have HZU:Hid (Z6 R (.int .i64 0) (.slice none 0 0) (.slice none 0 0) (.slice none 0 0) (.slice none 0 0) (.slice none 0 0) U):=by rw [Hid,hU];exact HZ1.out.below ((Below.refl _ _).alloc (Nat.le_refl _) _)
  have HQ:Hid (AllRl t zs rs (startB 0 []) (-1)):=by rw [Hid,AllRl,if_neg (by rw [hok];decide)];exact ⟨rfl,rfl⟩
  have HU:Hid _:=hU
  clear hU e1 e2 hok o1
  go_upto_region 2 with fail
  rw [← HU.out]
  obtain ⟨t0,t1,t2,t3,t4,t5,s0,s1,s2,s3,s4,s5⟩:=HZU.out
  go_wp2
  refine bodyPost_ret (by simp [results,Tryz.results14,go_sem,t0,t1,t2,t3,t4,t5];try rfl) rfl ?_
  have bel:=put6_below (R:=R) (by rw [HRR.out];exact Nat.le_refl _) HBU.out
  exact ⟨startB 0 [],-1,⟨none,0,none,0,none,0,none,0,none,0⟩,rfl,HQ.out,jw_zero,⟨World.ownsRow_nil _ _ _ _,World.ownsRow_nil _ _ _ _,World.ownsRow_nil _ _ _ _,World.ownsRow_nil _ _ _ _,World.ownsRow_nil _ _ _ _⟩,bel _ _ _ _ _ _⟩
 ·have e1:bsT t zs=t:=if_pos hok
  have e2:bsL t zs=zs:=if_pos hok
  rw [e1,e2]
  rw [e2] at o1
  unfold bk0
  obtain ⟨U,hU⟩:∃ U,U=w1.alloc (.cells #[.int .i64 t,.slice a zs.length k,.slice none 0 0,.slice none 0 0,.slice none 0 0,.slice none 0 0] 31):=⟨_,rfl⟩
  obtain ⟨X,hX⟩:∃ X,w1.heap.size=X:=⟨_,rfl⟩
  have HBU:Hid (Below w.heap.size w U):=by rw [Hid,hU];exact HB1.out.alloc HB1.out.size _
  have HZU:Hid (Z6 R (.int .i64 0) (.slice none 0 0) (.slice none 0 0) (.slice none 0 0) (.slice none 0 0) (.slice none 0 0) U):=by rw [Hid,hU];exact HZ1.out.below ((Below.refl _ _).alloc (Nat.le_refl _) _)
  have HXU:Hid (Z6 X (.int .i64 t) (.slice a zs.length k) (.slice none 0 0) (.slice none 0 0) (.slice none 0 0) (.slice none 0 0) U):=by rw [Hid,hU,← hX];exact Z6.new w1 _ _ _ _ _ _ _
  have HEU:Hid (E0 U):=e0_keep _ _ HE.out (HBU.out.mono HE.out.size)
  have hof:zs.length≤400:=by
   have h:=hok
   simp only [bsOk,offOk,Bool.and_eq_true,decide_eq_true_eq] at h
   exact h.2.1
  have HOP:Hid (Calls Tryz.prog 50 #[.agg #[.int .i64 t,.slice a zs.length k,.slice none 0 0,.slice none 0 0,.slice none 0 0,.slice none 0 0]] U (OpR (startB t zs) U)) :=
   iOpen_any kn0 (startB t zs) ⟨a,k,none,0,none,0,none,0,none,0⟩ U ⟨by rw [hU];exact ints_own (keepL o1 ((Below.refl _ _).alloc (Nat.le_refl _) _)),.inl rfl,.inl rfl,.inl rfl,.inl rfl⟩ ⟨by show zs.length≤1048576;omega,Nat.zero_le _,Nat.zero_le _,Nat.zero_le _,Nat.zero_le _⟩ (fun a ha=>nomatch ha) (fun a ha=>nomatch ha)
  have HRU:Hid (R<U.heap.size):=HZU.out.lt
  have HJ:Hid (JW (startB t zs)):=jw_start hok
  have HQ:Hid (∀ (m:Nat) (b':Bk),m≤rs.length→Did F0 (startB t zs) (rs.take m) b'→(m<rs.length→∃ r,DoRl F0 b' (nth rs m) r∧r.2≠0)→AllRl t zs rs b' (m:Int)):=fun m b' h1 h2 h3=>by rw [AllRl,if_pos hok];exact ⟨m,rfl,h1,h2,h3⟩
  have HU:Hid _:=hU
  have HXX:Hid _:=hX
  clear hU hX e1 e2 hok o1
  go_upto_region 2 with fail
  rw [← HU.out,HXX.out]
  obtain ⟨x0,x1,x2,x3,x4,x5,-,-,-,-,-,-⟩:=HXU.out
  go_wp2_with fail
  refine Calls.mono HOP.out ?_
  rintro e w3 ⟨K,q,rfl,ks3,p3⟩
  have HK3:Hid (KS U.heap.size K 0 (startB t zs) q w3):=ks3
  have HB3:Hid (Below w.heap.size w w3):=next HBU.out p3
  have HZ3:Hid (Z6 R (.int .i64 0) (.slice none 0 0) (.slice none 0 0) (.slice none 0 0) (.slice none 0 0) (.slice none 0 0) w3):=HZU.out.below p3
  have HE3:Hid (E0 w3):=e0_keep _ _ HE.out (HB3.out.mono HE.out.size)
  have HDU:Hid (Calls Tryz.prog 51 #[.pointer (some ⟨K,0,none⟩),.slice lo rs.length lc] w3 (UnR U.heap.size K F0 JW (startB t zs) rs w3)) :=
   iUntil_any kn0 (Nat.le_trans HE.out.size HBU.out.size) (fun b h=>jw_pre h) (fun b l b2 hl h hd=>jw_step b l b2 hl h hd (rel_some b l hd)) (startB t zs) q lo lc rs w3 HK3.out HE3.out HJ.out (HTX.out.below HB3.out) (fun hne x hx=>Nat.lt_of_lt_of_le (HTL.out hne x hx) HBU.out.size) hm HD.out
  clear ks3 p3 HOP x0 x1 x2 x3 x4 x5 HXU
  go_wp2_with fail
  refine Calls.mono HDU.out ?_
  rintro e w4 ⟨m,b',q',rfl,hm1,hm2,hm3,hj,ks4,p4⟩
  have HK4:Hid (KS U.heap.size K 0 b' q' w4):=ks4
  have HZ4:Hid (Z6 R (.int .i64 0) (.slice none 0 0) (.slice none 0 0) (.slice none 0 0) (.slice none 0 0) (.slice none 0 0) w4):=HZ3.out.under p4 HRU.out
  have HB4:Hid (Below w.heap.size w w4):=HB3.out.trans (p4.mono HBU.out.size)
  have HJ4:Hid (JW b'):=hj
  have HQ4:Hid (AllRl t zs rs b' (m:Int)):=HQ.out m b' hm1 hm2 hm3
  have HHO:Hid (Calls Tryz.prog 52 #[.pointer (some ⟨K,0,none⟩)] w4 fun e w'=>e=.returned (bkv b' q')∧KS U.heap.size K 0 b' q' w'∧Below U.heap.size w4 w'):=iHand_any b' q' w4 HK4.out
  unfold bkv at HHO
  clear ks4 p4 hj hm1 hm2 hm3 HDU HQ
  go_wp2_with fail
  refine Calls.mono HHO.out ?_
  rintro e w5 ⟨rfl,ks5,p5⟩
  have HK5:Hid (KS U.heap.size K 0 b' q' w5):=ks5
  have HZ5:Hid (Z6 R (.int .i64 0) (.slice none 0 0) (.slice none 0 0) (.slice none 0 0) (.slice none 0 0) (.slice none 0 0) w5):=HZ4.out.under p5 HRU.out
  have HB5:Hid (Below w.heap.size w w5):=HB4.out.trans (p5.mono HBU.out.size)
  clear ks5 p5 HHO
  obtain ⟨t0,t1,t2,t3,t4,t5,s0,s1,s2,s3,s4,s5⟩:=HZ5.out
  go_wp2
  refine bodyPost_ret (by simp [results,Tryz.results14,go_sem,t0,t1,t2,t3,t4,t5];try rfl) rfl ?_
  have bel:=put6_below (R:=R) (by rw [HRR.out];exact Nat.le_refl _) HB5.out
  have o5:=HK5.out.own5
  exact ⟨b',m,q',rfl,HQ4.out,HJ4.out,(Own5.mk (put6_row o5.off HRU.out _ _ _ _ _ _) (put6_row o5.az HRU.out _ _ _ _ _ _) (put6_row o5.cs HRU.out _ _ _ _ _ _) (put6_row o5.ls HRU.out _ _ _ _ _ _) (put6_row o5.log HRU.out _ _ _ _ _ _)).low HBU.out.size,bel _ _ _ _ _ _⟩
def DidS:Bk→Recs→Bk→Prop
 | b,[],b'=>b'=b
 | b,l::ls,b'=>∃ b1,BkRel Rel0 b l (b1,0)∧DidS b1 ls b'
theorem didS_snoc {l:List UInt8} {b1 b2:Bk} : ∀ {b:Bk} {ls:Recs},DidS b ls b1→BkRel Rel0 b1 l (b2,0)→DidS b (ls++[l]) b2
 | b,[],h,hd=>by
  rw [DidS] at h
  subst h
  exact ⟨b2,hd,by rw [DidS]⟩
 | b,x::xs,h,hd=>by
  obtain ⟨b3,h3,h4⟩:=h
  exact ⟨b3,h3,didS_snoc h4 hd⟩
theorem didS_app {c:Bk} : ∀ {b:Bk} {xs ys:Recs},DidS b (xs++ys) c→∃ d,DidS b xs d∧DidS d ys c
 | b,[],ys,h=>⟨b,by rw [DidS],h⟩
 | b,x::xs,ys,h=>by
  obtain ⟨b1,h1,h2⟩:=h
  obtain ⟨d,h3,h4⟩:=didS_app h2
  exact ⟨d,⟨b1,h1,h3⟩,h4⟩
theorem did_app {F:Fns} {c:Bk} : ∀ {b:Bk} {xs ys:Recs},Did F b (xs++ys) c→∃ d,Did F b xs d∧Did F d ys c
 | b,[],ys,h=>⟨b,by rw [Did],h⟩
 | b,x::xs,ys,h=>by
  obtain ⟨b1,h1,h2⟩:=h
  obtain ⟨d,h3,h4⟩:=did_app h2
  exact ⟨d,⟨b1,h1,h3⟩,h4⟩
theorem agr_zero {ws:Recs} {r r':Bk×Int} (h:Agr ws r r'):r.2=0 ↔ r'.2=0:=by
 rcases h.2 with e | ⟨e1,e2,_⟩
 ·rw [e]
 ·rw [e1,e2];decide
theorem did_same:∀ {b:Bk} {ls:Recs} {b1 b2:Bk},Did F0 b ls b1→DidS b ls b2→b1=b2
 | b,[],b1,b2,h,h'=>by
  rw [Did] at h
  rw [DidS] at h'
  rw [h,h']
 | b,x::xs,b1,b2,h,h'=>by
  obtain ⟨c1,d1,e1⟩:=h
  obtain ⟨c2,d2,e2⟩:=h'
  have:c1=c2:=(do_agree d1 d2).1
  subst this
  exact did_same e1 e2
def AllSl (t:Int) (zs:List Int) (rs:Recs) (b':Bk) (n:Int):Prop :=
 if bsOk t zs=true then ∃ k:Nat,n=(k:Int)∧k≤rs.length∧DidS (startB t zs) (rs.take k) b'∧(k<rs.length→∃ r,BkRel Rel0 b' (nth rs k) r∧r.2≠0) else b'=startB 0 []∧n = -1
theorem take_split (rs:Recs) {k m:Nat} (h:k<m) (hm:m≤rs.length):∃ ys,rs.take m=rs.take k++nth rs k::ys:=by
 refine ⟨(rs.drop (k+1)).take (m - (k+1)),?_⟩
 have h1:rs.take m=rs.take (k+1)++(rs.drop (k+1)).take (m - (k+1)):=by
  rw [← List.take_add];congr 1;omega
 rw [h1,takeNth rs k (by omega),List.append_assoc]
 rfl
theorem all_agree {t:Int} {zs:List Int} {rs:Recs} {b b':Bk} {n n':Int} (h:AllRl t zs rs b n) (h':AllSl t zs rs b' n'):b=b'∧n=n':=by
 unfold AllRl at h
 unfold AllSl at h'
 split at h
 ·rename_i hok
  rw [if_pos hok] at h'
  obtain ⟨k,rfl,hk,d,st⟩:=h
  obtain ⟨m,rfl,hm,d',st'⟩:=h'
  rcases Nat.lt_trichotomy k m with hlt | rfl | hlt
  ·obtain ⟨ys,hys⟩:=take_split rs hlt hm
   rw [hys] at d'
   obtain ⟨c,d1,b1,d2,-⟩:=didS_app d'
   have hb:b=c:=did_same d d1
   subst hb
   obtain ⟨r,hr,hr0⟩:=st (by omega)
   exact absurd ((agr_zero (do_agree hr d2)).2 rfl) hr0
  ·exact ⟨did_same d d',rfl⟩
  ·obtain ⟨ys,hys⟩:=take_split rs hlt hk
   rw [hys] at d
   obtain ⟨c,d1,b1,d2,-⟩:=did_app d
   have hb:c=b':=did_same d1 d'
   subst hb
   obtain ⟨r,hr,hr0⟩:=st' (by omega)
   exact absurd ((agr_zero (do_agree d2 hr)).1 rfl) hr0
 ·rename_i hok
  rw [if_neg hok] at h'
  exact ⟨h.1.trans h'.1.symm,h.2.trans h'.2.symm⟩
def SlR (t:Int) (zs:List Int) (rs:Recs) (w:World) (e:Ending) (w':World):Prop :=
 ∃ (b':Bk) (n:Int) (q:Bp),e=.returned (.tuple #[bkv b' q,.int .i64 n])∧AllSl t zs rs b' n∧BookAt w' b' q∧Below w.heap.size w w'
structure AS (R X:Nat) (b:Bk) (p:Bp) (w u:World):Prop where
 z:Z6 X (.int .i64 b.today) (.slice p.o b.off.length p.oc) (.slice p.a b.az.length p.ac) (.slice p.c b.cs.length p.cc) (.slice p.l b.ls.length p.lc) (.slice p.g b.log.length p.gc) u
 r:Z6 R (.int .i64 0) (.slice none 0 0) (.slice none 0 0) (.slice none 0 0) (.slice none 0 0) (.slice none 0 0) u
 bk:BookAt u b p
 oX:OffB p X
 oR:OffB p R
 hb:Below w.heap.size w u
 hR:w.heap.size=R
 hX:R<X
theorem AS.below {R X:Nat} {b:Bk} {p:Bp} {w u u':World} (h:AS R X b p w u) (hb:Below u.heap.size u u'):AS R X b p w u':=⟨h.z.below hb,h.r.below hb,h.bk.below hb,h.oX,h.oR,next h.hb hb,h.hR,h.hX⟩
theorem fr_off {q:Bp} {n B:Nat} (h:FrB q n) (hB:B<n):OffB q B:=⟨fresh_off h.o hB,fresh_off h.a hB,fresh_off h.c hB,fresh_off h.l hB,fresh_off h.g hB⟩
theorem AS.put {R X n:Nat} {b b2:Bk} {p q:Bp} {w u:World} (h:AS R X b p w u) (hk:BookAt u b2 q) (hf:FrB q n) (hn:X<n) :
  AS R X b2 q w ((((((u.setCell ⟨X,0,none⟩ (.int .i64 b2.today)).setCell ⟨X,1,none⟩ (.slice q.o b2.off.length q.oc)).setCell ⟨X,2,none⟩ (.slice q.a b2.az.length q.ac)).setCell ⟨X,3,none⟩ (.slice q.c b2.cs.length q.cc)).setCell ⟨X,4,none⟩ (.slice q.l b2.ls.length q.lc)).setCell ⟨X,5,none⟩ (.slice q.g b2.log.length q.gc)):=by
 have h1:=h.hX
 have h2:=h.hR
 refine ⟨(((((h.z.set0 _).set1 _).set2 _).set3 _).set4 _).set5 _,h.r.far6 (by omega) _ _ _ _ _ _,hk.put6 (fr_off hf hn) _ _ _ _ _ _,fr_off hf hn,fr_off hf (by omega),?_,h.hR,h.hX⟩
 exact (((((h.hb.setCell (p:=⟨X,0,none⟩) (by show _≤X;omega) _).setCell (p:=⟨X,1,none⟩) (by show _≤X;omega) _).setCell (p:=⟨X,2,none⟩) (by show _≤X;omega) _).setCell (p:=⟨X,3,none⟩) (by show _≤X;omega) _).setCell (p:=⟨X,4,none⟩) (by show _≤X;omega) _).setCell (p:=⟨X,5,none⟩) (by show _≤X;omega) _
theorem pre_jw {b:Bk} (h:JW b):Pre0 b:=⟨(jw_pre h).sm,(jw_pre h).ref,(jw_pre h).day⟩
theorem z6_kept {V u2:World} {t:TypeId} (bb:Below (V.alloc (.cells #[.int .i64 0,.slice none 0 0,.slice none 0 0,.slice none 0 0,.slice none 0 0,.slice none 0 0] t)).drew.heap.size (V.alloc (.cells #[.int .i64 0,.slice none 0 0,.slice none 0 0,.slice none 0 0,.slice none 0 0,.slice none 0 0] t)).drew u2) :
  Z6 V.heap.size (.int .i64 0) (.slice none 0 0) (.slice none 0 0) (.slice none 0 0) (.slice none 0 0) (.slice none 0 0) u2∧Below V.heap.size V u2 :=
 ⟨((Z6.new V _ _ _ _ _ _ t).below ((Below.refl _ _).drew)).below bb,Below.trans (((Below.refl V.heap.size V).alloc (Nat.le_refl _) _).drew) (bb.mono (by simp))⟩
theorem sAll_any (t:Int) (ao:Option Addr) (c:Nat) (zs:List Int) (lo:Option Addr) (lc:Nat) (rs:Recs) (w:World) (hx:IntsAt w ao zs) (hn:zs.length≤1048576) (hz:TxtsAt w lo rs) (hm:rs.length≤1048576) (hd:∀ r ∈ rs,r.length<1048576) :
  Calls Tryz.prog 11 #[.int .i64 t,.slice ao zs.length c,.slice lo rs.length lc] w (SlR t zs rs w):=by
 obtain ⟨R,hR⟩:∃ R,w.heap.size=R:=⟨_,rfl⟩
 obtain ⟨W,hW⟩:∃ W,W=w.alloc (.cells #[.int .i64 0,.slice none 0 0,.slice none 0 0,.slice none 0 0,.slice none 0 0,.slice none 0 0] 31):=⟨_,rfl⟩
 have HBW:Hid (Below w.heap.size w W):=by rw [Hid,hW];exact (Below.refl _ _).alloc (Nat.le_refl _) _
 have HZ0:Hid (Z6 R (.int .i64 0) (.slice none 0 0) (.slice none 0 0) (.slice none 0 0) (.slice none 0 0) (.slice none 0 0) W):=by rw [Hid,hW,← hR];exact Z6.new w _ _ _ _ _ _ _
 have HST:Hid (Calls Tryz.prog 45 #[.int .i64 t,.slice ao zs.length c] W (BsR W t zs)):=sBStart_any t ao c zs W (hx.below HBW.out) hn
 have HTX:Hid (TxtsAt w lo rs):=hz
 have HD:Hid (∀ r ∈ rs,r.length<1048576):=hd
 have HRR:Hid _:=hR
 have HWW:Hid _:=hW
 clear hx hz hd hR hW
 go_enter Tryz.func11,Tryz.ntmps11
 go_wp2_with fail
 rw [← HWW.out]
 refine Calls.mono HST.out ?_
 rintro e w1 ⟨a,k,rfl,o1,p1⟩
 rw [HRR.out]
 have HB1:Hid (Below w.heap.size w w1):=next HBW.out p1
 have HZ1:Hid (Z6 R (.int .i64 0) (.slice none 0 0) (.slice none 0 0) (.slice none 0 0) (.slice none 0 0) (.slice none 0 0) w1):=HZ0.out.below p1
 have HSW:Hid (R<W.heap.size):=HZ0.out.lt
 have HS1:Hid (W.heap.size≤w1.heap.size):=p1.size
 clear p1 HST HWW HZ0
 cases hok:bsOk t zs
 ·have e1:bsT t zs=0:=if_neg (by rw [hok];decide)
  have e2:bsL t zs=[]:=if_neg (by rw [hok];decide)
  rw [e1,e2]
  simp only [List.length_nil]
  unfold bk0
  obtain ⟨U,hU⟩:∃ U,U=w1.alloc (.cells #[.int .i64 0,.slice a 0 k,.slice none 0 0,.slice none 0 0,.slice none 0 0,.slice none 0 0] 31):=⟨_,rfl⟩
  have HBU:Hid (Below w.heap.size w U):=by rw [Hid,hU];exact HB1.out.alloc HB1.out.size _
  have HZU:Hid (Z6 R (.int .i64 0) (.slice none 0 0) (.slice none 0 0) (.slice none 0 0) (.slice none 0 0) (.slice none 0 0) U):=by rw [Hid,hU];exact HZ1.out.below ((Below.refl _ _).alloc (Nat.le_refl _) _)
  have HQ:Hid (AllSl t zs rs (startB 0 []) (-1)):=by rw [Hid,AllSl,if_neg (by rw [hok];decide)];exact ⟨rfl,rfl⟩
  have HU:Hid _:=hU
  clear hU e1 e2 hok o1
  go_upto_region 2 with fail
  rw [← HU.out]
  obtain ⟨t0,t1,t2,t3,t4,t5,s0,s1,s2,s3,s4,s5⟩:=HZU.out
  go_wp2
  refine bodyPost_ret (by simp [results,Tryz.results11,go_sem,t0,t1,t2,t3,t4,t5];try rfl) rfl ?_
  have bel:=put6_below (R:=R) (by rw [HRR.out];exact Nat.le_refl _) HBU.out
  exact ⟨startB 0 [],-1,⟨none,0,none,0,none,0,none,0,none,0⟩,rfl,HQ.out,⟨.inl rfl,.inl rfl,.inl rfl,.inl rfl,.inl rfl⟩,bel _ _ _ _ _ _⟩
 ·have e1:bsT t zs=t:=if_pos hok
  have e2:bsL t zs=zs:=if_pos hok
  rw [e1,e2]
  rw [e2] at o1
  unfold bk0
  obtain ⟨U,hU⟩:∃ U,U=w1.alloc (.cells #[.int .i64 t,.slice a zs.length k,.slice none 0 0,.slice none 0 0,.slice none 0 0,.slice none 0 0] 31):=⟨_,rfl⟩
  obtain ⟨X,hX⟩:∃ X,w1.heap.size=X:=⟨_,rfl⟩
  have HAS:Hid (AS R X (startB t zs) ⟨a,k,none,0,none,0,none,0,none,0⟩ w U):=by
   have bA:Below w1.heap.size w1 U:=by rw [hU];exact (Below.refl _ _).alloc (Nat.le_refl _) _
   have hna:∀ B',Off1 none B':=fun B' x hx=>nomatch hx
   have hfr:=own_fresh o1
   have hlt:Off1 a X:=fun x hx e=>by
    have:=own_ahead o1 (Nat.le_refl _) x hx
    omega
   refine ⟨by rw [hU,← hX];exact Z6.new w1 _ _ _ _ _ _ _,HZ1.out.below bA,⟨ints_own (keepL o1 bA),.inl rfl,.inl rfl,.inl rfl,.inl rfl⟩,⟨hlt,hna _,hna _,hna _,hna _⟩,⟨fresh_off hfr HSW.out,hna _,hna _,hna _,hna _⟩,next HB1.out bA,HRR.out,?_⟩
   have:=HSW.out
   have:=HS1.out
   omega
  have HJ:Hid (JW (startB t zs)):=jw_start hok
  have HD0:Hid (DidS (startB t zs) (rs.take 0) (startB t zs)):=by rw [Hid,List.take_zero,DidS]
  have HQ:Hid (∀ (m:Nat) (b':Bk),m≤rs.length→DidS (startB t zs) (rs.take m) b'→(m<rs.length→∃ r,BkRel Rel0 b' (nth rs m) r∧r.2≠0)→AllSl t zs rs b' (m:Int)):=fun m b' h1 h2 h3=>by rw [AllSl,if_pos hok];exact ⟨m,rfl,h1,h2,h3⟩
  have HU:Hid _:=hU
  have HXX:Hid _:=hX
  clear hU hX e1 e2 hok o1
  go_upto_region 2 with fail
  rw [← HU.out,HXX.out]
  clear HU HXX HZ1 HB1 HSW HS1 HBW
  go_wp2
  go_loopw [10] (fun i wr=>∃ (j:Nat) (b:Bk) (p:Bp),j≤rs.length∧i=.int .i64 (j:Int)∧DidS (startB t zs) (rs.take j) b∧JW b∧AS R X b p w wr) (fun i _=>rs.length - (intOf i).toNat)
  case atStart=>exact ⟨0,_,_,Nat.zero_le _,rfl,HD0.out,HJ.out,HAS.out⟩
  case round =>
   obtain ⟨j,b,p,hj,rfl,hdid,hjw,has⟩:=hrel
   have HAA:Hid (AS R X b p w wr):=has
   have HDD:Hid (DidS (startB t zs) (rs.take j) b):=hdid
   have HJJ:Hid (JW b):=hjw
   clear has hdid hjw HAS HJ HD0
   by_cases hlt:j<rs.length
   ·have hji:(j:Int)<(rs.length:Int):=by omega
    obtain ⟨gb,off,rfl,hgb,hcell⟩:∃ gb off,lo=some ⟨gb,off,none⟩∧gb<wr.heap.size∧wr.cell? ⟨gb,off+j,none⟩=some (.string ⟨(nth rs j).toArray⟩):=by
     rcases HTX.out.below HAA.out.hb with h | ⟨gb,off,h1,h2,h3⟩
     ·rw [h] at hlt;simp at hlt
     ·exact ⟨gb,off,h1,h2,h3 j hlt⟩
    have HDC:Hid (∀ u,BookAt u b p→Calls Tryz.prog 31 #[.agg #[.int .i64 b.today,.slice p.o b.off.length p.oc,.slice p.a b.az.length p.ac,.slice p.c b.cs.length p.cc,.slice p.l b.ls.length p.lc,.slice p.g b.log.length p.gc],.string ⟨(nth rs j).toArray⟩] u (BoF Rel0 b (nth rs j) u)):=fun u h=>sBookDoF_any doKnown0 b p (nth rs j) u h (pre_jw HJJ.out) (by have:=HD.out _ (nth_mem hlt);omega)
    have HNX:Hid (∀ b2,BkRel Rel0 b (nth rs j) (b2,0)→JW b2∧DidS (startB t zs) (rs.take (j+1)) b2):=fun b2 h=>⟨jw_do HJJ.out (by have:=HD.out _ (nth_mem hlt);omega) h,by rw [takeNth rs j hlt];exact didS_snoc HDD.out h⟩
    have HRE:Hid (∀ r,BkRel Rel0 b (nth rs j) r→r.2≠0→AllSl t zs rs b (j:Int)):=fun r h hc=>HQ.out j b hj HDD.out (fun _=>⟨r,h,hc⟩)
    obtain ⟨ln,hln⟩:∃ x,nth rs j=x:=⟨_,rfl⟩
    rw [hln] at hcell HDC HNX HRE
    clear hln
    have HSS:Hid (∀ u,Below wr.heap.size wr u→u.cell? ⟨X,0,none⟩=some (.int .i64 b.today)∧u.cell? ⟨X,1,none⟩=some (.slice p.o b.off.length p.oc)∧u.cell? ⟨X,2,none⟩=some (.slice p.a b.az.length p.ac)∧u.cell? ⟨X,3,none⟩=some (.slice p.c b.cs.length p.cc)∧u.cell? ⟨X,4,none⟩=some (.slice p.l b.ls.length p.lc)∧u.cell? ⟨X,5,none⟩=some (.slice p.g b.log.length p.gc)∧u.cell? ⟨gb,off+j,none⟩=some (.string ⟨ln.toArray⟩)):=fun u h=>by
     have z:=HAA.out.z.below h
     exact ⟨z.c0,z.c1,z.c2,z.c3,z.c4,z.c5,(h.cell (p:=⟨gb,off+j,none⟩) hgb).trans hcell⟩
    have k0:Below wr.heap.size wr wr:=Below.refl _ _
    have HP1:Hid (BookAt wr.drew b p):=HAA.out.bk.below ((Below.refl _ _).drew)
    have HP2:Hid (BookAt (wr.alloc (.cells #[.int .i64 0,.slice none 0 0,.slice none 0 0,.slice none 0 0,.slice none 0 0,.slice none 0 0] 31)).drew b p):=HAA.out.bk.below (((Below.refl wr.heap.size wr).alloc (Nat.le_refl _) _).drew)
    clear hcell
    go_upto_region 7 with fail
    go_cut [11,12] (fun v11 v12 wc=>∃ (Y:Nat) (b2:Bk) (q2:Bp) (code:Int),v11=.pointer (some ⟨Y,0,none⟩)∧v12=.int .i64 code∧BkRel Rel0 b ln (b2,code)∧Z6 Y (.int .i64 b2.today) (.slice q2.o b2.off.length q2.oc) (.slice q2.a b2.az.length q2.ac) (.slice q2.c b2.cs.length q2.cc) (.slice q2.l b2.ls.length q2.lc) (.slice q2.g b2.log.length q2.gc) wc∧BookAt wc b2 q2∧FrB q2 wr.heap.size∧Below wr.heap.size wr wc)
    case first =>
     go_region_held3 (fun u=>u.cell? ⟨X,0,none⟩=some (.int .i64 b.today)∧u.cell? ⟨X,1,none⟩=some (.slice p.o b.off.length p.oc)∧u.cell? ⟨X,2,none⟩=some (.slice p.a b.az.length p.ac)∧u.cell? ⟨X,3,none⟩=some (.slice p.c b.cs.length p.cc)∧u.cell? ⟨X,4,none⟩=some (.slice p.l b.ls.length p.lc)∧u.cell? ⟨X,5,none⟩=some (.slice p.g b.log.length p.gc)∧u.cell? ⟨gb,off+j,none⟩=some (.string ⟨ln.toArray⟩)) (first | with_reducible exact HSS.out _ hb2 | with_reducible exact HSS.out _ k0 | with_reducible exact HSS.out _ k0.drew | with_reducible exact HSS.out _ (k0.alloc (Nat.le_refl _) _) | with_reducible exact HSS.out _ ((k0.alloc (Nat.le_refl _) _).drew) | with_reducible exact HSS.out _ (hb2.alloc hb2.size _) | with_reducible exact HSS.out _ (put6_below (Nat.le_refl _) hb2 _ _ _ _ _ _)) ((first
      | (go_at_call 31;(with_reducible refine Calls.mono (HDC.out wr.drew HP1.out) ?_);rintro e u2 ⟨⟨b2,code⟩,q2,hrel,rfl,hbk,bb,hfr⟩;have hb2:Below wr.heap.size wr u2:=Below.trans ((Below.refl wr.heap.size wr).drew) bb;unfold bkv;simp only)
      | (go_at_call 31;(with_reducible refine Calls.mono (HDC.out (wr.alloc (.cells #[.int .i64 0,.slice none 0 0,.slice none 0 0,.slice none 0 0,.slice none 0 0,.slice none 0 0] 31)).drew HP2.out) ?_);rintro e u2 ⟨⟨b2,code⟩,q2,hrel,rfl,hbk,bb,hfr⟩;obtain ⟨hzy,hb2⟩:=z6_kept bb;have HZY:Hid _:=hzy;obtain ⟨g0,g1,g2,g3,g4,g5,m0,m1,m2,m3,m4,m5⟩:=hzy;unfold bkv;simp only)))
     ·go_wp2_with fail
      go_meet
      have h1:=hb2.alloc hb2.size (.cells #[.int .i64 b2.today,.slice q2.o b2.off.length q2.oc,.slice q2.a b2.az.length q2.ac,.slice q2.c b2.cs.length q2.cc,.slice q2.l b2.ls.length q2.lc,.slice q2.g b2.log.length q2.gc] 31)
      exact ⟨u2.heap.size,b2,q2,code,rfl,rfl,hrel,Z6.new u2 _ _ _ _ _ _ _,hbk.below ((Below.refl _ _).alloc (Nat.le_refl _) _),⟨hfr.o,hfr.a,hfr.c,hfr.l,hfr.g⟩,h1⟩
     ·go_wp2_with fail
      go_meet
      have hf2:FrB q2 (wr.heap.size+1):=by simpa using hfr
      exact ⟨wr.heap.size,b2,q2,code,rfl,rfl,hrel,(((((HZY.out.set0 _).set1 _).set2 _).set3 _).set4 _).set5 _,hbk.put6 (fr_off hf2 (Nat.lt_succ_self _)) _ _ _ _ _ _,⟨fr_mono hf2.o (Nat.le_succ _),fr_mono hf2.a (Nat.le_succ _),fr_mono hf2.c (Nat.le_succ _),fr_mono hf2.l (Nat.le_succ _),fr_mono hf2.g (Nat.le_succ _)⟩,put6_below (Nat.le_refl _) hb2 _ _ _ _ _ _⟩
    case rest =>
     obtain ⟨V,hV⟩:∃ x,x=wc:=⟨_,rfl⟩
     subst hV
     obtain ⟨Y,b2,q2,code,rfl,rfl,hrel,hzy,hbk,hfr,hbV⟩:=hcut
     have HAV:Hid (AS R X b p w V):=HAA.out.below hbV
     have HXL:Hid (X<wr.heap.size):=HAA.out.z.lt
     obtain ⟨x0,x1,x2,x3,x4,x5,y0,y1,y2,y3,y4,y5⟩:=HAV.out.z
     clear hbV HDC HSS HP1 HP2 k0
     by_cases hc:code=0
     ·subst hc
      obtain ⟨j2,d2⟩:=HNX.out b2 hrel
      have HJ2:Hid (JW b2):=j2
      have HD2:Hid (DidS (startB t zs) (rs.take (j+1)) b2):=d2
      have HA2:Hid _:=HAV.out.put hbk hfr HXL.out
      obtain ⟨n0,n1,n2,n3,n4,n5,-,-,-,-,-,-⟩:=hzy
      clear j2 d2 hrel hbk hfr
      go_wp2
      go_roundw
      case rel=>exact ⟨j+1,b2,q2,by omega,by go_num,HD2.out,HJ2.out,HA2.out⟩
      case measure=>simp [intOf];omega
     ·have hne:(code != 0)=true:=by simpa using hc
      have HF:Hid (AllSl t zs rs b (j:Int)):=HRE.out _ hrel hc
      obtain ⟨r0,r1,r2,r3,r4,r5,s0,s1,s2,s3,s4,s5⟩:=HAV.out.r
      clear hrel hc hzy hbk hfr
      go_wp2
      refine bodyPost_ret (by simp [results,Tryz.results11,go_sem,r0,r1,r2,r3,r4,r5];try rfl) rfl ?_
      exact ⟨b,_,p,rfl,HF.out,HAV.out.bk.put6 HAV.out.oR _ _ _ _ _ _,put6_below (by rw [HAV.out.hR];exact Nat.le_refl _) HAV.out.hb _ _ _ _ _ _⟩
   ·have hje:j=rs.length:=by omega
    subst hje
    have hji:¬ (rs.length:Int)<(rs.length:Int):=by omega
    have HF:Hid (AllSl t zs rs b (rs.length:Int)):=HQ.out _ b (Nat.le_refl _) HDD.out (fun h=>absurd h (Nat.lt_irrefl _))
    obtain ⟨x0,x1,x2,x3,x4,x5,-,-,-,-,-,-⟩:=HAA.out.z
    obtain ⟨r0,r1,r2,r3,r4,r5,s0,s1,s2,s3,s4,s5⟩:=HAA.out.r
    go_wp2
    refine bodyPost_ret (by simp [results,Tryz.results11,go_sem,r0,r1,r2,r3,r4,r5];try rfl) rfl ?_
    exact ⟨b,_,p,rfl,HF.out,HAA.out.bk.put6 HAA.out.oR _ _ _ _ _ _,put6_below (by rw [HAA.out.hR];exact Nat.le_refl _) HAA.out.hb _ _ _ _ _ _⟩
def k2B (b:Bk):Nat:=1+b.off.length
def k3B (b:Bk):Nat:=k2B b+6*b.az.length
def k4B (b:Bk):Nat:=k3B b+12*b.cs.length
def k5B (b:Bk):Nat:=k4B b+3*b.ls.length
def k6B (b:Bk):Nat:=k5B b+b.log.length
structure Mrk (B:Nat) (b:Bk) (q:Bp) (u:World):Prop where
 off:u.ownsRow B 3 1 (.slice q.o b.off.length q.oc) b.off.length ((cnt 1 b.off.length).map (Value.int .i64))
 az:u.ownsRow B 107 6 (.slice q.a b.az.length q.ac) b.az.length (acells (mkA (k2B b) b.az.length))
 cs:u.ownsRow B 61 12 (.slice q.c b.cs.length q.cc) b.cs.length (cscells (mkC (k3B b) b.cs.length))
 ls:u.ownsRow B 113 3 (.slice q.l b.ls.length q.lc) b.ls.length (lcells (mkL (k4B b) b.ls.length))
 log:u.ownsRow B 9 1 (.slice q.g b.log.length q.gc) b.log.length (scells (mkS (k5B b) b.log.length))
theorem Mrk.below {B:Nat} {b:Bk} {q:Bp} {u u':World} (h:Mrk B b q u) (hb:Below u.heap.size u u'):Mrk B b q u':=⟨keepL h.off hb,keepL h.az hb,keepL h.cs hb,keepL h.ls hb,keepL h.log hb⟩
def isRow (b:Bk) (q:Bp) (r:Option Nat):Prop :=
 r=(Value.slice q.o b.off.length q.oc).ownBlock∨r=(Value.slice q.a b.az.length q.ac).ownBlock∨r=(Value.slice q.c b.cs.length q.cc).ownBlock∨r=(Value.slice q.l b.ls.length q.lc).ownBlock∨r=(Value.slice q.g b.log.length q.gc).ownBlock
theorem mark5_any (b:Bk) (q:Bp) (B:Nat) (w:World) (ho:Own5 B b q w) (hn:bkSm b) (Q:World→Prop) (hQ:∀ r,isRow b q r→∀ u u':World,u.grownBy u' r→Q u→Q u') (hq:Q w) :
  Calls Tryz.prog 20 #[bkv b q,.int .i64 1] w fun e w'=>e=.returned (.int .i64 (k6B b:Int))∧Mrk B b q w'∧Q w':=by
 obtain ⟨n1,n2,n3,n4,n5⟩:=hn
 obtain ⟨X,hX⟩:∃ X,w.heap.size=X:=⟨_,rfl⟩
 obtain ⟨W,hW⟩:∃ W,W=w.alloc (.cells #[.int .i64 b.today,.slice q.o b.off.length q.oc,.slice q.a b.az.length q.ac,.slice q.c b.cs.length q.cc,.slice q.l b.ls.length q.lc,.slice q.g b.log.length q.gc] 31):=⟨_,rfl⟩
 have bW:Below w.heap.size w W:=by rw [hW];exact (Below.refl _ _).alloc (Nat.le_refl _) _
 have HZ:Hid (Z6 X (.int .i64 b.today) (.slice q.o b.off.length q.oc) (.slice q.a b.az.length q.ac) (.slice q.c b.cs.length q.cc) (.slice q.l b.ls.length q.lc) (.slice q.g b.log.length q.gc) W):=by rw [Hid,hW,← hX];exact Z6.new w _ _ _ _ _ _ _
 have HT:Hid (Holds1 W X 31):=by rw [Hid,hW,← hX];exact holds_new w _ _
 have HO:Hid (Own5 B b q W):=ho.below bW
 have HQ0:Hid (Q W):=hQ _ (.inl rfl) w W (by rw [hW];exact World.grownBy_alloc w _ _) hq
 have HQQ:Hid (∀ r,isRow b q r→∀ u u':World,u.grownBy u' r→Q u→Q u'):=hQ
 obtain ⟨K2,hK2⟩:∃ k,k2B b=k:=⟨_,rfl⟩
 obtain ⟨K3,hK3⟩:∃ k,k3B b=k:=⟨_,rfl⟩
 obtain ⟨K4,hK4⟩:∃ k,k4B b=k:=⟨_,rfl⟩
 obtain ⟨K5,hK5⟩:∃ k,k5B b=k:=⟨_,rfl⟩
 obtain ⟨K6,hK6⟩:∃ k,k6B b=k:=⟨_,rfl⟩
 have e2:K2=1+b.off.length:=hK2.symm
 have e3:K3=K2+6*b.az.length:=by rw [← hK2,← hK3];rfl
 have e4:K4=K3+12*b.cs.length:=by rw [← hK3,← hK4];rfl
 have e5:K5=K4+3*b.ls.length:=by rw [← hK4,← hK5];rfl
 have e6:K6=K5+b.log.length:=by rw [← hK5,← hK6];rfl
 have H1:Hid (∀ (u:World) (xs:List Value),u.ownsRow B 3 1 (.slice q.o b.off.length q.oc) b.off.length xs→Calls Tryz.prog 18 #[.slice q.o b.off.length q.oc,.int .i64 1] u fun e w'=>e=.returned (.int .i64 (K2:Int))∧w'.ownsRow B 3 1 (.slice q.o b.off.length q.oc) b.off.length ((cnt 1 b.off.length).map (Value.int .i64))∧u.grownBy w' (Value.slice q.o b.off.length q.oc).ownBlock):=fun u xs h=>by
  have:=markIntS_any q.o q.oc b.off.length B 1 xs u h (by omega) (by omega) (by omega)
  rw [show (1:Int)+(b.off.length:Int)=(K2:Int) from by omega] at this
  exact this
 have H2:Hid (∀ u:World,u.ownsRow B 107 6 (.slice q.a b.az.length q.ac) b.az.length (acells b.az)→Calls Tryz.prog 57 #[.slice q.a b.az.length q.ac,.int .i64 (K2:Int)] u fun e w'=>e=.returned (.int .i64 (K3:Int))∧w'.ownsRow B 107 6 (.slice q.a b.az.length q.ac) b.az.length (acells (mkA K2 b.az.length))∧u.grownBy w' (Value.slice q.a b.az.length q.ac).ownBlock):=fun u h=>by
  rw [e3];exact markAuthS_any q.a q.ac B K2 b.az u h (by omega) (by omega) (by omega)
 have H3:Hid (∀ u:World,u.ownsRow B 61 12 (.slice q.c b.cs.length q.cc) b.cs.length (cscells b.cs)→Calls Tryz.prog 58 #[.slice q.c b.cs.length q.cc,.int .i64 (K3:Int)] u fun e w'=>e=.returned (.int .i64 (K4:Int))∧w'.ownsRow B 61 12 (.slice q.c b.cs.length q.cc) b.cs.length (cscells (mkC K3 b.cs.length))∧u.grownBy w' (Value.slice q.c b.cs.length q.cc).ownBlock):=fun u h=>by
  rw [e4];exact markCaseS_ex q.c q.cc B K3 b.cs u h n3 (by omega)
 have H4:Hid (∀ u:World,u.ownsRow B 113 3 (.slice q.l b.ls.length q.lc) b.ls.length (lcells b.ls)→Calls Tryz.prog 59 #[.agg #[.slice q.l b.ls.length q.lc],.int .i64 (K4:Int)] u fun e w'=>e=.returned (.int .i64 (K5:Int))∧w'.ownsRow B 113 3 (.slice q.l b.ls.length q.lc) b.ls.length (lcells (mkL K4 b.ls.length))∧u.grownBy w' (Value.slice q.l b.ls.length q.lc).ownBlock):=fun u h=>by
  rw [e5];exact markLedger_any q.l q.lc B K4 b.ls u h (by omega) (by omega)
 have H5:Hid (∀ u:World,u.ownsRow B 9 1 (.slice q.g b.log.length q.gc) b.log.length (scells b.log)→Calls Tryz.prog 19 #[.slice q.g b.log.length q.gc,.int .i64 (K5:Int)] u fun e w'=>e=.returned (.int .i64 (K6:Int))∧w'.ownsRow B 9 1 (.slice q.g b.log.length q.gc) b.log.length (scells (mkS K5 b.log.length))∧u.grownBy w' (Value.slice q.g b.log.length q.gc).ownBlock):=fun u h=>by
  rw [e6];exact markStringS_any q.g q.gc B K5 b.log u h (by omega) (by omega) (by omega)
 have HE:Hid (k2B b=K2∧k3B b=K3∧k4B b=K4∧k5B b=K5∧k6B b=K6):=⟨hK2,hK3,hK4,hK5,hK6⟩
 have HW:Hid _:=hW
 have HX:Hid _:=hX
 unfold bkv
 clear ho n1 n2 n3 n4 n5 hQ hq bW e2 e3 e4 e5 e6 hK2 hK3 hK4 hK5 hK6 hW hX
 obtain ⟨c0,c1,c2,c3,c4,c5,-,-,-,-,-,-⟩:=HZ.out
 go_enter Tryz.func20,Tryz.ntmps20
 go_wp2_with fail
 rw [← HW.out]
 refine Calls.mono (H1.out W _ HO.out.off) ?_
 rintro e u1 ⟨rfl,o1,g1⟩
 rw [HX.out]
 clear HW HX
 have HQ1:Hid (Q u1):=HQQ.out _ (.inl rfl) _ _ g1 HQ0.out
 have HZ1:Hid _:=HZ.out.grown g1 (own_neR HO.out.off HT.out (by decide))
 have HT1:Hid (Holds1 u1 X 31):=HT.out.grown g1 (own_neR HO.out.off HT.out (by decide))
 have A1:Hid (u1.ownsRow B 107 6 (.slice q.a b.az.length q.ac) b.az.length (acells b.az)):=HO.out.az.kept g1 (own_ne HO.out.az HO.out.off (by decide))
 have C1:Hid (u1.ownsRow B 61 12 (.slice q.c b.cs.length q.cc) b.cs.length (cscells b.cs)):=HO.out.cs.kept g1 (own_ne HO.out.cs HO.out.off (by decide))
 have L1:Hid (u1.ownsRow B 113 3 (.slice q.l b.ls.length q.lc) b.ls.length (lcells b.ls)):=HO.out.ls.kept g1 (own_ne HO.out.ls HO.out.off (by decide))
 have G1:Hid (u1.ownsRow B 9 1 (.slice q.g b.log.length q.gc) b.log.length (scells b.log)):=HO.out.log.kept g1 (own_ne HO.out.log HO.out.off (by decide))
 have O1:Hid (u1.ownsRow B 3 1 (.slice q.o b.off.length q.oc) b.off.length ((cnt 1 b.off.length).map (Value.int .i64))):=o1
 clear o1 g1 c0 c1 c2 c3 c4 c5 HO HT HZ HQ0 H1
 obtain ⟨c0,c1,c2,c3,c4,c5,-,-,-,-,-,-⟩:=HZ1.out
 go_wp2_with fail
 refine Calls.mono (H2.out u1 A1.out) ?_
 rintro e u2 ⟨rfl,o2,g2⟩
 have HQ2:Hid (Q u2):=HQQ.out _ (.inr (.inl rfl)) _ _ g2 HQ1.out
 have HZ2:Hid _:=HZ1.out.grown g2 (own_neR A1.out HT1.out (by decide))
 have HT2:Hid (Holds1 u2 X 31):=HT1.out.grown g2 (own_neR A1.out HT1.out (by decide))
 have O2:Hid (u2.ownsRow B 3 1 (.slice q.o b.off.length q.oc) b.off.length ((cnt 1 b.off.length).map (Value.int .i64))):=O1.out.kept g2 (own_ne O1.out A1.out (by decide))
 have C2:Hid (u2.ownsRow B 61 12 (.slice q.c b.cs.length q.cc) b.cs.length (cscells b.cs)):=C1.out.kept g2 (own_ne C1.out A1.out (by decide))
 have L2:Hid (u2.ownsRow B 113 3 (.slice q.l b.ls.length q.lc) b.ls.length (lcells b.ls)):=L1.out.kept g2 (own_ne L1.out A1.out (by decide))
 have G2:Hid (u2.ownsRow B 9 1 (.slice q.g b.log.length q.gc) b.log.length (scells b.log)):=G1.out.kept g2 (own_ne G1.out A1.out (by decide))
 have A2:Hid (u2.ownsRow B 107 6 (.slice q.a b.az.length q.ac) b.az.length (acells (mkA K2 b.az.length))):=o2
 clear o2 g2 c0 c1 c2 c3 c4 c5 HT1 HZ1 HQ1 H2 O1 A1 C1 L1 G1
 obtain ⟨c0,c1,c2,c3,c4,c5,-,-,-,-,-,-⟩:=HZ2.out
 go_wp2_with fail
 refine Calls.mono (H3.out u2 C2.out) ?_
 rintro e u3 ⟨rfl,o3,g3⟩
 have HQ3:Hid (Q u3):=HQQ.out _ (.inr (.inr (.inl rfl))) _ _ g3 HQ2.out
 have HZ3:Hid _:=HZ2.out.grown g3 (own_neR C2.out HT2.out (by decide))
 have HT3:Hid (Holds1 u3 X 31):=HT2.out.grown g3 (own_neR C2.out HT2.out (by decide))
 have O3:Hid (u3.ownsRow B 3 1 (.slice q.o b.off.length q.oc) b.off.length ((cnt 1 b.off.length).map (Value.int .i64))):=O2.out.kept g3 (own_ne O2.out C2.out (by decide))
 have A3:Hid (u3.ownsRow B 107 6 (.slice q.a b.az.length q.ac) b.az.length (acells (mkA K2 b.az.length))):=A2.out.kept g3 (own_ne A2.out C2.out (by decide))
 have L3:Hid (u3.ownsRow B 113 3 (.slice q.l b.ls.length q.lc) b.ls.length (lcells b.ls)):=L2.out.kept g3 (own_ne L2.out C2.out (by decide))
 have G3:Hid (u3.ownsRow B 9 1 (.slice q.g b.log.length q.gc) b.log.length (scells b.log)):=G2.out.kept g3 (own_ne G2.out C2.out (by decide))
 have C3:Hid (u3.ownsRow B 61 12 (.slice q.c b.cs.length q.cc) b.cs.length (cscells (mkC K3 b.cs.length))):=o3
 clear o3 g3 c0 c1 c2 c3 c4 c5 HT2 HZ2 HQ2 H3 O2 A2 C2 L2 G2
 obtain ⟨c0,c1,c2,c3,c4,c5,-,-,-,-,-,-⟩:=HZ3.out
 go_wp2_with fail
 refine Calls.mono (H4.out u3 L3.out) ?_
 rintro e u4 ⟨rfl,o4,g4⟩
 have HQ4:Hid (Q u4):=HQQ.out _ (.inr (.inr (.inr (.inl rfl)))) _ _ g4 HQ3.out
 have HZ4:Hid _:=HZ3.out.grown g4 (own_neR L3.out HT3.out (by decide))
 have O4:Hid (u4.ownsRow B 3 1 (.slice q.o b.off.length q.oc) b.off.length ((cnt 1 b.off.length).map (Value.int .i64))):=O3.out.kept g4 (own_ne O3.out L3.out (by decide))
 have A4:Hid (u4.ownsRow B 107 6 (.slice q.a b.az.length q.ac) b.az.length (acells (mkA K2 b.az.length))):=A3.out.kept g4 (own_ne A3.out L3.out (by decide))
 have C4:Hid (u4.ownsRow B 61 12 (.slice q.c b.cs.length q.cc) b.cs.length (cscells (mkC K3 b.cs.length))):=C3.out.kept g4 (own_ne C3.out L3.out (by decide))
 have G4:Hid (u4.ownsRow B 9 1 (.slice q.g b.log.length q.gc) b.log.length (scells b.log)):=G3.out.kept g4 (own_ne G3.out L3.out (by decide))
 have L4:Hid (u4.ownsRow B 113 3 (.slice q.l b.ls.length q.lc) b.ls.length (lcells (mkL K4 b.ls.length))):=o4
 clear o4 g4 c0 c1 c2 c3 c4 c5 HT3 HZ3 HQ3 H4 O3 A3 C3 L3 G3
 obtain ⟨c0,c1,c2,c3,c4,c5,-,-,-,-,-,-⟩:=HZ4.out
 go_wp2_with fail
 refine Calls.mono (H5.out u4 G4.out) ?_
 rintro e u5 ⟨rfl,o5,g5⟩
 have HQ5:Hid (Q u5):=HQQ.out _ (.inr (.inr (.inr (.inr rfl)))) _ _ g5 HQ4.out
 obtain ⟨x2,x3,x4,x5,x6⟩:=HE.out
 have HM:Hid (Mrk B b q u5):=by
  refine ⟨O4.out.kept g5 (own_ne O4.out G4.out (by decide)),?_,?_,?_,?_⟩
  ·rw [x2];exact A4.out.kept g5 (own_ne A4.out G4.out (by decide))
  ·rw [x3];exact C4.out.kept g5 (own_ne C4.out G4.out (by decide))
  ·rw [x4];exact L4.out.kept g5 (own_ne L4.out G4.out (by decide))
  ·rw [x5];exact o5
 have HK:Hid (k6B b=K6):=x6
 clear o5 g5 c0 c1 c2 c3 c4 c5 x2 x3 x4 x5 x6 HE HZ4 HQ4 H5 O4 A4 C4 L4 G4
 go_wp2
 go_ret
 rw [HK.out]
 exact ⟨rfl,HM.out,HQ5.out⟩
theorem held5_any (b:Bk) (q:Bp) (B:Nat) (w:World) (hm:Mrk B b q w) (hn:bkSm b) :
  Calls Tryz.prog 21 #[bkv b q,.int .i64 1] w fun e w'=>e=.returned (.int .i64 (k6B b:Int))∧Below w.heap.size w w':=by
 obtain ⟨n1,n2,n3,n4,n5⟩:=hn
 obtain ⟨X,hX⟩:∃ X,w.heap.size=X:=⟨_,rfl⟩
 obtain ⟨W,hW⟩:∃ W,W=w.alloc (.cells #[.int .i64 b.today,.slice q.o b.off.length q.oc,.slice q.a b.az.length q.ac,.slice q.c b.cs.length q.cc,.slice q.l b.ls.length q.lc,.slice q.g b.log.length q.gc] 31):=⟨_,rfl⟩
 have bW:Below w.heap.size w W:=by rw [hW];exact (Below.refl _ _).alloc (Nat.le_refl _) _
 have HZ:Hid (∀ u,Below W.heap.size W u→Z6 X (.int .i64 b.today) (.slice q.o b.off.length q.oc) (.slice q.a b.az.length q.ac) (.slice q.c b.cs.length q.cc) (.slice q.l b.ls.length q.lc) (.slice q.g b.log.length q.gc) u):=fun u h=>Z6.below (by rw [hW,← hX];exact Z6.new w _ _ _ _ _ _ _) h
 have HM:Hid (∀ u,Below W.heap.size W u→Mrk B b q u):=fun u h=>(hm.below bW).below h
 have HBW:Hid (Below w.heap.size w W):=bW
 obtain ⟨K2,hK2⟩:∃ k,k2B b=k:=⟨_,rfl⟩
 obtain ⟨K3,hK3⟩:∃ k,k3B b=k:=⟨_,rfl⟩
 obtain ⟨K4,hK4⟩:∃ k,k4B b=k:=⟨_,rfl⟩
 obtain ⟨K5,hK5⟩:∃ k,k5B b=k:=⟨_,rfl⟩
 obtain ⟨K6,hK6⟩:∃ k,k6B b=k:=⟨_,rfl⟩
 have e2:K2=1+b.off.length:=hK2.symm
 have e3:K3=K2+6*b.az.length:=by rw [← hK2,← hK3];rfl
 have e4:K4=K3+12*b.cs.length:=by rw [← hK3,← hK4];rfl
 have e5:K5=K4+3*b.ls.length:=by rw [← hK4,← hK5];rfl
 have e6:K6=K5+b.log.length:=by rw [← hK5,← hK6];rfl
 have H1:Hid (∀ u,Below W.heap.size W u→Calls Tryz.prog 60 #[.slice q.o b.off.length q.oc,.int .i64 1] u fun e w'=>e=.returned (.int .i64 (K2:Int))∧Below u.heap.size u w'):=fun u h=>by
  have:=heldIntS_any q.o q.oc b.off.length 1 u (ints_own (HM.out u h).off) (by omega) (by omega) (by omega)
  rw [show (1:Int)+(b.off.length:Int)=(K2:Int) from by omega] at this
  exact this.mono (fun e w' ⟨h1,h2⟩=>⟨h1,by rw [h2];exact Below.refl _ _⟩)
 have H2:Hid (∀ u,Below W.heap.size W u→Calls Tryz.prog 61 #[.slice q.a b.az.length q.ac,.int .i64 (K2:Int)] u fun e w'=>e=.returned (.int .i64 (K3:Int))∧Below u.heap.size u w'):=fun u h=>by
  have hh:=(HM.out u h).az
  rw [hK2] at hh
  rw [e3];exact heldAuthS_any q.a q.ac b.az.length K2 u (auths_any hh) (by omega) (by omega) (by omega)
 have H3:Hid (∀ u,Below W.heap.size W u→Calls Tryz.prog 62 #[.slice q.c b.cs.length q.cc,.int .i64 (K3:Int)] u fun e w'=>e=.returned (.int .i64 (K4:Int))∧Below u.heap.size u w'):=fun u h=>by
  have hh:=(HM.out u h).cs
  rw [hK3] at hh
  rw [e4];exact (heldCaseS_any q.c q.cc b.cs.length K3 u (cases_own hh) n3 (by omega)).mono (fun e w' ⟨h1,h2⟩=>⟨h1,by rw [h2];exact Below.refl _ _⟩)
 have H4:Hid (∀ u,Below W.heap.size W u→Calls Tryz.prog 63 #[.agg #[.slice q.l b.ls.length q.lc],.int .i64 (K4:Int)] u fun e w'=>e=.returned (.int .i64 (K5:Int))∧Below u.heap.size u w'):=fun u h=>by
  have hh:=(HM.out u h).ls
  rw [hK4] at hh
  have hl:(mkL K4 b.ls.length).length=b.ls.length:=mkL_len _ _
  rw [e5];exact heldLedger_any q.l q.lc b.ls.length K4 u (lines_any (by rw [hl];exact hh)) (by omega) (by omega)
 have H5:Hid (∀ u,Below W.heap.size W u→Calls Tryz.prog 64 #[.slice q.g b.log.length q.gc,.int .i64 (K5:Int)] u fun e w'=>e=.returned (.int .i64 (K6:Int))∧Below u.heap.size u w'):=fun u h=>by
  have hh:=(HM.out u h).log
  rw [hK5] at hh
  have hl:(mkS K5 b.log.length).length=b.log.length:=mkS_len _ _
  rw [e6];exact heldStringS_any q.g q.gc b.log.length K5 u (txts_any (by rw [hl];exact hh)) (by omega) (by omega) (by omega)
 have HK:Hid (k6B b=K6):=hK6
 have HW:Hid _:=hW
 have HX:Hid _:=hX
 have z2:¬ (K2:Int)<0:=by omega
 have z3:¬ (K3:Int)<0:=by omega
 have z4:¬ (K4:Int)<0:=by omega
 have z5:¬ (K5:Int)<0:=by omega
 have z6:¬ (K6:Int)<0:=by omega
 unfold bkv
 clear hm n1 n2 n3 n4 n5 bW e2 e3 e4 e5 e6 hK2 hK3 hK4 hK5 hK6 hW hX
 have k0:Below W.heap.size W W:=Below.refl _ _
 obtain ⟨c0,c1,c2,c3,c4,c5,-,-,-,-,-,-⟩:=HZ.out W k0
 go_enter Tryz.func21,Tryz.ntmps21
 go_wp2_with fail
 rw [← HW.out]
 refine Calls.mono (H1.out W k0) ?_
 rintro e u1 ⟨rfl,p1⟩
 rw [HX.out]
 have K1:Hid (Below W.heap.size W u1):=p1
 clear p1 c0 c1 c2 c3 c4 c5 HW HX k0
 obtain ⟨c0,c1,c2,c3,c4,c5,-,-,-,-,-,-⟩:=HZ.out u1 K1.out
 go_wp2_with fail
 refine Calls.mono (H2.out u1 K1.out) ?_
 rintro e u2 ⟨rfl,p2⟩
 have K2':Hid (Below W.heap.size W u2):=next K1.out p2
 clear p2 c0 c1 c2 c3 c4 c5
 obtain ⟨c0,c1,c2,c3,c4,c5,-,-,-,-,-,-⟩:=HZ.out u2 K2'.out
 go_wp2_with fail
 refine Calls.mono (H3.out u2 K2'.out) ?_
 rintro e u3 ⟨rfl,p3⟩
 have K3':Hid (Below W.heap.size W u3):=next K2'.out p3
 clear p3 c0 c1 c2 c3 c4 c5
 obtain ⟨c0,c1,c2,c3,c4,c5,-,-,-,-,-,-⟩:=HZ.out u3 K3'.out
 go_wp2_with fail
 refine Calls.mono (H4.out u3 K3'.out) ?_
 rintro e u4 ⟨rfl,p4⟩
 have K4':Hid (Below W.heap.size W u4):=next K3'.out p4
 clear p4 c0 c1 c2 c3 c4 c5
 obtain ⟨c0,c1,c2,c3,c4,c5,-,-,-,-,-,-⟩:=HZ.out u4 K4'.out
 go_wp2_with fail
 refine Calls.mono (H5.out u4 K4'.out) ?_
 rintro e u5 ⟨rfl,p5⟩
 have K5':Hid (Below w.heap.size w u5):=next HBW.out (next K4'.out p5)
 clear p5 c0 c1 c2 c3 c4 c5
 go_wp2
 go_ret
 rw [HK.out]
 exact ⟨rfl,K5'.out⟩
theorem Own5.far {B r:Nat} {b:Bk} {q:Bp} {u u':World} (h:Own5 B b q u) (g:u.grownBy u' (some r)) (hr:r<B):Own5 B b q u':=by
 have ne:∀ {t:TypeId} {s n:Nat} {v:Value} {xs:List Value},u.ownsRow B t s v n xs→v.ownBlock=none∨v.ownBlock≠some r:=fun o=>.inr fun e=>by
  have:=(o.lt _ e).1;omega
 exact ⟨h.off.kept g (ne h.off),h.az.kept g (ne h.az),h.cs.kept g (ne h.cs),h.ls.kept g (ne h.ls),h.log.kept g (ne h.log)⟩
theorem Own5.rows {B:Nat} {b:Bk} {q:Bp} {u:World} (h:Own5 B b q u) {r:Option Nat} (hr:isRow b q r):∀ j,r=some j→B≤j∧j<u.heap.size:=by
 intro j hj
 rcases hr with rfl | rfl | rfl | rfl | rfl
 ·exact h.off.lt j hj
 ·exact h.az.lt j hj
 ·exact h.cs.lt j hj
 ·exact h.ls.lt j hj
 ·exact h.log.lt j hj
def LQ (V:World) (X:Nat) (b:Bk) (q:Bp) (u:World):Prop:=Below V.heap.size V u∧Z6 X (.int .i64 b.today) (.slice q.o b.off.length q.oc) (.slice q.a b.az.length q.ac) (.slice q.c b.cs.length q.cc) (.slice q.l b.ls.length q.lc) (.slice q.g b.log.length q.gc) u
theorem lq_mark {V:World} {X B:Nat} {b:Bk} {q:Bp} {u0:World} (ho:Own5 B b q u0) (hV:V.heap.size≤B) (hX:u0.heap.size≤X):∀ r,isRow b q r→∀ u u':World,u.grownBy u' r→LQ V X b q u→LQ V X b q u':=by
 intro r hr u u' g h
 have hrow:=ho.rows hr
 refine ⟨h.1.grown g h.1.size (fun j hj=>by have:=(hrow j hj).1;omega),h.2.grown g (fun e=>?_)⟩
 have:=(hrow X e.symm).2
 omega
theorem allLaw (t:Int) (a1:Option Addr) (len1 cap1:Nat) (z1:List Int) (b2:Option Addr) (cap2:Nat) (rs:Recs) (w:World) (w1:IsRow .i64 w a1 len1 cap1 z1) (w2:TxtsAt w b2 rs∧TxtsBd rs) (hE:E0 w) :
  Calls Tryz.prog 3 #[.int .i64 t,.slice a1 len1 cap1,.slice b2 rs.length cap2] w fun e w'=>e=.returned (.bool true)∧Below w.heap.size w w':=by
 obtain ⟨hl,hz⟩:=ints_of_row w1
 obtain ⟨hx,hd⟩:=w2
 clear w1
 generalize z1.take len1=zs at hl hz
 subst hl
 by_cases hbig:(1048576:Int)<(zs.length:Int)
 ·clear hz hx hd hE
  go_enter Tryz.func3,Tryz.ntmps3
  go_wp2
  go_ret
  exact ⟨rfl,Below.refl _ _⟩
 have HSZ:Hid (Calls Tryz.prog 10 #[.slice b2 rs.length cap2,.int .i64 1048576] w fun e w'=>e=.returned (.int .i64 (leftT rs 1048576))∧Below w.heap.size w w'):=szStringS_any b2 cap2 rs w hx hd
 by_cases hneg:leftT rs 1048576<0
 ·obtain ⟨lf,hlf⟩:∃ x,leftT rs 1048576=x:=⟨_,rfl⟩
  rw [hlf] at hneg HSZ
  clear hz hx hd hE hlf
  go_enter Tryz.func3,Tryz.ntmps3
  go_wp2_with fail
  refine Calls.mono HSZ.out ?_
  rintro e u0 ⟨rfl,p0⟩
  go_wp2
  go_ret
  exact ⟨rfl,p0⟩
 have hsum:=leftT_sum (show 0≤leftT rs 1048576 by omega)
 have hm:rs.length≤1048576:=by omega
 have hn:zs.length≤1048576:=by omega
 have HD:Hid (∀ r ∈ rs,r.length<1048576):=fun r hr=>by
  have h1:=sumT_mem hr
  have h2:0<rs.length:=List.length_pos_of_mem hr
  omega
 have HZ:Hid (IntsAt w a1 zs):=hz
 have HX:Hid (TxtsAt w b2 rs):=hx
 have HE:Hid (E0 w):=hE
 obtain ⟨lf,hlf⟩:∃ x,leftT rs 1048576=x:=⟨_,rfl⟩
 rw [hlf] at hneg HSZ
 have HI:Hid (∀ u,Below w.heap.size w u→Calls Tryz.prog 12 #[.slice a1 zs.length cap1] u fun e w'=>e=.returned (.slice (some ⟨u.heap.size,0,none⟩) zs.length zs.length)∧w'.ownsRow u.heap.size 3 1 (.slice (some ⟨u.heap.size,0,none⟩) zs.length zs.length) zs.length (zs.map (Value.int .i64))∧Below u.heap.size u w'):=fun u h=>toIntS_any a1 cap1 zs u (HZ.out.below h) hn
 have HT:Hid (∀ u,Below w.heap.size w u→Calls Tryz.prog 13 #[.slice b2 rs.length cap2] u fun e w'=>e=.returned (.slice (some ⟨u.heap.size,0,none⟩) rs.length rs.length)∧w'.ownsRow u.heap.size 9 1 (.slice (some ⟨u.heap.size,0,none⟩) rs.length rs.length) rs.length (scells rs)∧Below u.heap.size u w'):=fun u h=>toStringS_any b2 cap2 rs u (HX.out.below h) hm
 clear hz hx hd hE hlf hsum
 go_enter Tryz.func3,Tryz.ntmps3
 go_wp2_with fail
 refine Calls.mono HSZ.out ?_
 rintro e u0 ⟨rfl,p0⟩
 have B0:Hid (Below w.heap.size w u0):=p0
 clear p0 HSZ
 go_wp2_with fail
 refine Calls.mono (HI.out u0 B0.out) ?_
 rintro e u1 ⟨rfl,o1,p1⟩
 have B1:Hid (Below w.heap.size w u1):=next B0.out p1
 have X1:Hid (IntsAt u1 (some ⟨u0.heap.size,0,none⟩) zs):=ints_own o1
 clear o1 p1
 go_wp2_with fail
 refine Calls.mono (HT.out u1 B1.out) ?_
 rintro e u2 ⟨rfl,o2,p2⟩
 have B2:Hid (Below w.heap.size w u2):=next B1.out p2
 have X2:Hid (IntsAt u2 (some ⟨u0.heap.size,0,none⟩) zs):=X1.out.below p2
 have Y2:Hid (TxtsAt u2 (some ⟨u1.heap.size,0,none⟩) rs):=txts_any o2
 have HSP:Hid (Calls Tryz.prog 11 #[.int .i64 t,.slice (some ⟨u0.heap.size,0,none⟩) zs.length zs.length,.slice (some ⟨u1.heap.size,0,none⟩) rs.length rs.length] u2 (SlR t zs rs u2)):=sAll_any t _ _ zs _ _ rs u2 X2.out hn Y2.out hm HD.out
 clear o2 p2 X1
 go_wp2_with fail
 refine Calls.mono HSP.out ?_
 rintro e u3 ⟨b,n,p,rfl,hal,hbk,p3⟩
 unfold bkv
 have HAL:Hid (AllSl t zs rs b n):=hal
 obtain ⟨X8,hX8⟩:∃ X,u3.heap.size=X:=⟨_,rfl⟩
 obtain ⟨W8,hW8⟩:∃ W,W=u3.alloc (.cells #[.int .i64 b.today,.slice p.o b.off.length p.oc,.slice p.a b.az.length p.ac,.slice p.c b.cs.length p.cc,.slice p.l b.ls.length p.lc,.slice p.g b.log.length p.gc] 31):=⟨_,rfl⟩
 have b8:Below u3.heap.size u3 W8:=by rw [hW8];exact (Below.refl _ _).alloc (Nat.le_refl _) _
 have Z8:Hid (Z6 X8 (.int .i64 b.today) (.slice p.o b.off.length p.oc) (.slice p.a b.az.length p.ac) (.slice p.c b.cs.length p.cc) (.slice p.l b.ls.length p.lc) (.slice p.g b.log.length p.gc) W8):=by rw [Hid,hW8,← hX8];exact Z6.new u3 _ _ _ _ _ _ _
 have K8:Hid (BookAt W8 b p):=hbk.below b8
 have B8:Hid (Below w.heap.size w W8):=next (next B2.out p3) b8
 have V8:Hid (∀ u,Below W8.heap.size W8 u→Below w.heap.size w u):=fun u h=>next B8.out h
 have EQ8:Hid _:=hW8
 have EX8:Hid _:=hX8
 clear hal hbk p3 b8 hW8 hX8 HSP X2 Y2 B0 B1 B2
 go_upto_region 8 with fail
 rw [← EQ8.out,EX8.out]
 clear EQ8 EX8
 go_wp2_with fail
 refine Calls.mono (HI.out W8 B8.out) ?_
 rintro e u4 ⟨rfl,o4,p4⟩
 obtain ⟨I,hI⟩:∃ I,W8.heap.size=I:=⟨_,rfl⟩
 have B4:Hid (Below W8.heap.size W8 u4):=p4
 have R4:Hid (u4.ownsRow I 3 1 (.slice (some ⟨I,0,none⟩) zs.length zs.length) zs.length (zs.map (Value.int .i64))):=by rw [Hid,← hI];exact o4
 have HIV:Hid (W8.heap.size=I):=hI
 rw [hI]
 clear o4 p4 hI
 go_wp2_with fail
 refine Calls.mono (HT.out u4 (V8.out u4 B4.out)) ?_
 rintro e u5 ⟨rfl,o5,p5⟩
 obtain ⟨T,hT⟩:∃ I,u4.heap.size=I:=⟨_,rfl⟩
 have B5:Hid (Below W8.heap.size W8 u5):=next B4.out p5
 have R5:Hid (u5.ownsRow I 3 1 (.slice (some ⟨I,0,none⟩) zs.length zs.length) zs.length (zs.map (Value.int .i64))):=keepL R4.out p5
 have S5:Hid (u5.ownsRow T 9 1 (.slice (some ⟨T,0,none⟩) rs.length rs.length) rs.length (scells rs)):=by rw [Hid,← hT];exact o5
 have HIT:Hid (I<T∧T<u5.heap.size):=⟨by rw [← hT];exact (R4.out.lt I rfl).2,(S5.out.lt T rfl).2⟩
 rw [hT]
 have HE5:Hid (E0 u5):=e0_keep _ _ HE.out ((V8.out u5 B5.out).mono HE.out.size)
 have HIM:Hid (Calls Tryz.prog 14 #[.int .i64 t,.slice (some ⟨I,0,none⟩) zs.length zs.length,.slice (some ⟨T,0,none⟩) rs.length rs.length] u5 (AlR t zs rs u5)):=iAll_any t _ _ zs _ _ rs u5 (ints_own R5.out) hn (txts_any S5.out) hm HD.out HE5.out
 clear o5 p5 R4 B4 hT
 go_wp2_with fail
 refine Calls.mono HIM.out ?_
 rintro e u6 ⟨b',n',q,rfl,hai,hj,how,p6⟩
 obtain ⟨hbb,hnn⟩:=all_agree hai HAL.out
 have HALF:Hid (AllSl t zs rs b' n'):=by rw [hbb,hnn];exact HAL.out
 subst hbb
 subst hnn
 unfold bkv
 have HSM:Hid (bkSm b'):=(jw_pre hj).sm
 obtain ⟨X12,hX12⟩:∃ X,u6.heap.size=X:=⟨_,rfl⟩
 obtain ⟨W12,hW12⟩:∃ W,W=u6.alloc (.cells #[.int .i64 b'.today,.slice q.o b'.off.length q.oc,.slice q.a b'.az.length q.ac,.slice q.c b'.cs.length q.cc,.slice q.l b'.ls.length q.lc,.slice q.g b'.log.length q.gc] 31):=⟨_,rfl⟩
 have b12:Below u6.heap.size u6 W12:=by rw [hW12];exact (Below.refl _ _).alloc (Nat.le_refl _) _
 have Z12:Hid (Z6 X12 (.int .i64 b'.today) (.slice q.o b'.off.length q.oc) (.slice q.a b'.az.length q.ac) (.slice q.c b'.cs.length q.cc) (.slice q.l b'.ls.length q.lc) (.slice q.g b'.log.length q.gc) W12):=by rw [Hid,hW12,← hX12];exact Z6.new u6 _ _ _ _ _ _ _
 have O12:Hid (Own5 u5.heap.size b' q W12):=how.below b12
 have HROW:Hid (∀ r,isRow b' q r→∀ u u':World,u.grownBy u' r→LQ W8 X12 b' q u→LQ W8 X12 b' q u'):=lq_mark how (by have:=B5.out.size;exact this) (by rw [hX12];exact Nat.le_refl _)
 have B12:Hid (Below W8.heap.size W8 W12):=next (next B5.out p6) b12
 have R12:Hid (W12.ownsRow I 3 1 (.slice (some ⟨I,0,none⟩) zs.length zs.length) zs.length (zs.map (Value.int .i64))):=keepL (keepL R5.out p6) b12
 have S12:Hid (W12.ownsRow T 9 1 (.slice (some ⟨T,0,none⟩) rs.length rs.length) rs.length (scells rs)):=keepL (keepL S5.out p6) b12
 have HTX:Hid (u5.heap.size≤X12):=by rw [Hid,← hX12];exact p6.size
 have EQ12:Hid _:=hW12
 have EX12:Hid _:=hX12
 clear hai hj how p6 b12 hW12 hX12 HIM R5 S5 HAL HE5 B5
 go_upto_region 11 with fail
 rw [← EQ12.out,EX12.out]
 clear EQ12 EX12
 have HEQ:Hid (∀ (u:World) (q':Bp),Below W8.heap.size W8 u→BookAt u b' q'→Calls Tryz.prog 15 #[.agg #[.int .i64 b'.today,.slice q'.o b'.off.length q'.oc,.slice q'.a b'.az.length q'.ac,.slice q'.c b'.cs.length q'.cc,.slice q'.l b'.ls.length q'.lc,.slice q'.g b'.log.length q'.gc],.agg #[.int .i64 b'.today,.slice p.o b'.off.length p.oc,.slice p.a b'.az.length p.ac,.slice p.c b'.cs.length p.cc,.slice p.l b'.ls.length p.lc,.slice p.g b'.log.length p.gc]] u fun e w'=>e=.returned (.bool true)∧Below u.heap.size u w'):=fun u q' h hk=>eqBook_same b' q' p u hk (K8.out.below h) HSM.out
 have Z8U:Hid (∀ u,Below W8.heap.size W8 u→Z6 X8 (.int .i64 b'.today) (.slice p.o b'.off.length p.oc) (.slice p.a b'.az.length p.ac) (.slice p.c b'.cs.length p.cc) (.slice p.l b'.ls.length p.lc) (.slice p.g b'.log.length p.gc) u):=fun u h=>Z8.out.below h
 obtain ⟨c0,c1,c2,c3,c4,c5,-,-,-,-,-,-⟩:=Z12.out
 obtain ⟨d0,d1,d2,d3,d4,d5,-,-,-,-,-,-⟩:=Z8U.out W12 B12.out
 have hnn:(n' != n')=false:=by simp
 go_wp2_with fail
 refine Calls.mono (HEQ.out W12 q B12.out O12.out.at) ?_
 rintro e u7 ⟨rfl,p7⟩
 have B7:Hid (Below W8.heap.size W8 u7):=next B12.out p7
 have Z7:Hid (Z6 X12 (.int .i64 b'.today) (.slice q.o b'.off.length q.oc) (.slice q.a b'.az.length q.ac) (.slice q.c b'.cs.length q.cc) (.slice q.l b'.ls.length q.lc) (.slice q.g b'.log.length q.gc) u7):=Z12.out.below p7
 have O7:Hid (Own5 u5.heap.size b' q u7):=O12.out.below p7
 have R7:Hid (u7.ownsRow I 3 1 (.slice (some ⟨I,0,none⟩) zs.length zs.length) zs.length (zs.map (Value.int .i64))):=keepL R12.out p7
 have S7:Hid (u7.ownsRow T 9 1 (.slice (some ⟨T,0,none⟩) rs.length rs.length) rs.length (scells rs)):=keepL S12.out p7
 clear p7 c0 c1 c2 c3 c4 c5 d0 d1 d2 d3 d4 d5 Z12 O12 R12 S12 B12
 go_wp2_with fail
 refine Calls.mono (HI.out u7 (V8.out u7 B7.out)) ?_
 rintro e u8 ⟨rfl,o8,p8⟩
 have y8:=ints_own o8
 have B8':Hid (Below W8.heap.size W8 u8):=next B7.out p8
 have HCI:Hid (Calls Tryz.prog 16 #[.slice (some ⟨I,0,none⟩) zs.length zs.length,.slice (some ⟨u7.heap.size,0,none⟩) zs.length zs.length] u8 fun e w'=>e=.returned (.bool (decide (zs=zs)))∧Below u8.heap.size u8 w'):=eqIntS_any _ _ _ _ zs zs u8 ((ints_own R7.out).below p8) y8 (by omega) (by omega)
 have P8:Hid (Below u7.heap.size u7 u8):=p8
 rw [decide_eq_true (rfl:zs=zs)] at HCI
 clear o8 p8 y8
 go_wp2_with fail
 refine Calls.mono HCI.out ?_
 rintro e u9 ⟨rfl,p9⟩
 have P9:Hid (Below u7.heap.size u7 u9):=next P8.out p9
 have B9:Hid (Below W8.heap.size W8 u9):=next B8'.out p9
 clear p9 HCI P8 B8'
 go_wp2_with fail
 refine Calls.mono (HT.out u9 (V8.out u9 B9.out)) ?_
 rintro e u10 ⟨rfl,o10,p10⟩
 have y10:=txts_any o10
 have P10:Hid (Below u7.heap.size u7 u10):=next P9.out p10
 have B10:Hid (Below W8.heap.size W8 u10):=next B9.out p10
 have HCT:Hid (Calls Tryz.prog 17 #[.slice (some ⟨T,0,none⟩) rs.length rs.length,.slice (some ⟨u9.heap.size,0,none⟩) rs.length rs.length] u10 fun e w'=>e=.returned (.bool (decide (rs=rs)))∧Below u10.heap.size u10 w'):=eqStringS_any _ _ _ _ rs rs u10 ((txts_any S7.out).below P10.out) y10 (by omega) (by omega)
 rw [decide_eq_true (rfl:rs=rs)] at HCT
 clear o10 p10 y10 P9 B9
 go_wp2_with fail
 refine Calls.mono HCT.out ?_
 rintro e u11 ⟨rfl,p11⟩
 have P11:Hid (Below u7.heap.size u7 u11):=next P10.out p11
 have B11:Hid (Below W8.heap.size W8 u11):=next B10.out p11
 have Z11:Hid (Z6 X12 (.int .i64 b'.today) (.slice q.o b'.off.length q.oc) (.slice q.a b'.az.length q.ac) (.slice q.c b'.cs.length q.cc) (.slice q.l b'.ls.length q.lc) (.slice q.g b'.log.length q.gc) u11):=Z7.out.below P11.out
 have O11:Hid (Own5 u5.heap.size b' q u11):=O7.out.below P11.out
 have R11:Hid (u11.ownsRow I 3 1 (.slice (some ⟨I,0,none⟩) zs.length zs.length) zs.length (zs.map (Value.int .i64))):=keepL R7.out P11.out
 have S11:Hid (u11.ownsRow T 9 1 (.slice (some ⟨T,0,none⟩) rs.length rs.length) rs.length (scells rs)):=keepL S7.out P11.out
 have HMI:Hid (Calls Tryz.prog 18 #[.slice (some ⟨I,0,none⟩) zs.length zs.length,.int .i64 1] u11 fun e w'=>e=.returned (.int .i64 (1+(zs.length:Int)))∧w'.ownsRow I 3 1 (.slice (some ⟨I,0,none⟩) zs.length zs.length) zs.length ((cnt 1 zs.length).map (Value.int .i64))∧u11.grownBy w' (Value.slice (some ⟨I,0,none⟩) zs.length zs.length).ownBlock):=markIntS_any _ _ _ I 1 _ u11 R11.out (by omega) (by omega) (by omega)
 obtain ⟨m1,hm1⟩:∃ m:Nat,1+zs.length=m:=⟨_,rfl⟩
 rw [show (1:Int)+(zs.length:Int)=(m1:Int) from by omega] at HMI
 have hm1b:0<m1∧m1≤1048577:=by omega
 clear p11 HCT P10 B10 P11 Z7 O7 R7 S7 B7 hm1
 go_wp2_with fail
 refine Calls.mono HMI.out ?_
 rintro e u12 ⟨rfl,-,g12⟩
 replace g12:u11.grownBy u12 (some I):=g12
 have B12:Hid (Below W8.heap.size W8 u12):=B11.out.grown g12 B11.out.size (fun j hj=>by injection hj with hj;have:=HIV.out;omega)
 have Z12:Hid (Z6 X12 (.int .i64 b'.today) (.slice q.o b'.off.length q.oc) (.slice q.a b'.az.length q.ac) (.slice q.c b'.cs.length q.cc) (.slice q.l b'.ls.length q.lc) (.slice q.g b'.log.length q.gc) u12):=Z11.out.grown g12 (fun e=>by injection e with e;have:=HTX.out;have:=HIT.out;omega)
 have O12:Hid (Own5 u5.heap.size b' q u12):=O11.out.far g12 (by have:=HIT.out;omega)
 have S12:Hid (u12.ownsRow T 9 1 (.slice (some ⟨T,0,none⟩) rs.length rs.length) rs.length (scells rs)):=S11.out.kept g12 (.inr fun e=>by have e':some T=some I:=e;injection e' with e';have:=HIT.out;omega)
 have HMT:Hid (Calls Tryz.prog 19 #[.slice (some ⟨T,0,none⟩) rs.length rs.length,.int .i64 (m1:Int)] u12 fun e w'=>e=.returned (.int .i64 ((m1+rs.length:Nat):Int))∧w'.ownsRow T 9 1 (.slice (some ⟨T,0,none⟩) rs.length rs.length) rs.length (scells (mkS m1 rs.length))∧u12.grownBy w' (Value.slice (some ⟨T,0,none⟩) rs.length rs.length).ownBlock):=markStringS_any _ _ T m1 rs u12 S12.out (by omega) (by omega) (by omega)
 obtain ⟨m2,hm2⟩:∃ m:Nat,m1+rs.length=m:=⟨_,rfl⟩
 rw [hm2] at HMT
 have hm2b:¬ (m2:Int)<0:=by omega
 clear g12 HMI B11 Z11 O11 R11 S11 hm2
 go_wp2_with fail
 refine Calls.mono HMT.out ?_
 rintro e u13 ⟨rfl,-,g13⟩
 replace g13:u12.grownBy u13 (some T):=g13
 have B13:Hid (Below W8.heap.size W8 u13):=B12.out.grown g13 B12.out.size (fun j hj=>by injection hj with hj;have:=HIV.out;have:=HIT.out;omega)
 have Z13:Hid (Z6 X12 (.int .i64 b'.today) (.slice q.o b'.off.length q.oc) (.slice q.a b'.az.length q.ac) (.slice q.c b'.cs.length q.cc) (.slice q.l b'.ls.length q.lc) (.slice q.g b'.log.length q.gc) u13):=Z12.out.grown g13 (fun e=>by injection e with e;have:=HTX.out;have:=HIT.out;omega)
 have O13:Hid (Own5 u5.heap.size b' q u13):=O12.out.far g13 (by have:=HIT.out;omega)
 clear g13 HMT B12 Z12 O12 S12
 obtain ⟨c0,c1,c2,c3,c4,c5,-,-,-,-,-,-⟩:=Z13.out
 obtain ⟨d0,d1,d2,d3,d4,d5,-,-,-,-,-,-⟩:=Z8U.out u13 B13.out
 go_wp2_with fail
 refine Calls.mono (HEQ.out u13 q B13.out O13.out.at) ?_
 rintro e u14 ⟨rfl,p14⟩
 have B14:Hid (Below W8.heap.size W8 u14):=next B13.out p14
 have Z14:Hid (Z6 X12 (.int .i64 b'.today) (.slice q.o b'.off.length q.oc) (.slice q.a b'.az.length q.ac) (.slice q.c b'.cs.length q.cc) (.slice q.l b'.ls.length q.lc) (.slice q.g b'.log.length q.gc) u14):=Z13.out.below p14
 have O14:Hid (Own5 u5.heap.size b' q u14):=O13.out.below p14
 have HMB:Hid (Calls Tryz.prog 20 #[.agg #[.int .i64 b'.today,.slice q.o b'.off.length q.oc,.slice q.a b'.az.length q.ac,.slice q.c b'.cs.length q.cc,.slice q.l b'.ls.length q.lc,.slice q.g b'.log.length q.gc],.int .i64 1] u14 fun e w'=>e=.returned (.int .i64 (k6B b':Int))∧Mrk u5.heap.size b' q w'∧LQ W8 X12 b' q w'):=mark5_any b' q _ u14 O14.out HSM.out (LQ W8 X12 b' q) HROW.out ⟨B14.out,Z14.out⟩
 have HHB:Hid (∀ u,Mrk u5.heap.size b' q u→Calls Tryz.prog 21 #[.agg #[.int .i64 b'.today,.slice q.o b'.off.length q.oc,.slice q.a b'.az.length q.ac,.slice q.c b'.cs.length q.cc,.slice q.l b'.ls.length q.lc,.slice q.g b'.log.length q.gc],.int .i64 1] u fun e w'=>e=.returned (.int .i64 (k6B b':Int))∧Below u.heap.size u w'):=fun u h=>held5_any b' q _ u h HSM.out
 obtain ⟨K6,hK6⟩:∃ k:Nat,k6B b'=k:=⟨_,rfl⟩
 rw [hK6] at HMB HHB
 have hkn:¬ (K6:Int)<0:=by omega
 have hkk:((K6:Int) != (K6:Int))=false:=by simp
 clear p14 c0 c1 c2 c3 c4 c5 d0 d1 d2 d3 d4 d5 B13 Z13 O13 hK6 HROW
 obtain ⟨c0,c1,c2,c3,c4,c5,-,-,-,-,-,-⟩:=Z14.out
 go_wp2_with fail
 refine Calls.mono HMB.out ?_
 rintro e u15 ⟨rfl,mk15,lq15⟩
 have B15:Hid (Below W8.heap.size W8 u15):=lq15.1
 have Z15:Hid (Z6 X12 (.int .i64 b'.today) (.slice q.o b'.off.length q.oc) (.slice q.a b'.az.length q.ac) (.slice q.c b'.cs.length q.cc) (.slice q.l b'.ls.length q.lc) (.slice q.g b'.log.length q.gc) u15):=lq15.2
 have M15:Hid (Mrk u5.heap.size b' q u15):=mk15
 clear mk15 lq15 c0 c1 c2 c3 c4 c5 Z14 O14 B14 HMB
 obtain ⟨c0,c1,c2,c3,c4,c5,-,-,-,-,-,-⟩:=Z15.out
 go_wp2_with fail
 refine Calls.mono (HHB.out u15 M15.out) ?_
 rintro e u16 ⟨rfl,p16⟩
 have B16:Hid (Below W8.heap.size W8 u16):=next B15.out p16
 have Z16:Hid (Z6 X12 (.int .i64 b'.today) (.slice q.o b'.off.length q.oc) (.slice q.a b'.az.length q.ac) (.slice q.c b'.cs.length q.cc) (.slice q.l b'.ls.length q.lc) (.slice q.g b'.log.length q.gc) u16):=Z15.out.below p16
 have M16:Hid (Mrk u5.heap.size b' q u16):=M15.out.below p16
 clear p16 c0 c1 c2 c3 c4 c5 Z15 M15 B15
 go_wp2_with fail
 refine Calls.mono (HI.out u16 (V8.out u16 B16.out)) ?_
 rintro e u17 ⟨rfl,o17,p17⟩
 have P17:Hid (Below u16.heap.size u16 u17):=p17
 have X17:Hid (IntsAt u17 (some ⟨u16.heap.size,0,none⟩) zs):=ints_own o17
 have B17:Hid (Below W8.heap.size W8 u17):=next B16.out p17
 clear o17 p17
 go_wp2_with fail
 refine Calls.mono (HT.out u17 (V8.out u17 B17.out)) ?_
 rintro e u18 ⟨rfl,o18,p18⟩
 have P18:Hid (Below u16.heap.size u16 u18):=next P17.out p18
 have X18:Hid (IntsAt u18 (some ⟨u16.heap.size,0,none⟩) zs):=X17.out.below p18
 have Y18:Hid (TxtsAt u18 (some ⟨u17.heap.size,0,none⟩) rs):=txts_any o18
 have B18:Hid (Below W8.heap.size W8 u18):=next B17.out p18
 have HE18:Hid (E0 u18):=e0_keep _ _ HE.out ((V8.out u18 B18.out).mono HE.out.size)
 have HIM2:Hid (Calls Tryz.prog 14 #[.int .i64 t,.slice (some ⟨u16.heap.size,0,none⟩) zs.length zs.length,.slice (some ⟨u17.heap.size,0,none⟩) rs.length rs.length] u18 fun e w'=>∃ q2,e=.returned (.tuple #[.agg #[.int .i64 b'.today,.slice q2.o b'.off.length q2.oc,.slice q2.a b'.az.length q2.ac,.slice q2.c b'.cs.length q2.cc,.slice q2.l b'.ls.length q2.lc,.slice q2.g b'.log.length q2.gc],.int .i64 n'])∧BookAt w' b' q2∧Below u18.heap.size u18 w'):=(iAll_any t _ _ zs _ _ rs u18 X18.out hn Y18.out hm HD.out HE18.out).mono (fun e w' h=>by
  obtain ⟨b2,n2,q2,h1,h2,_,h4,h5⟩:=h
  obtain ⟨e1,e2⟩:=all_agree h2 HALF.out
  subst e1
  subst e2
  exact ⟨q2,h1,h4.at,h5⟩)
 clear o18 p18 X17 P17 B17 X18 Y18 HE18
 go_wp2_with fail
 refine Calls.mono HIM2.out ?_
 rintro e u19 ⟨q2,rfl,bk19,p19⟩
 obtain ⟨X17,hX17⟩:∃ X,u19.heap.size=X:=⟨_,rfl⟩
 obtain ⟨W17,hW17⟩:∃ W,W=u19.alloc (.cells #[.int .i64 b'.today,.slice q2.o b'.off.length q2.oc,.slice q2.a b'.az.length q2.ac,.slice q2.c b'.cs.length q2.cc,.slice q2.l b'.ls.length q2.lc,.slice q2.g b'.log.length q2.gc] 31):=⟨_,rfl⟩
 have b17:Below u19.heap.size u19 W17:=by rw [hW17];exact (Below.refl _ _).alloc (Nat.le_refl _) _
 have Z17:Hid (Z6 X17 (.int .i64 b'.today) (.slice q2.o b'.off.length q2.oc) (.slice q2.a b'.az.length q2.ac) (.slice q2.c b'.cs.length q2.cc) (.slice q2.l b'.ls.length q2.lc) (.slice q2.g b'.log.length q2.gc) W17):=by rw [Hid,hW17,← hX17];exact Z6.new u19 _ _ _ _ _ _ _
 have K17:Hid (BookAt W17 b' q2):=bk19.below b17
 have P17:Hid (Below u16.heap.size u16 W17):=next (next P18.out p19) b17
 have B17:Hid (Below W8.heap.size W8 W17):=next (next B18.out p19) b17
 have EQ17:Hid _:=hW17
 have EX17:Hid _:=hX17
 clear bk19 p19 b17 hW17 hX17 HIM2 P18 B18
 go_upto_region 31 with fail
 rw [← EQ17.out,EX17.out]
 clear EQ17 EX17
 obtain ⟨c0,c1,c2,c3,c4,c5,-,-,-,-,-,-⟩:=Z17.out
 obtain ⟨d0,d1,d2,d3,d4,d5,-,-,-,-,-,-⟩:=Z8U.out W17 B17.out
 go_wp2_with fail
 refine Calls.mono (HEQ.out W17 q2 B17.out K17.out) ?_
 rintro e u20 ⟨rfl,p20⟩
 have P20:Hid (Below u16.heap.size u16 u20):=next P17.out p20
 have B20:Hid (Below W8.heap.size W8 u20):=next B17.out p20
 have Z20:Hid (Z6 X12 (.int .i64 b'.today) (.slice q.o b'.off.length q.oc) (.slice q.a b'.az.length q.ac) (.slice q.c b'.cs.length q.cc) (.slice q.l b'.ls.length q.lc) (.slice q.g b'.log.length q.gc) u20):=Z16.out.below P20.out
 have M20:Hid (Mrk u5.heap.size b' q u20):=M16.out.below P20.out
 clear p20 c0 c1 c2 c3 c4 c5 d0 d1 d2 d3 d4 d5 Z17 K17 P17 B17 P20
 obtain ⟨c0,c1,c2,c3,c4,c5,-,-,-,-,-,-⟩:=Z20.out
 go_wp2_with fail
 refine Calls.mono (HHB.out u20 M20.out) ?_
 rintro e u21 ⟨rfl,p21⟩
 have HFIN:Hid (Below w.heap.size w u21):=V8.out u21 (next B20.out p21)
 clear p21 c0 c1 c2 c3 c4 c5
 go_wp2
 go_ret
 exact ⟨rfl,HFIN.out⟩
end Go.Proofs.YtomiclakhjncbaaGreatDoor.Kb
