import Derived.Test.YtomiclakhjncbaaGreatDoorKCICaseDo
import Derived.Test.YtomiclakhjncbaaGreatDoorKCKbOpen
import Derived.Test.YtomiclakhjncbaaGreatDoorKCBkDrJ
set_option maxRecDepth 100000
set_option maxHeartbeats 12800000
namespace Go.Proofs.YtomiclakhjncbaaGreatDoor.Kb
open Go.RowKit Go.Proofs.Tryz
theorem Tc {w w':World} {n:String} {g G:Nat} {cs:Array Value} (h:w.var? prog n=some cs) (hg:prog.globalNamed n=some g) (hG:g<G) (hb:Below G w w'):w'.var? prog n=some cs:=by
 unfold World.var? at *
 simp only [hg,Option.bind_some] at h ⊢
 rw [hb.block g hG];exact h
structure E0 (w:World):Prop where
 size:17≤w.heap.size
 step:Di w
 pow : Lib.TabIs prog w "internal/strconv.uint64pow10" .u64 Lib.pow10Tab
 max:∃ m,w.cell? ⟨10,0,none⟩=some (.int .i64 m)
 eFull:∃ t a,w.cell? ⟨1,0,none⟩=some (.iface t (.pointer (some a)))
 eLine:∃ t a,w.cell? ⟨3,0,none⟩=some (.iface t (.pointer (some a)))
 eDay:∃ t a,w.cell? ⟨4,0,none⟩=some (.iface t (.pointer (some a)))
 eAuth:∃ t a,w.cell? ⟨5,0,none⟩=some (.iface t (.pointer (some a)))
 eCases:∃ t a,w.cell? ⟨6,0,none⟩=some (.iface t (.pointer (some a)))
 eCase:∃ t a,w.cell? ⟨7,0,none⟩=some (.iface t (.pointer (some a)))
 eMoney:∃ t a,w.cell? ⟨8,0,none⟩=some (.iface t (.pointer (some a)))
 eAct:∃ t a,w.cell? ⟨9,0,none⟩=some (.iface t (.pointer (some a)))
 words:∀ k,k<10→w.cell? ⟨0,k,none⟩=some (.string ⟨(Al Dm k).toArray⟩)
theorem Vi (w:World) (q:Nat) (os:Array Obj):Below w.heap.size w (Go.Sort.grow (w.drewN q) os) :=
 ⟨rfl,rfl,rfl,by simp [Go.Sort.grow,World.drewN],fun k hk=>by simp [Go.Sort.grow,World.drewN,Array.getElem?_append,hk]⟩
theorem dK (w w':World) (h:E0 w) (hb:Below 17 w w'):E0 w':=by
 have k:∀ (g i:Nat) (v:Value),g<17→w.cell? ⟨g,i,none⟩=some v→w'.cell? ⟨g,i,none⟩=some v:=fun g i v hg hc=>(hb.cell (p:=⟨g,i,none⟩) hg).trans hc
 obtain ⟨m,hm⟩:=h.max;obtain ⟨teFull,aeFull,heFull⟩:=h.eFull;obtain ⟨teLine,aeLine,heLine⟩:=h.eLine;obtain ⟨teDay,aeDay,heDay⟩:=h.eDay;obtain ⟨teAuth,aeAuth,heAuth⟩:=h.eAuth;obtain ⟨teCases,aeCases,heCases⟩:=h.eCases;obtain ⟨teCase,aeCase,heCase⟩:=h.eCase;obtain ⟨teMoney,aeMoney,heMoney⟩:=h.eMoney;obtain ⟨teAct,aeAct,heAct⟩:=h.eAct
 exact ⟨Nat.le_trans h.size hb.size,Tc h.step (g:=16) (by kernel_rfl) (by decide) hb,Tc h.pow (g:=13) (by kernel_rfl) (by decide) hb,⟨m,k _ _ _ (by decide) hm⟩,⟨_,_,k _ _ _ (by decide) heFull⟩,⟨_,_,k _ _ _ (by decide) heLine⟩,⟨_,_,k _ _ _ (by decide) heDay⟩,⟨_,_,k _ _ _ (by decide) heAuth⟩,⟨_,_,k _ _ _ (by decide) heCases⟩,⟨_,_,k _ _ _ (by decide) heCase⟩,⟨_,_,k _ _ _ (by decide) heMoney⟩,⟨_,_,k _ _ _ (by decide) heAct⟩,fun i hi=>k _ _ _ (by decide) (h.words i hi)⟩
theorem I3 {x:Int} (h:Rp x):Bf x:=WalkArith.wf_i64 (by obtain ⟨h1,h2⟩:=h;omega)
theorem cL {x:Int} (h:Bf x):-9223372036854775808≤x∧x≤9223372036854775807:=by
 simp [Bf,Lit.wf,IntKind.min,IntKind.max,IntKind.signed,IntKind.bits] at h;omega
theorem mI {iY aZ cQ am day:Int} (h1:Rp iY) (h2:Rp aZ) (h3:Rp cQ) (h4:Rp am):∀ x ∈ Ft iY aZ cQ am day,Ma x:=by
 intro x hx;unfold Ft at hx
 split at hx
 ·simp at hx;subst hx;exact ⟨I3 h1,I3 h2,I3 h3,I3 h4⟩
 ·cases hx
theorem Xn {c:Cs} {n:Int} (hc:Qk c) (hn:Bf n):(∀ x ∈ Bg c n,Ma x)∧(∀ x ∈ Dw c n,Ma x):=by
 obtain ⟨h1,h2,h3,-⟩:=hc
 refine ⟨fun x hx=>?_,fun x hx=>?_⟩
 ·unfold Bg at hx
  split at hx
  ·cases hx
  ·simp at hx;subst hx;exact ⟨h2,h1,h3,hn⟩
 ·unfold Dw at hx
  split at hx
  ·cases hx
  ·simp at hx;subst hx;exact ⟨h1,h2,h3,hn⟩
theorem bJ {c:Cs} {n:Int} (hc:Qk c) (hn:Bf n):∀ x ∈ Dg c n,Ma x:=by
 intro x hx;unfold Dg at hx
 rcases List.mem_append.1 hx with hx | hx
 ·exact (Xn hc hn).1 x hx
 ·simp at hx;subst hx
  obtain ⟨h1,h2,h3,-⟩:=hc
  refine ⟨?_,(show Bf 9999 from Cq (by omega)),h3,(show Bf 50000 from Cq (by omega))⟩
  show Bf (Oo c n)
  unfold Oo
  split
  ·exact h2
  ·exact h1
theorem sN {c:Cs} {a:Ac} {t:Int} {zs:List Int} (hc:Qk c) (ha:Rp a.am):∀ x ∈ doE c a t zs,Ma x:=by
 intro x hx;have hcl:Bf c.cl:=hc.2.2.2.2.2.2.1
 have hhf:Bf (c.cl / 2):=WalkArith.wf_i64 (by have:=cL hcl;omega)
 unfold doE at hx
 split at hx
 ·unfold Bw at hx
  split at hx
  ·exact (Xn hc (I3 ha)).1 x hx
  split at hx
  ·exact (Xn hc (I3 ha)).2 x hx
  split at hx
  ·exact (Xn hc hcl).1 x hx
  split at hx
  ·exact bJ hc (I3 ha) x hx
  split at hx
  ·unfold Ck at hx
   split at hx
   ·cases hx
   split at hx
   ·exact (Xn hc hcl).1 x hx
   split at hx
   ·exact bJ hc hhf x hx
   ·cases hx
  ·cases hx
 ·cases hx
theorem kU {az:List Au} {i c a d x:Int} (h:Gm az i c a d x):-1≤x:=by
 rcases h with ⟨-,h⟩ | ⟨-,rfl⟩
 ·rcases h with ⟨rfl,-⟩ | ⟨k,-,rfl,-⟩ <;> omega
 ·omega
theorem Yd:Rq F0 E0 17 where
 keep:=dK
 size:=fun w h=>h.size
 num:=fun l w h=>(Tg.iNumOf_any l w (by omega)).mono (fun e w' ⟨h1,h2⟩=>⟨h1,by rw [h2];exact bR⟩)
 dec:=fun m w h hE=>(strconv_Itoa m (by omega) (by omega) w hE.pow).mono (fun e w' hw=>by
  obtain ⟨rfl,k,os,rfl⟩:=hw
  exact ⟨by rw [Lib.itoa,if_neg (by omega)];rfl,Vi w k os⟩)
 clone:=fun l w h=>Sm l w (by omega)
 split:=fun l w h hE=>by obtain ⟨m,hm⟩:=hE.max;exact qS l m w h hm
 eFull:=fun w h=>h.eFull
 eLine:=fun w h=>h.eLine
 eDay:=fun w h=>h.eDay
 eAuth:=fun w h=>h.eAuth
 eCases:=fun w h=>h.eCases
 eCase:=fun w h=>h.eCase
 eMoney:=fun w h=>h.eMoney
 eAct:=fun w h=>h.eAct
 words:=fun w h=>h.words
 prune:=fun ao cap az t w h hn hd=>Z4 ao cap az t w h (by omega) (fun a ha=>by have:=hd a ha;omega)
 use:=fun ao cap az i w h hn hd=>jU ao cap az i w h (by omega) (fun a ha=>by have:=hd a ha;omega)
 add:=fun ao cap az a w h hn hd hl hc=>aI ao cap az a w h hn (fun x hx=>by have:=hd x hx;omega) (by omega) (I3 hc)
 best:=fun ao cap az iY cQ am day w h hn hd hc w3 w4=>dP ao cap az iY cQ am day w h hn (fun a ha=>by have:=hd a ha;omega) hc w3 w4
 start:=fun iY aZ cQ am day w h=>X2 iY aZ cQ am day w (I3 h)
 small:=fun iY aZ cQ am day=>⟨by have:=Ra iY aZ cQ am day;show (Ft iY aZ cQ am day).length≤1048576;omega,fun h1 h2 h3 h4=>mI h1 h2 h3 h4⟩
 act:=fun c a t ao cp zs w h hn hE hc=>Go.Proofs.YtomiclakhjncbaaGreatDoor.iDo_any c a t ao cp zs w h (by omega) hE.step (by have:=hE.size;omega) hc.2.2.1
 few:=fun c a t zs=>⟨by have:=bM c a t zs;show (doE c a t zs).length≤1048576;omega,fun h1 h2=>sN h1 h2⟩
 low:=fun az i c a d x h=>kU h
 stay:=fun ls es h=>by
  show Hv ls es=ls
  have h':(Ch ls es).isSome=false:=h;unfold Hv
  cases hp:Ch ls es with
  | none=>rfl
  | some g=>rw [hp] at h';cases h'
 code:=fun c a t zs=>by have:=kB c a t zs;show 0≤doV c a t zs∧doV c a t zs≤1000;omega
 post:=fun ao cap ls eo ec es w h hn hb hy hm he=>Um ao cap ls eo ec es w h hn hb hy hm he
def zR (t:Int) (zs:List Int):Bk:=⟨t,zs,[],[],[],[]⟩
def Aa7 (t:Int) (zs:List Int) (rs:Be) (b':Bk) (n:Int):Prop :=
 if Sx t zs=true then ∃ k:Nat,n=(k:Int)∧k≤rs.length∧Did F0 (zR t zs) (rs.take k) b'∧(k<rs.length→∃ r,D9 F0 b' (Al rs k) r∧r.2≠0) else b'=zR 0 []∧n = -1
structure Gc (B:Nat) (b:Bk) (q:Bp) (u:World):Prop where
 off:u.ownsRow B 3 1 (.slice q.o b.off.length q.oc) b.off.length (b.off.map (Value.int .i64))
 az:u.ownsRow B 107 6 (.slice q.a b.az.length q.ac) b.az.length (Ah b.az)
 cs:u.ownsRow B 61 12 (.slice q.c b.cs.length q.cc) b.cs.length (Aj b.cs)
 ls:u.ownsRow B 113 3 (.slice q.l b.ls.length q.lc) b.ls.length (Ag b.ls)
 log:u.ownsRow B 9 1 (.slice q.g b.log.length q.gc) b.log.length (Am b.log)
theorem Gc.at {B:Nat} {b:Bk} {q:Bp} {u:World} (h:Gc B b q u):Aq u b q:=⟨Hq h.off,Fd h.az,F2 h.cs,Df h.ls,Ep h.log⟩
theorem Gc.below {B:Nat} {b:Bk} {q:Bp} {u u':World} (h:Gc B b q u) (hb:BW u u'):Gc B b q u':=⟨Av h.off hb,Av h.az hb,Av h.cs hb,Av h.ls hb,Av h.log hb⟩
theorem Gc.low {B B':Nat} {b:Bk} {q:Bp} {u:World} (h:Gc B b q u) (hb:B'≤B):Gc B' b q u:=⟨Ez h.off hb,Ez h.az hb,Ez h.cs hb,Ez h.ls hb,Ez h.log hb⟩
theorem KS.own5 {B K:Nat} {st:Int} {b:Bk} {q:Bp} {u:World} (h:KS B K st b q u):Gc B b q u:=⟨h.off,h.az,h.cs,h.ls,h.log⟩
def AlR (t:Int) (zs:List Int) (rs:Be) (w:World) (e:Ending) (w':World):Prop :=
 ∃ (b':Bk) (n:Int) (q:Bp),e=.returned (.tuple #[C5 b' q,.int .i64 n])∧Aa7 t zs rs b' n∧JW b'∧Gc w.heap.size b' q w'∧BW w w'
theorem Ac1:At []=true:=by decide
theorem Abk {t:Int} {zs:List Int} (h:Sx t zs=true):JW (zR t zs):=by
 simp only [Sx,Ct,Bool.and_eq_true,decide_eq_true_eq] at h
 exact ⟨⟨(by show zs.length≤1000;omega),nL,nL,(fun a ha=>nomatch ha),(fun a ha=>nomatch ha),Ac1,h.1⟩,(by show 0≤600;omega),(fun a ha=>nomatch ha)⟩
theorem Acu:JW (zR 0 []):=Abk (by decide)
theorem Acd (b:Bk) (l:List UInt8) (b2:Bk) (hl:l.length<1048576) (h:JW b) (hd:D9 F0 b l (b2,0)) (hx:∃ r,Fg Fu b l r):JW b2:=by
 obtain ⟨r,hr⟩:=hx;have h1:=(W4 hd hr).1
 have h2:=zW h (by omega) hr
 rw [← h1] at h2;exact h2
theorem iM (b:Bk) (l:List UInt8) {r:Bk×Int} (h:D9 F0 b l r):∃ r',Fg Fu b l r':=by
 unfold D9 at h
 split at h
 ·exact ⟨(b,2),.inl ⟨‹_›,rfl⟩⟩
 ·rename_i hf
  obtain ⟨r0,h0,-⟩:=h
  have hs:∃ s,Fu b l s:=by
   unfold Fu Db
   split
   ·exact ⟨_,rfl⟩
   split
   ·split
    ·exact ⟨_,rfl⟩
    ·exact ⟨_,rfl⟩
   split
   ·rename_i hp
    split
    ·rename_i hn
     unfold D6 at h0
     simp only [Da,Bool.and_eq_true,decide_eq_true_eq] at hp
     have e0:=hp.1
     rw [if_neg (by rw [e0];decide),if_neg (by rw [e0];decide),if_pos e0] at h0
     unfold Fh at h0
     rw [if_pos ⟨hn,by rw [List.length_drop];omega⟩] at h0
     obtain ⟨x,hx,-⟩:=h0;obtain ⟨a,c,d,e,f,hws⟩:=M9 hp.2;rw [hws] at hx ⊢;exact ⟨_,x,hx,rfl⟩
    ·exact ⟨_,rfl⟩
   split
   ·split
    ·exact ⟨_,rfl⟩
    ·exact ⟨_,rfl⟩
   ·exact ⟨_,rfl⟩
  obtain ⟨s,hs⟩:=hs
  by_cases hc:s.2=0
  ·exact ⟨_,.inr ⟨by omega,s,hs,.inr ⟨hc,rfl⟩⟩⟩
  ·exact ⟨_,.inr ⟨by omega,s,hs,.inl ⟨hc,rfl⟩⟩⟩
theorem Ab0 (t:Int) (ao:Option Addr) (c:Nat) (zs:List Int) (lo:Option Addr) (lc:Nat) (rs:Be) (w:World) (hx:Aw w ao zs) (hn:zs.length≤1048576) (hz:Bh w lo rs) (hm:rs.length≤1048576) (hd:∀ r ∈ rs,r.length<1048576) (hE:E0 w) :
  Calls prog 14 #[.int .i64 t,.slice ao zs.length c,.slice lo rs.length lc] w (AlR t zs rs w):=by
 obtain ⟨R,hR⟩:∃ R,w.heap.size=R:=⟨_,rfl⟩;obtain ⟨W,hW⟩:∃ W,W=w.alloc (.cells #[.int .i64 0,.slice none 0 0,.slice none 0 0,.slice none 0 0,.slice none 0 0,.slice none 0 0] 31):=⟨_,rfl⟩
 have HBW:Hid (BW w W):=by rw [Hid,hW];exact bR.alloc nL _
 have HZ0:Hid (Z0 R W):=by rw [Hid,hW,← hR];exact Z6.new w _ _ _ _ _ _ _
 have HST:Hid (Calls prog 44 #[.int .i64 t,.slice ao zs.length c] W (BsR W t zs)):=zZ t ao c zs W (hx.below HBW.o) hn;have HTX:Hid (Bh w lo rs):=hz
 have HTL:Hid (rs≠[]→∀ x,lo=some x→x.block<w.heap.size):=fun hne x hx=>by
  rcases hz with h | ⟨g,off,h1,h2,_⟩
  ·exact absurd h hne
  ·rw [h1] at hx;injection hx with hx;subst hx;exact h2
 have HE:Hid (E0 w):=hE;have HD:Hid (∀ r ∈ rs,r.length<1048576):=hd;have HRR:Hid _:=hR;have HWW:Hid _:=hW;clear hx hz hE hd hR hW
 go_enter func14,ntmps14
 go_wp2_with fail
 rw [← HWW.o];refine Calls.mono HST.o ?_;rintro e w1 ⟨a,k,rfl,o1,p1⟩;rw [HRR.o];have HB1:Hid (BW w w1):=next HBW.o p1;have HZ1:Hid (Z0 R w1):=HZ0.o.below p1;have HSW:Hid (R<W.heap.size):=HZ0.o.lt;have HS1:Hid (W.heap.size≤w1.heap.size):=p1.size;clear p1 HST HWW HZ0
 cases hok:Sx t zs
 ·have e1:bsT t zs=0:=if_neg (by rw [hok];decide)
  have e2:bsL t zs=[]:=if_neg (by rw [hok];decide)
  rw [e1,e2]
  simp only [List.length_nil]
  unfold bk0;obtain ⟨U,hU⟩:∃ U,U=w1.alloc (.cells #[.int .i64 0,.slice a 0 k,.slice none 0 0,.slice none 0 0,.slice none 0 0,.slice none 0 0] 31):=⟨_,rfl⟩
  have HBU:Hid (BW w U):=by rw [Hid,hU];exact HB1.o.alloc HB1.o.size _
  have HZU:Hid (Z0 R U):=by rw [Hid,hU];exact HZ1.o.below (bR.alloc nL _)
  have HQ:Hid (Aa7 t zs rs (zR 0 []) (-1)):=by rw [Hid,Aa7,if_neg (by rw [hok];decide)];exact ⟨rfl,rfl⟩
  have HU:Hid _:=hU;clear hU e1 e2 hok o1;go_upto_region 2 with fail
  rw [← HU.o];obtain ⟨t0,t1,t2,t3,t4,t5,s0,s1,s2,s3,s4,s5⟩:=HZU.o;go_wp2
  refine bodyPost_ret (by simp [results,results14,go_sem,t0,t1,t2,t3,t4,t5];try rfl) rfl ?_
  have bel:=Ax (R:=R) (by rw [HRR.o];exact nL) HBU.o
  exact ⟨zR 0 [],-1,⟨none,0,none,0,none,0,none,0,none,0⟩,rfl,HQ.o,Acu,⟨World.ownsRow_nil _ _ _ _,World.ownsRow_nil _ _ _ _,World.ownsRow_nil _ _ _ _,World.ownsRow_nil _ _ _ _,World.ownsRow_nil _ _ _ _⟩,bel _ _ _ _ _ _⟩
 ·have e1:bsT t zs=t:=if_pos hok
  have e2:bsL t zs=zs:=if_pos hok;rw [e1,e2];rw [e2] at o1;unfold bk0;obtain ⟨U,hU⟩:∃ U,U=w1.alloc (.cells #[.int .i64 t,.slice a zs.length k,.slice none 0 0,.slice none 0 0,.slice none 0 0,.slice none 0 0] 31):=⟨_,rfl⟩;obtain ⟨X,hX⟩:∃ X,w1.heap.size=X:=⟨_,rfl⟩
  have HBU:Hid (BW w U):=by rw [Hid,hU];exact HB1.o.alloc HB1.o.size _
  have HZU:Hid (Z0 R U):=by rw [Hid,hU];exact HZ1.o.below (bR.alloc nL _)
  have HXU:Hid (Z6 X (.int .i64 t) (.slice a zs.length k) (.slice none 0 0) (.slice none 0 0) (.slice none 0 0) (.slice none 0 0) U):=by rw [Hid,hU,← hX];exact Z6.new w1 _ _ _ _ _ _ _
  have HEU:Hid (E0 U):=dK _ _ HE.o (HBU.o.mono HE.o.size)
  have hof:zs.length≤400:=by
   have h:=hok
   simp only [Sx,Ct,Bool.and_eq_true,decide_eq_true_eq] at h
   exact h.2.1
  have HOP:Hid (Calls prog 50 #[.agg #[.int .i64 t,.slice a zs.length k,.slice none 0 0,.slice none 0 0,.slice none 0 0,.slice none 0 0]] U (OpR (zR t zs) U)) :=
   fF Yd (zR t zs) ⟨a,k,none,0,none,0,none,0,none,0⟩ U ⟨by rw [hU];exact Hq (Av o1 (bR.alloc nL _)),.inl rfl,.inl rfl,.inl rfl,.inl rfl⟩ ⟨by show zs.length≤1048576;omega,Nat.zero_le _,Nat.zero_le _,Nat.zero_le _,Nat.zero_le _⟩ (fun a ha=>nomatch ha) (fun a ha=>nomatch ha)
  have HRU:Hid (R<U.heap.size):=HZU.o.lt;have HJ:Hid (JW (zR t zs)):=Abk hok
  have HQ:Hid (∀ (m:Nat) (b':Bk),m≤rs.length→Did F0 (zR t zs) (rs.take m) b'→(m<rs.length→∃ r,D9 F0 b' (Al rs m) r∧r.2≠0)→Aa7 t zs rs b' (m:Int)):=fun m b' h1 h2 h3=>by rw [Aa7,if_pos hok];exact ⟨m,rfl,h1,h2,h3⟩
  have HU:Hid _:=hU;have HXX:Hid _:=hX;clear hU hX e1 e2 hok o1;go_upto_region 2 with fail
  rw [← HU.o,HXX.o];obtain ⟨x0,x1,x2,x3,x4,x5,-,-,-,-,-,-⟩:=HXU.o;go_wp2_with fail
  refine Calls.mono HOP.o ?_;rintro e w3 ⟨K,q,rfl,ks3,p3⟩;have HK3:Hid (KS U.heap.size K 0 (zR t zs) q w3):=ks3;have HB3:Hid (BW w w3):=next HBU.o p3;have HZ3:Hid (Z0 R w3):=HZU.o.below p3;have HE3:Hid (E0 w3):=dK _ _ HE.o (HB3.o.mono HE.o.size)
  have HDU:Hid (Calls prog 51 #[.pointer (some ⟨K,0,none⟩),.slice lo rs.length lc] w3 (UnR U.heap.size K F0 JW (zR t zs) rs w3)) :=
   Ab4 Yd (Nat.le_trans HE.o.size HBU.o.size) (fun b h=>xW h) (fun b l b2 hl h hd=>Acd b l b2 hl h hd (iM b l hd)) (zR t zs) q lo lc rs w3 HK3.o HE3.o HJ.o (HTX.o.below HB3.o) (fun hne x hx=>Nat.lt_of_lt_of_le (HTL.o hne x hx) HBU.o.size) hm HD.o
  clear ks3 p3 HOP x0 x1 x2 x3 x4 x5 HXU;go_wp2_with fail
  refine Calls.mono HDU.o ?_;rintro e w4 ⟨m,b',q',rfl,hm1,hm2,hm3,hj,ks4,p4⟩;have HK4:Hid (KS U.heap.size K 0 b' q' w4):=ks4;have HZ4:Hid (Z0 R w4):=HZ3.o.under p4 HRU.o;have HB4:Hid (BW w w4):=HB3.o.trans (p4.mono HBU.o.size);have HJ4:Hid (JW b'):=hj;have HQ4:Hid (Aa7 t zs rs b' (m:Int)):=HQ.o m b' hm1 hm2 hm3
  have HHO:Hid (Calls prog 52 #[.pointer (some ⟨K,0,none⟩)] w4 fun e w'=>e=.returned (C5 b' q')∧KS U.heap.size K 0 b' q' w'∧Below U.heap.size w4 w'):=eG b' q' w4 HK4.o
  unfold C5 at HHO;clear ks4 p4 hj hm1 hm2 hm3 HDU HQ;go_wp2_with fail
  refine Calls.mono HHO.o ?_;rintro e w5 ⟨rfl,ks5,p5⟩;have HK5:Hid (KS U.heap.size K 0 b' q' w5):=ks5;have HZ5:Hid (Z0 R w5):=HZ4.o.under p5 HRU.o;have HB5:Hid (BW w w5):=HB4.o.trans (p5.mono HBU.o.size);clear ks5 p5 HHO;obtain ⟨t0,t1,t2,t3,t4,t5,s0,s1,s2,s3,s4,s5⟩:=HZ5.o;go_wp2
  refine bodyPost_ret (by simp [results,results14,go_sem,t0,t1,t2,t3,t4,t5];try rfl) rfl ?_
  have bel:=Ax (R:=R) (by rw [HRR.o];exact nL) HB5.o
  have o5:=HK5.o.own5;exact ⟨b',m,q',rfl,HQ4.o,HJ4.o,(Gc.mk (Ea o5.off HRU.o _ _ _ _ _ _) (Ea o5.az HRU.o _ _ _ _ _ _) (Ea o5.cs HRU.o _ _ _ _ _ _) (Ea o5.ls HRU.o _ _ _ _ _ _) (Ea o5.log HRU.o _ _ _ _ _ _)).low HBU.o.size,bel _ _ _ _ _ _⟩
theorem yZ {y:Value} (h:NF E0 y):∃ t p,y=.iface t p:=by
 obtain ⟨w,g,hE,hg,hc⟩:=h
 simp only [aL,List.mem_cons,List.not_mem_nil,or_false] at hg
 rcases hg with rfl | rfl | rfl | rfl | rfl | rfl | rfl
 ·obtain ⟨t,a,h⟩:=hE.eLine
  exact ⟨t,_,Option.some.inj (hc.symm.trans h)⟩
 ·obtain ⟨t,a,h⟩:=hE.eDay
  exact ⟨t,_,Option.some.inj (hc.symm.trans h)⟩
 ·obtain ⟨t,a,h⟩:=hE.eAuth
  exact ⟨t,_,Option.some.inj (hc.symm.trans h)⟩
 ·obtain ⟨t,a,h⟩:=hE.eCases
  exact ⟨t,_,Option.some.inj (hc.symm.trans h)⟩
 ·obtain ⟨t,a,h⟩:=hE.eCase
  exact ⟨t,_,Option.some.inj (hc.symm.trans h)⟩
 ·obtain ⟨t,a,h⟩:=hE.eMoney
  exact ⟨t,_,Option.some.inj (hc.symm.trans h)⟩
 ·obtain ⟨t,a,h⟩:=hE.eAct
  exact ⟨t,_,Option.some.inj (hc.symm.trans h)⟩
theorem wE {b:Bk} {code:Int} {v:Value} (h:rY E0 b code v):(code=0∧v=.nilIface)∨∃ t p,v=.iface 170 (.agg #[.iface t p,.int .i64 code]):=by
 rcases h with h | ⟨-,y,hy,rfl⟩
 ·exact .inl h
 ·refine .inr ?_
  split at hy
  ·obtain ⟨w,hE,hc⟩:=hy
   obtain ⟨t,a,h⟩:=hE.eFull
   exact ⟨t,_,by rw [Option.some.inj (hc.symm.trans h)]⟩
  ·obtain ⟨t,p,rfl⟩:=yZ hy
   exact ⟨t,p,rfl⟩
theorem xS {b:Bk} {code:Int} {v:Value} (w:World) (h:rY E0 b code v) (hg:R4 w):Calls prog 82 #[v] w fun e w'=>e=.returned (.int .i64 code)∧BW w w':=by
 rcases wE h with ⟨rfl,rfl⟩ | ⟨t,p,rfl⟩
 ·exact yJ w
 ·exact xD t p code w hg
def Aax (b:Bk) (line:List UInt8) (w:World) (e:Ending) (w':World):Prop :=
 ∃ (r:Bk×Int) (q:Bp),D9 F0 b line r∧e=.returned (.tuple #[C5 r.1 q,.int .i64 r.2])∧Gc w.heap.size r.1 q w'∧BW w w'
theorem vM (b:Bk) (p:Bp) (line:List UInt8) (w:World) (hx:Aq w b p) (hJ:JW b) (hE:E0 w) (hg:R4 w) (hl:line.length<1048576) :
  Calls prog 30 #[C5 b p,.string ⟨line.toArray⟩] w (Aax b line w):=by
 obtain ⟨W1,hW1⟩:∃ W,W=w.alloc (.cells #[.int .i64 b.today,.slice p.o b.off.length p.oc,.slice p.a b.az.length p.ac,.slice p.c b.cs.length p.cc,.slice p.l b.ls.length p.lc,.slice p.g b.log.length p.gc] 31):=⟨_,rfl⟩;obtain ⟨W,hW⟩:∃ W,W=W1.alloc (.cells #[.int .i64 0,.slice none 0 0,.slice none 0 0,.slice none 0 0,.slice none 0 0,.slice none 0 0] 31):=⟨_,rfl⟩
 have b1:BW w W1:=by rw [hW1];exact bR.alloc nL _
 have b2:BW W1 W:=by rw [hW];exact bR.alloc nL _
 have bW:=next b1 b2
 have zX:Z6 w.heap.size (.int .i64 b.today) (.slice p.o b.off.length p.oc) (.slice p.a b.az.length p.ac) (.slice p.c b.cs.length p.cc) (.slice p.l b.ls.length p.lc) (.slice p.g b.log.length p.gc) W1:=by rw [hW1];exact Z6.new w _ _ _ _ _ _ _
 have HZX:Hid _:=zX.below b2;obtain ⟨X,hX⟩:∃ x,w.heap.size=x:=⟨_,rfl⟩;obtain ⟨R,hR⟩:∃ x,w.heap.size+1=x:=⟨_,rfl⟩
 have hRs:W1.heap.size=R:=by rw [hW1,← hR];simp
 have HZR:Hid (Z0 R W):=by rw [Hid,hW,← hRs];exact Z6.new W1 _ _ _ _ _ _ _
 have HRW:Hid (R<W.heap.size):=HZR.o.lt
 have HWR:Hid (w.heap.size≤R):=by rw [Hid,← hR];omega
 have HBW:Hid (BW w W):=bW;have HE:Hid (E0 w):=hE;have HG:Hid (R4 w):=hg;have hP:=xW hJ;have HP:Hid (Ej b):=hP;have HL:Hid (line.length<1048576):=hl
 have HOP:Hid (Calls prog 50 #[C5 b p] W (OpR b W)):=fF Yd b p W (hx.below bW) (by
  have h1:=hJ.jc.off;have h2:=hJ.jc.az;have h3:=hJ.jc.cs;have h4:=hJ.log;have h5:=(Dq hJ.jc.led).2.1
  exact ⟨by omega,by omega,by omega,by omega,by omega⟩) (fun a ha=>(hJ.jc.ref a ha).1) hJ.gl
 have HW1:Hid _:=hW1;have HW:Hid _:=hW;have HX:Hid _:=hX;have HR:Hid _:=hR;rw [hX] at HZX;unfold C5 at HOP ⊢;clear hRs hW1 hW b1 b2 bW zX hX hR hE hg hP hl hJ hx
 go_enter func30,ntmps30
 go_upto_region 1 with fail
 rw [← HW1.o,← HW.o,HR.o,HX.o];clear HW1 HW HX HR;obtain ⟨x0,x1,x2,x3,x4,x5,-,-,-,-,-,-⟩:=HZX.o;go_wp2_with fail
 refine Calls.mono HOP.o ?_;rintro e w3 ⟨K,q,rfl,ks3,p3⟩;have HK3:Hid (KS W.heap.size K 0 b q w3):=ks3;have HB3:Hid (BW w w3):=next HBW.o p3;have HZ3:Hid (Z0 R w3):=HZR.o.below p3
 have HDO:Hid (Calls prog 83 #[.pointer (some ⟨K,0,none⟩),.string ⟨line.toArray⟩] w3 (pM E0 W.heap.size K F0 b line w3)) :=
  iDo_any Yd (Nat.le_trans HE.o.size HBW.o.size) (fun b q ao cap rs w h1 h2 h3 h4 h5=>lZ Yd (Nat.le_trans HE.o.size HBW.o.size) b q ao cap rs w h1 h2 h3 h4 h5) b q line w3 HK3.o (dK _ _ HE.o (HB3.o.mono HE.o.size)) HP.o HL.o
 clear ks3 p3 HOP x0 x1 x2 x3 x4 x5 HZX;go_wp2_with fail
 refine Calls.mono HDO.o ?_;rintro e w4 ⟨r,q4,v,hr,rfl,hv,ks4,p4⟩;have HK4:Hid (KS W.heap.size K 0 r.1 q4 w4):=ks4;have HZ4:Hid (Z0 R w4):=HZ3.o.under p4.b HRW.o;have HB4:Hid (BW w w4):=HB3.o.trans (p4.b.mono HBW.o.size);have HRL:Hid (D9 F0 b line r):=hr
 have HCO:Hid (Calls prog 82 #[v] w4 fun e w'=>e=.returned (.int .i64 r.2)∧BW w4 w'):=xS w4 hv (HG.o.below HB4.o)
 clear ks4 p4 hr hv HDO HK3 HB3 HZ3;obtain ⟨b',code⟩:=r
 simp only at HK4 HCO
 go_wp2_with fail
 refine Calls.mono HCO.o ?_;rintro e w5 ⟨rfl,p5⟩;have HK5:Hid (KS W.heap.size K 0 b' q4 w5):=HK4.o.below p5;have HZ5:Hid (Z0 R w5):=HZ4.o.below p5;have HB5:Hid (BW w w5):=next HB4.o p5
 have HHO:Hid (Calls prog 52 #[.pointer (some ⟨K,0,none⟩)] w5 fun e w'=>e=.returned (C5 b' q4)∧KS W.heap.size K 0 b' q4 w'∧Below W.heap.size w5 w'):=eG b' q4 w5 HK5.o
 unfold C5 at HHO;clear p5 HCO HK4 HZ4 HB4;go_wp2_with fail
 refine Calls.mono HHO.o ?_;rintro e w6 ⟨rfl,ks6,p6⟩;have HK6:Hid (KS W.heap.size K 0 b' q4 w6):=ks6;have HZ6:Hid (Z0 R w6):=HZ5.o.under p6 HRW.o;have HB6:Hid (BW w w6):=HB5.o.trans (p6.mono HBW.o.size);clear ks6 p6 HHO;obtain ⟨t0,t1,t2,t3,t4,t5,s0,s1,s2,s3,s4,s5⟩:=HZ6.o;go_wp2
 refine bodyPost_ret (by simp [results,results30,go_sem,t0,t1,t2,t3,t4,t5];try rfl) rfl ?_
 have o5:=HK6.o.own5;exact ⟨(b',code),q4,HRL.o,rfl,(Gc.mk (Ea o5.off HRW.o _ _ _ _ _ _) (Ea o5.az HRW.o _ _ _ _ _ _) (Ea o5.cs HRW.o _ _ _ _ _ _) (Ea o5.ls HRW.o _ _ _ _ _ _) (Ea o5.log HRW.o _ _ _ _ _ _)).low HBW.o.size,Ax HWR.o HB6.o _ _ _ _ _ _⟩
theorem xO (a:Option Addr) (len cap:Nat) (m:Int) (w:World) (hn:len≤1048576) (hm:2≤m∧m≤100) :
  Calls prog 80 #[.slice a len cap,.int .i64 m] w fun e w'=>∃ k:Nat,e=.returned (.int .i64 k)∧(1≤(k:Int)∧(k:Int)≤m)∧w'=w:=by
 have hd:((len:Int).tdiv 20)=((len / 20:Nat):Int):=by have:=Int.tdiv_eq_ediv_of_nonneg (a:=(len:Int)) (b:=20) (by omega);omega
 obtain ⟨q,hq⟩:∃ q,len / 20=q:=⟨_,rfl⟩
 have hqb:q≤1048576:=by omega
 rw [hq] at hd
 by_cases h:m<2+(q:Int)
 ·obtain ⟨k,rfl⟩:=Int.eq_ofNat_of_zero_le (show 0≤m by omega)
  go_enter func80,ntmps80
  go_wp2;go_ret
  exact ⟨k,rfl,by omega,rfl⟩
 ·go_enter func80,ntmps80
  go_wp2;go_ret
  exact ⟨2+q,by simp,by omega,rfl⟩
structure TX (B g T:Nat) (w:World) (b:Bk) (p:Bp) (u:World):Prop where
 cu:A2 B u g
 be:BW w u
 z:Z6b T b p u
 bk:Aq u b p
 og:Wq p g
 hg:w.heap.size≤g
 hT:T≠g
theorem TX.call {B g T:Nat} {w:World} {b:Bk} {p:Bp} {u u':World} (q:TX B g T w b p u) (c:A2 B u' g) (r:u.grownBy u' (some g)):TX B g T w b p u' :=
 ⟨c,q.be.grown r q.be.size (fun k hk=>by cases hk;exact q.hg),Z6.grown q.z r (by have:=q.hT;simp;omega),q.bk.farB r q.og,q.og,q.hg,q.hT⟩
theorem TX.below {B g T:Nat} {w:World} {b:Bk} {p:Bp} {u u':World} (q:TX B g T w b p u) (h:BW u u'):TX B g T w b p u':=q.call (A4 q.cu h) (K8 h _)
def RdD (w:World) (e:Ending) (w':World):Prop:=∃ (ao:Option Addr) (c:Nat) (zs:List Int) (l:List UInt8),e=.returned (.tuple #[.int .i64 9000,.slice ao zs.length c,.string ⟨l.toArray⟩])∧Sx 9000 zs=true∧zs.length≤10∧l.length≤1048576∧Aw w' ao zs∧BW w w'
theorem Aco (n:Nat):∀ lg:Be,(∀ l ∈ lg,l.length≤n)→V3 lg≤lg.length*n
 | [],_=>by simp [V3]
 | r::s,h=>by
  have h1:=Aco n s (fun l hl=>h l (List.mem_cons_of_mem _ hl))
  have h2:=h r (List.mem_cons_self ..)
  have e:V3 (r::s)=r.length+V3 s:=by simp [V3]
  rw [e,List.length_cons,Nat.succ_mul]
  omega
theorem Acb {b:Bk} (h:Z7 100 b):tL b∧(Aa6 b.log).length≤200000:=by
 have h1:=h.inv.log;have h2:=Aco 1000 b.log h.lg
 have h3:b.log.length*1000≤100000:=by omega
 have h4:=Abn b.log
 refine ⟨⟨(tS h.inv (by omega)).1,?_⟩,by omega⟩
 omega
theorem Acn {w u:World} {b:Bk} {p:Bp} {s:ByteArray} (hI:Z7 100 b) (hs:s.size≤1048576) (hk:Aq u b p) (hb:BW w u):RdD w (.returned (.tuple #[.int .i64 9000,.slice p.o b.off.length p.oc,.string s])) u :=
 ⟨p.o,p.oc,b.off,s.data.toList,by cases s;simp,hI.offs,hI.inv.off,by cases s;simpa [ByteArray.size] using hs,hk.off,hb⟩
theorem Ab5 (a:Option Addr) (len cap:Nat) (zs:List Int) (w:World) (hr:pZ .u8 w a len cap zs) (hn:len≤1048576) :
  Calls prog 40 #[.slice a len cap] w (RdD w):=by
 go_enter func40,ntmps40
 go_wp2_with fail
 refine (zK _ _ _ _ _ hr hn).mono ?_;rintro e u1 ⟨rfl,c1,b1⟩;clear hr;go_wp2_with fail
 refine (xO a len cap 40 u1 hn (by omega)).mono ?_
 rintro e w' ⟨k,rfl,hk,hw'⟩;subst hw';go_wp2_with fail
 refine (G4 _ _ _ c1 (by omega)).mono ?_
 rintro e u2 ⟨x,rfl,x0,x1,c2,g2⟩;obtain ⟨n,rfl⟩:=Int.eq_ofNat_of_zero_le x0
 have hn40:n≤100:=by
  have:=x1 hk.1;omega
 have q2:BW w u2:=b1.grown g2 b1.size (fun k hk=>by cases hk;omega)
 clear c1 b1 x1 x0 g2;go_wp2_with fail
 refine (wW w.heap.size n u2 c2 hn40).mono ?_;rintro e u3 ⟨b,p,rfl,hI,hb,hog,hfr,c3,g3⟩
 have q3:BW w u3:=q2.grown g3 q2.size (fun k hk=>by cases hk;omega)
 have HI:Hid (Z7 100 b):=hI;have cb:=K6 c3
 have HT:Hid (TX (w.heap.size+1) w.heap.size u3.heap.size w b p (u3.alloc (.cells #[.int .i64 b.today,.slice p.o b.off.length p.oc,.slice p.a b.az.length p.ac,.slice p.c b.cs.length p.cc,.slice p.l b.ls.length p.lc,.slice p.g b.log.length p.gc] 31))):=by
  have bA:Below u3.heap.size u3 (u3.alloc (.cells #[.int .i64 b.today,.slice p.o b.off.length p.oc,.slice p.a b.az.length p.ac,.slice p.c b.cs.length p.cc,.slice p.l b.ls.length p.lc,.slice p.g b.log.length p.gc] 31)):=bR.alloc nL _
  exact ⟨A3 c3 _,next q3 bA,Z6.new u3 _ _ _ _ _ _ _,hb.below bA,hog,nL,by omega⟩
 unfold C5;clear c2 q2 hI hb hog hfr c3 g3 q3;go_upto_region 3 with fail
 obtain ⟨U,hU⟩:∃ U,U=u3.alloc (.cells #[.int .i64 b.today,.slice p.o b.off.length p.oc,.slice p.a b.az.length p.ac,.slice p.c b.cs.length p.cc,.slice p.l b.ls.length p.lc,.slice p.g b.log.length p.gc] 31):=⟨_,rfl⟩;rw [← hU] at HT ⊢;obtain ⟨T,hT⟩:∃ T,T=u3.heap.size:=⟨_,rfl⟩;rw [← hT] at HT ⊢;clear hU hT cb
 have HBT:Hid (Calls prog 96 #[C5 b p] U fun e w'=>e=.returned (.string ⟨(Aa6 b.log).toArray⟩)∧BW U w'):=Abm b p U HT.o.bk (Acb HI.o).1
 unfold C5 at HBT;obtain ⟨s,hs⟩:∃ s:ByteArray,⟨(Aa6 b.log).toArray⟩=s:=⟨_,rfl⟩
 have hsz:s.size≤200000:=by rw [← hs,Fo];exact (Acb HI.o).2
 rw [hs] at HBT;clear hs;obtain ⟨t0,t1,t2,t3,t4,t5,-,-,-,-,-,-⟩:=HT.o.z;go_wp2_with fail
 refine Calls.mono HBT.o ?_;rintro e u4 ⟨rfl,p4⟩;have q4:=HT.o.below p4;clear t0 t1 t2 t3 t4 t5 p4 HBT HT;go_wp2_with fail
 refine (Y7 _ 2 u4 q4.cu (by omega)).mono ?_
 rintro e u5 ⟨x,rfl,c5,g5⟩;have q5:=q4.call c5 g5;clear q4 c5 g5
 cases x
 ·have t1:=q5.z.c1
  have HQ:Hid (TX (w.heap.size+1) w.heap.size T w b p u5):=q5;clear q5;go_wp2
  go_quiet (fail)
  go_wp2
  go_returns
  exact Acn HI.o (by omega) (HQ.o.bk.below (below_drewN bR _)) (below_drewN HQ.o.be _)
 ·go_wp2_with fail
  refine (G4 _ _ u5 q5.cu (by omega)).mono ?_
  rintro e u6 ⟨y,rfl,y0,y1,c6,g6⟩;have q6:=q5.call c6 g6
  have y2:=y1 (by omega)
  obtain ⟨m,rfl⟩:=Int.eq_ofNat_of_zero_le y0
  have hm:m≤s.size:=by omega
  have t1:=q6.z.c1;have HQ:Hid (TX (w.heap.size+1) w.heap.size T w b p u6):=q6;clear q5 q6 c6 g6 y1 y0;go_wp2
  go_quiet (fail)
  go_wp2
  go_returns
  exact Acn HI.o (by simp [ByteArray.size_extract];omega) (HQ.o.bk.below (below_drewN bR _)) (below_drewN HQ.o.be _)
def Aa9:Bk→Be→Bk→Prop
 | b,[],b'=>b'=b
 | b,l::ls,b'=>∃ b1,Fg Fu b l (b1,0)∧Aa9 b1 ls b'
theorem Abo {l:List UInt8} {b1 b2:Bk} : ∀ {b:Bk} {ls:Be},Aa9 b ls b1→Fg Fu b1 l (b2,0)→Aa9 b (ls++[l]) b2
 | b,[],h,hd=>by
  rw [Aa9] at h;subst h
  exact ⟨b2,hd,by rw [Aa9]⟩
 | b,x::xs,h,hd=>by
  obtain ⟨b3,h3,h4⟩:=h;exact ⟨b3,h3,Abo h4 hd⟩
theorem Aby {c:Bk} : ∀ {b:Bk} {xs ys:Be},Aa9 b (xs++ys) c→∃ d,Aa9 b xs d∧Aa9 d ys c
 | b,[],ys,h=>⟨b,by rw [Aa9],h⟩
 | b,x::xs,ys,h=>by
  obtain ⟨b1,h1,h2⟩:=h;obtain ⟨d,h3,h4⟩:=Aby h2;exact ⟨d,⟨b1,h1,h3⟩,h4⟩
theorem Abr {F:Ff} {c:Bk} : ∀ {b:Bk} {xs ys:Be},Did F b (xs++ys) c→∃ d,Did F b xs d∧Did F d ys c
 | b,[],ys,h=>⟨b,by rw [Did],h⟩
 | b,x::xs,ys,h=>by
  obtain ⟨b1,h1,h2⟩:=h;obtain ⟨d,h3,h4⟩:=Abr h2;exact ⟨d,⟨b1,h1,h3⟩,h4⟩
theorem mS {ws:Be} {r r':Bk×Int} (h:Agr ws r r'):r.2=0 ↔ r'.2=0:=by
 rcases h.2 with e | ⟨e1,e2,_⟩
 ·rw [e]
 ·rw [e1,e2];decide
theorem Abh:∀ {b:Bk} {ls:Be} {b1 b2:Bk},Did F0 b ls b1→Aa9 b ls b2→b1=b2
 | b,[],b1,b2,h,h'=>by
  rw [Did] at h;rw [Aa9] at h';rw [h,h']
 | b,x::xs,b1,b2,h,h'=>by
  obtain ⟨c1,d1,e1⟩:=h;obtain ⟨c2,d2,e2⟩:=h'
  have:c1=c2:=(W4 d1 d2).1
  subst this;exact Abh e1 e2
def Abb (t:Int) (zs:List Int) (rs:Be) (b':Bk) (n:Int):Prop :=
 if Sx t zs=true then ∃ k:Nat,n=(k:Int)∧k≤rs.length∧Aa9 (zR t zs) (rs.take k) b'∧(k<rs.length→∃ r,Fg Fu b' (Al rs k) r∧r.2≠0) else b'=zR 0 []∧n = -1
theorem Abl (rs:Be) {k m:Nat} (h:k<m) (hm:m≤rs.length):∃ ys,rs.take m=rs.take k++Al rs k::ys:=by
 refine ⟨(rs.drop (k+1)).take (m - (k+1)),?_⟩
 have h1:rs.take m=rs.take (k+1)++(rs.drop (k+1)).take (m - (k+1)):=by
  rw [← List.take_add];congr 1;omega
 rw [h1,Abt rs k (by omega),List.append_assoc]
 rfl
theorem Acf {t:Int} {zs:List Int} {rs:Be} {b b':Bk} {n n':Int} (h:Aa7 t zs rs b n) (h':Abb t zs rs b' n'):b=b'∧n=n':=by
 unfold Aa7 at h;unfold Abb at h'
 split at h
 ·rename_i hok
  rw [if_pos hok] at h';obtain ⟨k,rfl,hk,d,st⟩:=h;obtain ⟨m,rfl,hm,d',st'⟩:=h'
  rcases Nat.lt_trichotomy k m with hlt | rfl | hlt
  ·obtain ⟨ys,hys⟩:=Abl rs hlt hm
   rw [hys] at d';obtain ⟨c,d1,b1,d2,-⟩:=Aby d';have hb:b=c:=Abh d d1;subst hb
   obtain ⟨r,hr,hr0⟩:=st (by omega)
   exact absurd ((mS (W4 hr d2)).2 rfl) hr0
  ·exact ⟨Abh d d',rfl⟩
  ·obtain ⟨ys,hys⟩:=Abl rs hlt hk
   rw [hys] at d;obtain ⟨c,d1,b1,d2,-⟩:=Abr d;have hb:c=b':=Abh d1 d';subst hb
   obtain ⟨r,hr,hr0⟩:=st' (by omega)
   exact absurd ((mS (W4 d2 hr)).1 rfl) hr0
 ·rename_i hok
  rw [if_neg hok] at h';exact ⟨h.1.trans h'.1.symm,h.2.trans h'.2.symm⟩
def SlR (t:Int) (zs:List Int) (rs:Be) (w:World) (e:Ending) (w':World):Prop :=
 ∃ (b':Bk) (n:Int) (q:Bp),e=.returned (.tuple #[C5 b' q,.int .i64 n])∧Abb t zs rs b' n∧Aq w' b' q∧BW w w'
def SlF (t:Int) (zs:List Int) (rs:Be) (w:World) (e:Ending) (w':World):Prop :=
 ∃ (b':Bk) (n:Int) (q:Bp),e=.returned (.tuple #[C5 b' q,.int .i64 n])∧Abb t zs rs b' n∧Aq w' b' q∧BW w w'∧FrB q w.heap.size
structure AS (R X:Nat) (b:Bk) (p:Bp) (w u:World):Prop where
 z:ZQ X b p u
 r:Z0 R u
 bk:Aq u b p
 oX:Wq p X
 oR:Wq p R
 hb:BW w u
 hR:w.heap.size=R
 hX:R<X
 fr:FrB p R
theorem AS.below {R X:Nat} {b:Bk} {p:Bp} {w u u':World} (h:AS R X b p w u) (hb:BW u u'):AS R X b p w u':=⟨h.z.below hb,h.r.below hb,h.bk.below hb,h.oX,h.oR,next h.hb hb,h.hR,h.hX,h.fr⟩
theorem Q4 {q:Bp} {n B:Nat} (h:FrB q n) (hB:B<n):Wq q B:=⟨Bb h.o hB,Bb h.a hB,Bb h.c hB,Bb h.l hB,Bb h.g hB⟩
theorem AS.put {R X n:Nat} {b b2:Bk} {p q:Bp} {w u:World} (h:AS R X b p w u) (hk:Aq u b2 q) (hf:FrB q n) (hn:X<n) :
  AS R X b2 q w ((((((u.setCell ⟨X,0,none⟩ (.int .i64 b2.today)).setCell ⟨X,1,none⟩ (.slice q.o b2.off.length q.oc)).setCell ⟨X,2,none⟩ (.slice q.a b2.az.length q.ac)).setCell ⟨X,3,none⟩ (.slice q.c b2.cs.length q.cc)).setCell ⟨X,4,none⟩ (.slice q.l b2.ls.length q.lc)).setCell ⟨X,5,none⟩ (.slice q.g b2.log.length q.gc)):=by
 have h1:=h.hX;have h2:=h.hR
 refine ⟨(((((h.z.set0 _).set1 _).set2 _).set3 _).set4 _).set5 _,h.r.far6 (by omega) _ _ _ _ _ _,hk.put6 (Q4 hf hn) _ _ _ _ _ _,Q4 hf hn,Q4 hf (by omega),?_,h.hR,h.hX,⟨Ey hf.o (by omega),Ey hf.a (by omega),Ey hf.c (by omega),Ey hf.l (by omega),Ey hf.g (by omega)⟩⟩
 exact (((((h.hb.setCell (p:=⟨X,0,none⟩) (by show _≤X;omega) _).setCell (p:=⟨X,1,none⟩) (by show _≤X;omega) _).setCell (p:=⟨X,2,none⟩) (by show _≤X;omega) _).setCell (p:=⟨X,3,none⟩) (by show _≤X;omega) _).setCell (p:=⟨X,4,none⟩) (by show _≤X;omega) _).setCell (p:=⟨X,5,none⟩) (by show _≤X;omega) _
theorem Acx {b:Bk} (h:JW b):sR b:=⟨(xW h).sm,(xW h).ref,(xW h).day⟩
theorem nZ {V u2:World} {t:TypeId} (bb:Below (V.alloc (.cells #[.int .i64 0,.slice none 0 0,.slice none 0 0,.slice none 0 0,.slice none 0 0,.slice none 0 0] t)).drew.heap.size (V.alloc (.cells #[.int .i64 0,.slice none 0 0,.slice none 0 0,.slice none 0 0,.slice none 0 0,.slice none 0 0] t)).drew u2) :
  Z6 V.heap.size (.int .i64 0) (.slice none 0 0) (.slice none 0 0) (.slice none 0 0) (.slice none 0 0) (.slice none 0 0) u2∧BW V u2 :=
 ⟨((Z6.new V _ _ _ _ _ _ t).below (bR.drew)).below bb,Below.trans (((Below.refl V.heap.size V).alloc nL _).drew) (bb.mono (by simp))⟩
theorem Acg (t:Int) (ao:Option Addr) (c:Nat) (zs:List Int) (lo:Option Addr) (lc:Nat) (rs:Be) (w:World) (hx:Aw w ao zs) (hn:zs.length≤1048576) (hz:Bh w lo rs) (hm:rs.length≤1048576) (hd:∀ r ∈ rs,r.length<1048576) :
  Calls prog 11 #[.int .i64 t,.slice ao zs.length c,.slice lo rs.length lc] w (SlF t zs rs w):=by
 obtain ⟨R,hR⟩:∃ R,w.heap.size=R:=⟨_,rfl⟩;obtain ⟨W,hW⟩:∃ W,W=w.alloc (.cells #[.int .i64 0,.slice none 0 0,.slice none 0 0,.slice none 0 0,.slice none 0 0,.slice none 0 0] 31):=⟨_,rfl⟩
 have HBW:Hid (BW w W):=by rw [Hid,hW];exact bR.alloc nL _
 have HZ0:Hid (Z0 R W):=by rw [Hid,hW,← hR];exact Z6.new w _ _ _ _ _ _ _
 have HST:Hid (Calls prog 45 #[.int .i64 t,.slice ao zs.length c] W (BsR W t zs)):=vR t ao c zs W (hx.below HBW.o) hn;have HTX:Hid (Bh w lo rs):=hz;have HD:Hid (∀ r ∈ rs,r.length<1048576):=hd;have HRR:Hid _:=hR;have HWW:Hid _:=hW;clear hx hz hd hR hW
 go_enter func11,ntmps11
 go_wp2_with fail
 rw [← HWW.o];refine Calls.mono HST.o ?_;rintro e w1 ⟨a,k,rfl,o1,p1⟩;rw [HRR.o];have HB1:Hid (BW w w1):=next HBW.o p1;have HZ1:Hid (Z0 R w1):=HZ0.o.below p1;have HSW:Hid (R<W.heap.size):=HZ0.o.lt;have HS1:Hid (W.heap.size≤w1.heap.size):=p1.size;clear p1 HST HWW HZ0
 cases hok:Sx t zs
 ·have e1:bsT t zs=0:=if_neg (by rw [hok];decide)
  have e2:bsL t zs=[]:=if_neg (by rw [hok];decide)
  rw [e1,e2]
  simp only [List.length_nil]
  unfold bk0;obtain ⟨U,hU⟩:∃ U,U=w1.alloc (.cells #[.int .i64 0,.slice a 0 k,.slice none 0 0,.slice none 0 0,.slice none 0 0,.slice none 0 0] 31):=⟨_,rfl⟩
  have HBU:Hid (BW w U):=by rw [Hid,hU];exact HB1.o.alloc HB1.o.size _
  have HZU:Hid (Z0 R U):=by rw [Hid,hU];exact HZ1.o.below (bR.alloc nL _)
  have HQ:Hid (Abb t zs rs (zR 0 []) (-1)):=by rw [Hid,Abb,if_neg (by rw [hok];decide)];exact ⟨rfl,rfl⟩
  have HU:Hid _:=hU;clear hU e1 e2 hok o1;go_upto_region 2 with fail
  rw [← HU.o];obtain ⟨t0,t1,t2,t3,t4,t5,s0,s1,s2,s3,s4,s5⟩:=HZU.o;go_wp2
  refine bodyPost_ret (by simp [results,results11,go_sem,t0,t1,t2,t3,t4,t5];try rfl) rfl ?_
  have bel:=Ax (R:=R) (by rw [HRR.o];exact nL) HBU.o
  exact ⟨zR 0 [],-1,⟨none,0,none,0,none,0,none,0,none,0⟩,rfl,HQ.o,⟨.inl rfl,.inl rfl,.inl rfl,.inl rfl,.inl rfl⟩,bel _ _ _ _ _ _,⟨(fun x hx=>nomatch hx),(fun x hx=>nomatch hx),(fun x hx=>nomatch hx),(fun x hx=>nomatch hx),(fun x hx=>nomatch hx)⟩⟩
 ·have e1:bsT t zs=t:=if_pos hok
  have e2:bsL t zs=zs:=if_pos hok;rw [e1,e2];rw [e2] at o1;unfold bk0;obtain ⟨U,hU⟩:∃ U,U=w1.alloc (.cells #[.int .i64 t,.slice a zs.length k,.slice none 0 0,.slice none 0 0,.slice none 0 0,.slice none 0 0] 31):=⟨_,rfl⟩;obtain ⟨X,hX⟩:∃ X,w1.heap.size=X:=⟨_,rfl⟩
  have HAS:Hid (AS R X (zR t zs) ⟨a,k,none,0,none,0,none,0,none,0⟩ w U):=by
   have bA:BW w1 U:=by rw [hU];exact bR.alloc nL _
   have hna:∀ B',Im none B':=fun B' x hx=>nomatch hx
   have hfr:=Cw o1
   have hlt:Im a X:=fun x hx e=>by
    have:=G8 o1 nL x hx
    omega
   refine ⟨by rw [hU,← hX];exact Z6.new w1 _ _ _ _ _ _ _,HZ1.o.below bA,⟨Hq (Av o1 bA),.inl rfl,.inl rfl,.inl rfl,.inl rfl⟩,⟨hlt,hna _,hna _,hna _,hna _⟩,⟨Bb hfr HSW.o,hna _,hna _,hna _,hna _⟩,next HB1.o bA,HRR.o,?_,⟨Ey hfr (Nat.le_of_lt HSW.o),(fun x hx=>nomatch hx),(fun x hx=>nomatch hx),(fun x hx=>nomatch hx),(fun x hx=>nomatch hx)⟩⟩
   have:=HSW.o
   have:=HS1.o
   omega
  have HJ:Hid (JW (zR t zs)):=Abk hok
  have HD0:Hid (Aa9 (zR t zs) (rs.take 0) (zR t zs)):=by rw [Hid,List.take_zero,Aa9]
  have HQ:Hid (∀ (m:Nat) (b':Bk),m≤rs.length→Aa9 (zR t zs) (rs.take m) b'→(m<rs.length→∃ r,Fg Fu b' (Al rs m) r∧r.2≠0)→Abb t zs rs b' (m:Int)):=fun m b' h1 h2 h3=>by rw [Abb,if_pos hok];exact ⟨m,rfl,h1,h2,h3⟩
  have HU:Hid _:=hU;have HXX:Hid _:=hX;clear hU hX e1 e2 hok o1;go_upto_region 2 with fail
  rw [← HU.o,HXX.o];clear HU HXX HZ1 HB1 HSW HS1 HBW;go_wp2
  go_loopw [10] (fun i wr=>∃ (j:Nat) (b:Bk) (p:Bp),j≤rs.length∧i=.int .i64 (j:Int)∧Aa9 (zR t zs) (rs.take j) b∧JW b∧AS R X b p w wr) (fun i _=>rs.length - (intOf i).toNat)
  case atStart=>exact ⟨0,_,_,Nat.zero_le _,rfl,HD0.o,HJ.o,HAS.o⟩
  case round =>
   obtain ⟨j,b,p,hj,rfl,hdid,hjw,has⟩:=hrel;have HAA:Hid (AS R X b p w wr):=has;have HDD:Hid (Aa9 (zR t zs) (rs.take j) b):=hdid;have HJJ:Hid (JW b):=hjw;clear has hdid hjw HAS HJ HD0
   by_cases hlt:j<rs.length
   ·have hji:(j:Int)<(rs.length:Int):=by omega
    obtain ⟨gb,off,rfl,hgb,hcell⟩:∃ gb off,lo=some ⟨gb,off,none⟩∧gb<wr.heap.size∧wr.cell? ⟨gb,off+j,none⟩=some (.string ⟨(Al rs j).toArray⟩):=by
     rcases HTX.o.below HAA.o.hb with h | ⟨gb,off,h1,h2,h3⟩
     ·rw [h] at hlt;simp at hlt
     ·exact ⟨gb,off,h1,h2,h3 j hlt⟩
    have HDC:Hid (∀ u,Aq u b p→Calls prog 31 #[.agg #[.int .i64 b.today,.slice p.o b.off.length p.oc,.slice p.a b.az.length p.ac,.slice p.c b.cs.length p.cc,.slice p.l b.ls.length p.lc,.slice p.g b.log.length p.gc],.string ⟨(Al rs j).toArray⟩] u (BoF Fu b (Al rs j) u)):=fun u h=>T5 lO b p (Al rs j) u h (Acx HJJ.o) (by have:=HD.o _ (F7 hlt);omega)
    have HNX:Hid (∀ b2,Fg Fu b (Al rs j) (b2,0)→JW b2∧Aa9 (zR t zs) (rs.take (j+1)) b2):=fun b2 h=>⟨zW HJJ.o (by have:=HD.o _ (F7 hlt);omega) h,by rw [Abt rs j hlt];exact Abo HDD.o h⟩
    have HRE:Hid (∀ r,Fg Fu b (Al rs j) r→r.2≠0→Abb t zs rs b (j:Int)):=fun r h hc=>HQ.o j b hj HDD.o (fun _=>⟨r,h,hc⟩)
    obtain ⟨ln,hln⟩:∃ x,Al rs j=x:=⟨_,rfl⟩;rw [hln] at hcell HDC HNX HRE;clear hln
    have HSS:Hid (∀ u,BW wr u→u.cell? ⟨X,0,none⟩=some (.int .i64 b.today)∧u.cell? ⟨X,1,none⟩=some (.slice p.o b.off.length p.oc)∧u.cell? ⟨X,2,none⟩=some (.slice p.a b.az.length p.ac)∧u.cell? ⟨X,3,none⟩=some (.slice p.c b.cs.length p.cc)∧u.cell? ⟨X,4,none⟩=some (.slice p.l b.ls.length p.lc)∧u.cell? ⟨X,5,none⟩=some (.slice p.g b.log.length p.gc)∧u.cell? ⟨gb,off+j,none⟩=some (.string ⟨ln.toArray⟩)):=fun u h=>by
     have z:=HAA.o.z.below h;exact ⟨z.c0,z.c1,z.c2,z.c3,z.c4,z.c5,(h.cell (p:=⟨gb,off+j,none⟩) hgb).trans hcell⟩
    have k0:BW wr wr:=bR;have HP1:Hid (Aq wr.drew b p):=HAA.o.bk.below (bR.drew);have HP2:Hid (Aq (wr.alloc (.cells #[.int .i64 0,.slice none 0 0,.slice none 0 0,.slice none 0 0,.slice none 0 0,.slice none 0 0] 31)).drew b p):=HAA.o.bk.below (((Below.refl wr.heap.size wr).alloc nL _).drew);clear hcell;go_upto_region 7 with fail
    go_cut [11,12] (fun v11 v12 wc=>∃ (Y:Nat) (b2:Bk) (q2:Bp) (code:Int),v11=.pointer (some ⟨Y,0,none⟩)∧v12=.int .i64 code∧Fg Fu b ln (b2,code)∧ZQ Y b2 q2 wc∧Aq wc b2 q2∧FrB q2 wr.heap.size∧BW wr wc)
    case first =>
     go_region_held3 (fun u=>u.cell? ⟨X,0,none⟩=some (.int .i64 b.today)∧u.cell? ⟨X,1,none⟩=some (.slice p.o b.off.length p.oc)∧u.cell? ⟨X,2,none⟩=some (.slice p.a b.az.length p.ac)∧u.cell? ⟨X,3,none⟩=some (.slice p.c b.cs.length p.cc)∧u.cell? ⟨X,4,none⟩=some (.slice p.l b.ls.length p.lc)∧u.cell? ⟨X,5,none⟩=some (.slice p.g b.log.length p.gc)∧u.cell? ⟨gb,off+j,none⟩=some (.string ⟨ln.toArray⟩)) (first | with_reducible exact HSS.o _ hb2 | with_reducible exact HSS.o _ k0 | with_reducible exact HSS.o _ k0.drew | with_reducible exact HSS.o _ (k0.alloc nL _) | with_reducible exact HSS.o _ ((k0.alloc nL _).drew) | with_reducible exact HSS.o _ (hb2.alloc hb2.size _) | with_reducible exact HSS.o _ (Ax nL hb2 _ _ _ _ _ _)) ((first
      | (go_at_call 31;(with_reducible refine Calls.mono (HDC.o wr.drew HP1.o) ?_);rintro e u2 ⟨⟨b2,code⟩,q2,hrel,rfl,hbk,bb,hfr⟩;have hb2:BW wr u2:=Below.trans ((Below.refl wr.heap.size wr).drew) bb;unfold C5;simp only)
      | (go_at_call 31;(with_reducible refine Calls.mono (HDC.o (wr.alloc (.cells #[.int .i64 0,.slice none 0 0,.slice none 0 0,.slice none 0 0,.slice none 0 0,.slice none 0 0] 31)).drew HP2.o) ?_);rintro e u2 ⟨⟨b2,code⟩,q2,hrel,rfl,hbk,bb,hfr⟩;obtain ⟨hzy,hb2⟩:=nZ bb;have HZY:Hid _:=hzy;obtain ⟨g0,g1,g2,g3,g4,g5,m0,m1,m2,m3,m4,m5⟩:=hzy;unfold C5;simp only)))
     ·go_wp2_with fail
      go_meet;have h1:=hb2.alloc hb2.size (.cells #[.int .i64 b2.today,.slice q2.o b2.off.length q2.oc,.slice q2.a b2.az.length q2.ac,.slice q2.c b2.cs.length q2.cc,.slice q2.l b2.ls.length q2.lc,.slice q2.g b2.log.length q2.gc] 31);exact ⟨u2.heap.size,b2,q2,code,rfl,rfl,hrel,Z6.new u2 _ _ _ _ _ _ _,hbk.below (bR.alloc nL _),⟨hfr.o,hfr.a,hfr.c,hfr.l,hfr.g⟩,h1⟩
     ·go_wp2_with fail
      go_meet
      have hf2:FrB q2 (wr.heap.size+1):=by simpa using hfr
      exact ⟨wr.heap.size,b2,q2,code,rfl,rfl,hrel,(((((HZY.o.set0 _).set1 _).set2 _).set3 _).set4 _).set5 _,hbk.put6 (Q4 hf2 (Nat.lt_succ_self _)) _ _ _ _ _ _,⟨Ey hf2.o (Nat.le_succ _),Ey hf2.a (Nat.le_succ _),Ey hf2.c (Nat.le_succ _),Ey hf2.l (Nat.le_succ _),Ey hf2.g (Nat.le_succ _)⟩,Ax nL hb2 _ _ _ _ _ _⟩
    case rest =>
     obtain ⟨V,hV⟩:∃ x,x=wc:=⟨_,rfl⟩;subst hV;obtain ⟨Y,b2,q2,code,rfl,rfl,hrel,hzy,hbk,hfr,hbV⟩:=hcut;have HAV:Hid (AS R X b p w V):=HAA.o.below hbV;have HXL:Hid (X<wr.heap.size):=HAA.o.z.lt;obtain ⟨x0,x1,x2,x3,x4,x5,y0,y1,y2,y3,y4,y5⟩:=HAV.o.z;clear hbV HDC HSS HP1 HP2 k0
     by_cases hc:code=0
     ·subst hc
      obtain ⟨j2,d2⟩:=HNX.o b2 hrel;have HJ2:Hid (JW b2):=j2;have HD2:Hid (Aa9 (zR t zs) (rs.take (j+1)) b2):=d2;have HA2:Hid _:=HAV.o.put hbk hfr HXL.o;obtain ⟨n0,n1,n2,n3,n4,n5,-,-,-,-,-,-⟩:=hzy;clear j2 d2 hrel hbk hfr;go_wp2
      go_roundw
      case rel=>exact ⟨j+1,b2,q2,by omega,by go_num,HD2.o,HJ2.o,HA2.o⟩
      case measure=>simp [intOf];omega
     ·have hne:(code != 0)=true:=by simpa using hc
      have HF:Hid (Abb t zs rs b (j:Int)):=HRE.o _ hrel hc;obtain ⟨r0,r1,r2,r3,r4,r5,s0,s1,s2,s3,s4,s5⟩:=HAV.o.r;clear hrel hc hzy hbk hfr;go_wp2
      refine bodyPost_ret (by simp [results,results11,go_sem,r0,r1,r2,r3,r4,r5];try rfl) rfl ?_
      exact ⟨b,_,p,rfl,HF.o,HAV.o.bk.put6 HAV.o.oR _ _ _ _ _ _,Ax (by rw [HAV.o.hR];exact nL) HAV.o.hb _ _ _ _ _ _,by rw [HAV.o.hR];exact HAV.o.fr⟩
   ·have hje:j=rs.length:=by omega
    subst hje
    have hji:¬ (rs.length:Int)<(rs.length:Int):=by omega
    have HF:Hid (Abb t zs rs b (rs.length:Int)):=HQ.o _ b nL HDD.o (fun h=>absurd h (Nat.lt_irrefl _))
    obtain ⟨x0,x1,x2,x3,x4,x5,-,-,-,-,-,-⟩:=HAA.o.z;obtain ⟨r0,r1,r2,r3,r4,r5,s0,s1,s2,s3,s4,s5⟩:=HAA.o.r;go_wp2
    refine bodyPost_ret (by simp [results,results11,go_sem,r0,r1,r2,r3,r4,r5];try rfl) rfl ?_
    exact ⟨b,_,p,rfl,HF.o,HAA.o.bk.put6 HAA.o.oR _ _ _ _ _ _,Ax (by rw [HAA.o.hR];exact nL) HAA.o.hb _ _ _ _ _ _,by rw [HAA.o.hR];exact HAA.o.fr⟩
theorem Abp {b b1:Bk} {l:List UInt8} {r:Bk×Int} (h:D9 F0 b l (b1,0)) (h':D9 F0 b l r):r=(b1,0):=by
 obtain ⟨s,hs⟩:=iM b l h;have a1:=W4 h hs;have a2:=W4 h' hs;have hc:r.2=0:=(mS a2).2 ((mS a1).1 rfl);have hb:r.1=b1:=a2.1.trans a1.1.symm;obtain ⟨x,y⟩:=r
 simp only at hc hb
 rw [hc,hb]
theorem Acq {ls:Be} : ∀ {b b1 b2:Bk},Did F0 b ls b1→Did F0 b ls b2→b1=b2:=by
 induction ls with
 | nil=>intro b b1 b2 h h';rw [Did] at h h';rw [h,h']
 | cons l ls ih =>
  intro b b1 b2 h h';obtain ⟨c,hc,h⟩:=h;obtain ⟨c',hc',h'⟩:=h';have e:=Abp hc hc'
  injection e with e1 _
  subst e1;exact ih h h'
theorem Abs {ls:Be} : ∀ {b b1:Bk},Did F0 b ls b1→b1.log=b.log++ls:=by
 induction ls with
 | nil=>intro b b1 h;rw [Did] at h;rw [h,List.append_nil]
 | cons l ls ih =>
  intro b b1 h;obtain ⟨c,hc,h⟩:=h
  have e:c.log=b.log++[l]:=by
   unfold D9 at hc
   split at hc
   ·injection hc with _ e;exact absurd e (by decide)
   ·obtain ⟨r0,h0,e⟩:=hc
    split at e
    ·injection e with e _
     rw [e]
     show r0.1.log++[l]=_
     rw [Sw h0]
    ·rename_i hn
     rw [← e] at hn;exact absurd rfl hn
  rw [ih h,e,List.append_assoc]
  rfl
theorem Acw {t:Int} {zs:List Int} {rs:Be} {b part:Bk} {n n':Int} {k:Nat} (hok:Sx t zs=true) (h:Aa7 t zs rs b n) (hk:k≤b.log.length) (h':Aa7 t zs (b.log.take k) part n') :
  n'=(k:Int)∧part.log=b.log.take k∧Did F0 part (b.log.drop k) b:=by
 unfold Aa7 at h h';rw [if_pos hok] at h h';obtain ⟨j,rfl,hj,d,-⟩:=h;obtain ⟨i,rfl,hi,d',st⟩:=h'
 have hl:b.log=rs.take j:=by rw [Abs d];rfl
 rw [← hl] at d
 have hkl:(b.log.take k).length=k:=by rw [List.length_take];omega
 rw [hkl] at hi st
 have ht:(b.log.take k).take i=b.log.take i:=by rw [List.take_take];congr 1;omega
 rw [ht] at d';have e1:b.log=b.log.take i++b.log.drop i:=(List.take_append_drop i _).symm;rw [e1] at d;obtain ⟨m,d1,d2⟩:=Abr d;have e2:=Acq d1 d';subst e2
 have hik:i=k:=by
  rcases Nat.lt_or_ge i k with hlt | hge
  ·exfalso
   obtain ⟨r,hr,hr0⟩:=st hlt
   have hn:Al (b.log.take k) i=Al b.log i:=by simp [Al,List.getD_eq_getElem?_getD,hlt]
   rw [hn] at hr
   have hd:b.log.drop i=Al b.log i::b.log.drop (i+1):=by
    rw [List.drop_eq_getElem_cons (by omega)]
    congr 1
    simp [Al,List.getD_eq_getElem?_getD,List.getElem?_eq_getElem (show i<b.log.length by omega)]
   rw [hd] at d2;obtain ⟨c,hc,-⟩:=d2
   have:=Abp hc hr
   rw [this] at hr0;exact hr0 rfl
  ·omega
 subst hik
 exact ⟨rfl,by rw [Abs d1];rfl,d2⟩
theorem Acv {t:Int} {zs:List Int} {rs:Be} {b:Bk} {n:Int} (hok:Sx t zs=true) (h:Aa7 t zs rs b n):∀ r ∈ b.log,r ∈ rs:=by
 unfold Aa7 at h;rw [if_pos hok] at h;obtain ⟨j,rfl,hj,d,-⟩:=h
 have hl:b.log=rs.take j:=by rw [Abs d];rfl
 intro r hr;rw [hl] at hr;exact List.mem_of_mem_take hr
theorem Ack {m b:Bk} {lg:Be} {i:Nat} (hi:i<lg.length) (h:Did F0 m (lg.drop i) b) {r:Bk×Int} (hr:D9 F0 m (Al lg i) r):r.2=0∧Did F0 r.1 (lg.drop (i+1)) b:=by
 have hd:lg.drop i=Al lg i::lg.drop (i+1):=by
  rw [List.drop_eq_getElem_cons (by omega)]
  congr 1
  simp [Al,List.getD_eq_getElem?_getD,List.getElem?_eq_getElem hi]
 rw [hd] at h;obtain ⟨c,hc,h⟩:=h;have e:=Abp hc hr;rw [e];exact ⟨rfl,h⟩
theorem Ab3 {w:World} {ao:Option Addr} {rs:Be} {y:List UInt8} (h:Bh w ao (rs++[y])):(∃ g off,ao=some ⟨g,off,none⟩)∧Bh w ao rs:=by
 rcases h with h | ⟨g,off,h1,h2,h3⟩
 ·simp at h
 ·refine ⟨⟨g,off,h1⟩,.inr ⟨g,off,h1,h2,fun i hi=>?_⟩⟩
  have e:=h3 i (by simp;omega)
  rw [show Al (rs++[y]) i=Al rs i from by simp only [Al,List.getD_eq_getElem?_getD,List.getElem?_append_left hi]] at e
  exact e
theorem Abx {g off n:Nat} (W:World):(Instr.slice 23 (.slice (some ⟨g,off,none⟩) (n+1) (n+1)) none (some (.int .i64 n)) none).run prog W=.ok (.slice (some ⟨g,off,none⟩) n (n+1)) W:=by
 rw [run_slice_h W _ _ _ _ cU .i64 _ (by omega) (by omega),aG,kX]
 simp [Result.andThen,sliced,Addr.add]
theorem Acm (l:List UInt8):(Aa8 l).length=(K2 l).length+1:=by simp [Aa8,K2]
theorem Aci (t:Int) (ao:Option Addr) (c:Nat) (zs:List Int) (l:List UInt8) (w:World) (hx:Aw w ao zs) (hn:zs.length≤1048576) (hl:l.length≤1048576) (hE:E0 w) :
  Calls prog 23 #[.int .i64 t,.slice ao zs.length c,.string ⟨l.toArray⟩] w (AlR t zs (K2 l) w):=by
 obtain ⟨R,hR⟩:∃ R,w.heap.size=R:=⟨_,rfl⟩;obtain ⟨W,hW⟩:∃ W,W=w.alloc (.cells #[.int .i64 0,.slice none 0 0,.slice none 0 0,.slice none 0 0,.slice none 0 0,.slice none 0 0] 31):=⟨_,rfl⟩
 have HBW:Hid (BW w W):=by rw [Hid,hW];exact bR.alloc nL _
 have HZ0:Hid (Z0 R W):=by rw [Hid,hW,← hR];exact Z6.new w _ _ _ _ _ _ _
 have HRW:Hid (R<W.heap.size):=HZ0.o.lt;have HEW:Hid (E0 W):=dK _ _ hE (HBW.o.mono hE.size)
 have HSP:Hid (Calls prog 66 #[.string ⟨l.toArray⟩,.string ⟨#[10]⟩] W fun e w'=>∃ a,e=.returned (.slice a (Aa8 l).length (Aa8 l).length)∧Bh w' a (Aa8 l)∧BW W w'):=by
  obtain ⟨m,hm⟩:=HEW.o.max;exact Acs l m W hl hm
 have HSH:Hid (∀ r ∈ K2 l,r.length<1048576):=fun r hr=>by have:=Aba l r hr;omega
 have HLN:Hid ((K2 l).length≤1048576):=by have:=Abj l;rw [Hid];omega
 have HX:Hid (Aw w ao zs):=hx;have HAN:Hid (Aa8 l=K2 l++[Ac0 l]):=rfl;have HAL:Hid ((Aa8 l).length=(K2 l).length+1):=Acm l;have HRR:Hid _:=hR;have HWW:Hid _:=hW;clear hx hE hR hW hl
 go_enter func23,ntmps23
 go_wp2_with fail
 rw [← HWW.o,HRR.o];refine Calls.mono HSP.o ?_;rintro e w1 ⟨a,rfl,hz1,p1⟩;rw [HAN.o] at hz1;rw [HAL.o];obtain ⟨⟨g,off,rfl⟩,hz⟩:=Ab3 hz1;have HB1:Hid (BW w w1):=next HBW.o p1;have HZ1:Hid (Z0 R w1):=HZ0.o.below p1;have HE1:Hid (E0 w1):=dK _ _ HEW.o (p1.mono HEW.o.size);have HRL:Hid (R<w1.heap.size):=HZ1.o.lt;have HAL1:Hid (Calls prog 14 #[.int .i64 t,.slice ao zs.length c,.slice (some ⟨g,off,none⟩) (K2 l).length ((K2 l).length+1)] w1 (AlR t zs (K2 l) w1)):=Ab0 t ao c zs _ _ (K2 l) w1 (HX.o.below HB1.o) hn hz HLN.o HSH.o HE1.o;obtain ⟨n,hnn⟩:∃ n,(K2 l).length=n:=⟨_,rfl⟩;have hsl:=Abx (g:=g) (off:=off) (n:=n)
 have hle:n≤1048576:=by rw [← hnn];exact HLN.o
 rw [hnn] at HAL1 ⊢;clear hz hz1 p1 HSP HZ0 hnn;go_wp2_with fail
 refine Calls.mono HAL1.o ?_;rintro e w2 ⟨b',m,q,rfl,ha,hj,o2,p2⟩;unfold C5;have HO:Hid (Gc w1.heap.size b' q w2):=o2;have HB2:Hid (BW w w2):=next HB1.o p2;have HZ2:Hid (Z0 R w2):=HZ1.o.below p2;have HA:Hid (Aa7 t zs (K2 l) b' m):=ha;have HJ:Hid (JW b'):=hj;clear o2 p2 ha hj HAL1;obtain ⟨t0,t1,t2,t3,t4,t5,s0,s1,s2,s3,s4,s5⟩:=HZ2.o;go_wp2
 refine bodyPost_ret (by simp [results,results23,go_sem,t0,t1,t2,t3,t4,t5];try rfl) rfl ?_
 have bel:=Ax (R:=R) (by rw [HRR.o];exact nL) HB2.o
 exact ⟨b',m,q,rfl,HA.o,HJ.o,(Gc.mk (Ea HO.o.off HRL.o _ _ _ _ _ _) (Ea HO.o.az HRL.o _ _ _ _ _ _) (Ea HO.o.cs HRL.o _ _ _ _ _ _) (Ea HO.o.ls HRL.o _ _ _ _ _ _) (Ea HO.o.log HRL.o _ _ _ _ _ _)).low HB1.o.size,bel _ _ _ _ _ _⟩
theorem Ach (t:Int) (ao:Option Addr) (c:Nat) (zs:List Int) (l:List UInt8) (w:World) (hx:Aw w ao zs) (hn:zs.length≤1048576) (hl:l.length≤1048576) :
  Calls prog 22 #[.int .i64 t,.slice ao zs.length c,.string ⟨l.toArray⟩] w (SlR t zs (K2 l) w):=by
 obtain ⟨R,hR⟩:∃ R,w.heap.size=R:=⟨_,rfl⟩;obtain ⟨W,hW⟩:∃ W,W=w.alloc (.cells #[.int .i64 0,.slice none 0 0,.slice none 0 0,.slice none 0 0,.slice none 0 0,.slice none 0 0] 31):=⟨_,rfl⟩
 have HBW:Hid (BW w W):=by rw [Hid,hW];exact bR.alloc nL _
 have HZ0:Hid (Z0 R W):=by rw [Hid,hW,← hR];exact Z6.new w _ _ _ _ _ _ _
 have HRW:Hid (R<W.heap.size):=HZ0.o.lt;have HSP:=Ab8 l W hl
 have HSH:Hid (∀ r ∈ K2 l,r.length<1048576):=fun r hr=>by have:=Aba l r hr;omega
 have HLN:Hid ((K2 l).length≤1048576):=by have:=Abj l;rw [Hid];omega
 have HX:Hid (Aw w ao zs):=hx;have HSP2:Hid _:=HSP;have HRR:Hid _:=hR;have HWW:Hid _:=hW;clear hx hR hW hl HSP
 go_enter func22,ntmps22
 go_wp2_with fail
 rw [← HWW.o,HRR.o];refine Calls.mono HSP2.o ?_;rintro e w1 ⟨a,k,rfl,o1,p1⟩;have HB1:Hid (BW w w1):=next HBW.o p1;have HZ1:Hid (Z0 R w1):=HZ0.o.below p1;have HRL:Hid (R<w1.heap.size):=HZ1.o.lt;have HAL1:Hid (Calls prog 11 #[.int .i64 t,.slice ao zs.length c,.slice a (K2 l).length k] w1 (SlF t zs (K2 l) w1)):=Acg t ao c zs _ _ (K2 l) w1 (HX.o.below HB1.o) hn (Ep o1) HLN.o HSH.o;obtain ⟨n,hnn⟩:∃ n,(K2 l).length=n:=⟨_,rfl⟩;rw [hnn] at HAL1 ⊢;clear o1 p1 HSP2 HZ0 hnn;go_wp2_with fail
 refine Calls.mono HAL1.o ?_;rintro e w2 ⟨b',m,q,rfl,ha,hk,p2,hf⟩;unfold C5;have HO:Hid (Aq w2 b' q):=hk;have HB2:Hid (BW w w2):=next HB1.o p2;have HZ2:Hid (Z0 R w2):=HZ1.o.below p2;have HA:Hid (Abb t zs (K2 l) b' m):=ha;have HF:Hid (FrB q w1.heap.size):=hf;clear hk p2 ha hf HAL1;obtain ⟨t0,t1,t2,t3,t4,t5,s0,s1,s2,s3,s4,s5⟩:=HZ2.o;go_wp2
 refine bodyPost_ret (by simp [results,results22,go_sem,t0,t1,t2,t3,t4,t5];try rfl) rfl ?_
 have bel:=Ax (R:=R) (by rw [HRR.o];exact nL) HB2.o
 exact ⟨b',m,q,rfl,HA.o,HO.o.put6 (Q4 HF.o HRL.o) _ _ _ _ _ _,bel _ _ _ _ _ _⟩
theorem Zo {H:Type} {enc:TypeId×Value→H} {P:Program} {w:World} {base:Nat} {sp:Nat→Bool} {held:Bool} {fuel:Nat} {t e:TypeId} {n:Nat} {cs:List Value} {zs:List (List UInt8)} {p:List MemPlace}
  (ht:P.underlying t=some (.array n e)) (he:P.underlying e=some .string) (hce:P.cellsOf e=1) (hct:P.cellsOf t=n)
  (h:DataW.trod enc P w base sp held fuel t cs=some (DataW.agg (zs.map fun z=>.lit (.string z)),p)):cs=zs.map fun z=>Value.string ⟨z.toArray⟩:=by
 cases fuel with
 | zero=>simp [DataW.trod] at h
 | succ fuel =>
  simp only [DataW.trod,ht,hce,hct,Nat.mul_one] at h
  split at h
  ·rename_i hl
   obtain ⟨xs,hm,hx⟩:=Option.map_eq_some_iff.1 h
   have hxs:xs.map (·.1)=zs.map fun z=>(DataW.lit (.string z):DataW H):=by
    have:=congrArg Prod.fst hx
    simpa using this
   have hxl:xs.length=n:=by simpa using Lib.mapM_length hm
   have hzl:zs.length=n:=by
    have:=congrArg List.length hxs
    simp at this
    omega
   apply List.ext_getElem?;intro i
   by_cases hi:i<n
   ·obtain ⟨b,hb,hf⟩:=Lib.mapM_at hm i i (by simp [hi])
    obtain ⟨z,hc,rfl,_⟩:=DataW.trod_string he hf
    have h1:cs[i]?=some (.string z):=by
     have:=congrArg (·[0]?) hc
     simpa [List.getElem?_take,List.getElem?_drop] using this
    have h2:(xs.map (·.1))[i]?=some (DataW.lit (.string z.data.toList):DataW H):=by simp [hb]
    rw [hxs] at h2
    simp only [List.getElem?_map,Option.map_eq_some_iff,DataW.lit.injEq,Lit.string.injEq] at h2
    obtain ⟨z',hz',e⟩:=h2;subst e
    simp [h1,hz']
   ·rw [List.getElem?_eq_none (by omega),List.getElem?_eq_none (by simp;omega)]
  ·cases h
theorem rO:(Rows.laid_loop_example_g00126_impl_actWords:DataW Unit)=DataW.agg (Dm.map fun z=>.lit (.string z)):=by kernel_rfl
theorem kE : prog.globalNamed "loop.example/g00126/impl.actWords" = some 0 := by kernel_rfl
theorem rM:(prog.globals[0]?).map (·.type)=some 156:=by kernel_rfl
theorem gI {rest : List (String × DataW Unit)} {w : World} (h : laidMet prog (("loop.example/g00126/impl.actWords", Rows.laid_loop_example_g00126_impl_actWords) :: rest) w) : ∀ k, k < 10 → w.cell? ⟨0, k, none⟩ = some (.string ⟨(Al Dm k).toArray⟩) := by
 rw [rO] at h;obtain ⟨ps,⟨g',t',cs,fuel,p,q,hg',ht',hvar,hd,_,_⟩,_⟩:=h;obtain rfl:=Option.some.inj (kE.symm.trans hg');obtain rfl:=Option.some.inj (rM.symm.trans ht')
 have hc:=Zo underlying156 underlying9 (by kernel_rfl) (by kernel_rfl) hd
 obtain ⟨l⟩:=cs
 simp only at hc
 subst hc;intro k hk;rw [World.var?_cell kE hvar k]
 have:k=0∨k=1∨k=2∨k=3∨k=4∨k=5∨k=6∨k=7∨k=8∨k=9:=by omega
 rcases this with rfl | rfl | rfl | rfl | rfl | rfl | rfl | rfl | rfl | rfl <;> rfl
theorem pO : "*" ++ "errors.errorString" = "*errors.errorString" := by decide
theorem bD (u : TypeId) (h : prog.typeName? 3 u = some "*errors.errorString") : u = 372 :=
 typeName_ptr_named (nm := "errors.errorString") (by rw [pO]; kernel_rfl) (by kernel_rfl) (by decide) u (by rw [pO]; exact h)
theorem Se:prog.cellsOf 390=1:=by kernel_rfl
theorem Tn:prog.cellsOf 9=1:=by kernel_rfl
theorem Hz {n : String} {text : List UInt8} {r : List (String × DataW Unit)} {W : World} {g : Nat} (h : laidMet prog ((n, .iface "*errors.errorString" (.ptr (.agg [.lit (.string text)]))) :: r) W) (hg : prog.globalNamed n = some g) (ht : (prog.globals[g]?).map (·.type) = some 104) :
  ∃ t a,W.cell? ⟨g,0,none⟩=some (.iface t (.pointer (some a))):=by
 obtain ⟨a,_,hr,_⟩:=laid_sentinel h hg ht underlying104 bD underlying372 underlying390 rfl rfl underlying9 Se Tn
 exact ⟨_,a,by rw [World.var?_cell hg hr 0];rfl⟩
theorem sK:(Rows.laid_internal_strconv_uint64pow10:DataW Unit)=Lib.tabData .u64 Lib.pow10Tab:=by kernel_rfl
theorem iX {w : World} {r : List (String × DataW Unit)} (h1 : laidMet prog (("internal/strconv.uint64pow10", Rows.laid_internal_strconv_uint64pow10) :: r) w) : Lib.TabIs prog w "internal/strconv.uint64pow10" .u64 Lib.pow10Tab := by
 rw [sK] at h1
 exact Lib.tabIs_of_head (g:=13) (t:=316) (by kernel_rfl) (by kernel_rfl) underlying316 underlying282 (by kernel_rfl) (by kernel_rfl) h1
theorem eO {w:World} (h:Di w):17≤w.heap.size:=by
 have hg : prog.globalNamed "loop.example/g00126/impl.stepDays" = some 16 := by kernel_rfl
 unfold Di Lib.TabIs World.var? at h
 simp only [hg,Option.bind_some] at h
 rcases Nat.lt_or_ge 16 w.heap.size with h' | h'
 ·omega
 ·rw [Array.getElem?_eq_none h'] at h;simp at h
theorem pH {rest r2 : List (String × DataW Unit)} {w : World} (hp : laidMet prog (("internal/strconv.uint64pow10", Rows.laid_internal_strconv_uint64pow10) :: r2) w) (h : laidMet prog (("loop.example/g00126/impl.stepDays", Rows.laid_loop_example_g00126_impl_stepDays) :: ("loop.example/g00126/impl.errLine", Rows.laid_loop_example_g00126_impl_errLine) :: ("loop.example/g00126/impl.errLogFull", Rows.laid_loop_example_g00126_impl_errLogFull) :: ("loop.example/g00126/impl.errCasesFull", Rows.laid_loop_example_g00126_impl_errCasesFull) :: ("loop.example/g00126/impl.errAuth", Rows.laid_loop_example_g00126_impl_errAuth) :: ("loop.example/g00126/impl.errDay", Rows.laid_loop_example_g00126_impl_errDay) :: ("loop.example/g00126/impl.errCase", Rows.laid_loop_example_g00126_impl_errCase) :: ("loop.example/g00126/impl.errMoney", Rows.laid_loop_example_g00126_impl_errMoney) :: ("loop.example/g00126/impl.errAct", Rows.laid_loop_example_g00126_impl_errAct) :: ("loop.example/g00126/impl.actWords", Rows.laid_loop_example_g00126_impl_actWords) :: rest) w) (hsh : w.ShapedOpen prog) : E0 w := by
 have hst:=gF h
 have kerrLine:=Hz (g:=3) (h.tail) (by kernel_rfl) (by kernel_rfl)
 have kerrLogFull:=Hz (g:=1) (h.tail.tail) (by kernel_rfl) (by kernel_rfl)
 have kerrCasesFull:=Hz (g:=6) (h.tail.tail.tail) (by kernel_rfl) (by kernel_rfl)
 have kerrAuth:=Hz (g:=5) (h.tail.tail.tail.tail) (by kernel_rfl) (by kernel_rfl)
 have kerrDay:=Hz (g:=4) (h.tail.tail.tail.tail.tail) (by kernel_rfl) (by kernel_rfl)
 have kerrCase:=Hz (g:=7) (h.tail.tail.tail.tail.tail.tail) (by kernel_rfl) (by kernel_rfl)
 have kerrMoney:=Hz (g:=8) (h.tail.tail.tail.tail.tail.tail.tail) (by kernel_rfl) (by kernel_rfl)
 have kerrAct:=Hz (g:=9) (h.tail.tail.tail.tail.tail.tail.tail.tail) (by kernel_rfl) (by kernel_rfl)
 exact ⟨eO hst,hst,iX hp,cell_of_shapedOpen_int (zero:=#[.int .i64 0]) (t:=3) hsh (of_decide_eq_true (by kernel_rfl)) (by kernel_rfl) rfl (by kernel_rfl) (by kernel_rfl) underlying3,kerrLogFull,kerrLine,kerrDay,kerrAuth,kerrCasesFull,kerrCase,kerrMoney,kerrAct,gI h.tail.tail.tail.tail.tail.tail.tail.tail.tail⟩
def bL (P:Program) (ns:List String):Bool:=ns.all fun n=>((P.globalNamed n).bind fun g=>(P.globals[g]?).map fun x=>P.readableRec x.type && decide (x.type<P.types.size)) == some true
theorem Sl {H:Type} {enc:TypeId×Value→H} {W W':World} (hb:BW W W'):∀ (ns:List String) (gs:List (DataW H)) (q:List MemPlace),bL prog ns=true→DataW.TrodVars enc prog W (fun _=>true) ns gs q→DataW.TrodVars enc prog W' (fun b=>decide (b<W.heap.size)) ns gs q
 | [],[],q,_,h=>h
 | n::ns,d::ds,ps,hr,h=>by
  obtain ⟨g,t,cs,fuel,p,q,hg,ht,hv,hd,hrest,hps⟩:=h
  simp only [bL,List.all_cons,Bool.and_eq_true] at hr
  obtain ⟨h1,h2⟩:=hr;obtain ⟨x,hx,hxt⟩:=Option.map_eq_some_iff.1 ht;rw [hg] at h1
  simp only [Option.bind_some,hx,Option.map_some] at h1
  have h3:(prog.readableRec x.type && decide (x.type<prog.types.size))=true:=by simpa using h1
  rw [hxt] at h3
  simp only [Bool.and_eq_true,decide_eq_true_eq] at h3
  have hlt:∀ y ∈ p,y.block<W.heap.size:=DataW.trod_lt fuel _ _ _ hd
  obtain ⟨f',hd'⟩:=Below.trod Uc h3.1 h3.2 (v:=.agg cs) (⟨fuel,hd⟩:DataW.Trod enc prog W 0 (fun _=>true) true t (.agg cs) d p) hb hlt
  refine ⟨g,t,cs,f',p,q,hg,ht,?_,hd',Sl hb ns ds q h2 hrest,hps⟩;exact iJ hv hb
theorem T6 {H:Type} {enc:TypeId×Value→H} {w:World} {sp:Nat→Bool} {n1 n2 n3 n4 n5 n6 n7 n8 n9 n10:String} {gs:List (DataW H)} {ps:List MemPlace} (h:DataW.TrodVars enc prog w sp [n1,n2,n3,n4,n5,n6,n7,n8,n9,n10] gs ps) :
  ∃ y1 y2 y3 y4 y5 y6 y7 y8 y9 y10,gs=[y1,y2,y3,y4,y5,y6,y7,y8,y9,y10]:=by
 have len:∀ (ns:List String) (gs:List (DataW H)) (ps:List MemPlace),DataW.TrodVars enc prog w sp ns gs ps→gs.length=ns.length:=by
  intro ns
  induction ns with
  | nil=>intro gs ps h;cases gs with
   | nil=>rfl
   | cons a b=>simp [DataW.TrodVars] at h
  | cons n ns ih=>intro gs ps h;cases gs with
   | nil=>simp [DataW.TrodVars] at h
   | cons a b =>
    obtain ⟨g,t,cs,fuel,p,q,_,_,_,_,hrest,_⟩:=h
    simp [ih _ _ hrest]
 have hl:=len _ _ _ h
 match gs,hl with
 | [y1,y2,y3,y4,y5,y6,y7,y8,y9,y10],_=>exact ⟨y1,y2,y3,y4,y5,y6,y7,y8,y9,y10,rfl⟩
theorem etM : prog.globalNamed "errors.errorType" = some 2 := by kernel_rfl
theorem rtM : (prog.cutTypes.find? (·.1 == "internal/reflectlite.rtype")).map (·.2) = some 247 := by kernel_rfl
theorem zF:((List.range 401).filter fun t=>prog.rowNamed t [101,114,114,111,114])=[104]:=by kernel_rfl
theorem Aa0:prog.types.size=401:=by kernel_rfl
theorem wV {W : World} (h : handlesMet prog [("errors.errorType", Rows.laid_errors_errorType)] W) : R4 W := by
 obtain ⟨name,u,ty,e1,e2,e3,e4,e5⟩:=h _ (List.mem_singleton.2 rfl);have en:name=[101,114,114,111,114]:=(Option.some.inj e1).symm;subst en;obtain rfl:=Option.some.inj (rtM.symm.trans e2)
 have hm:ty ∈ (List.range 401).filter fun t=>prog.rowNamed t [101,114,114,111,114]:=List.mem_filter.2 ⟨List.mem_range.2 (by rw [← Aa0];exact e3),e4⟩
 rw [zF] at hm;obtain rfl:=List.mem_singleton.1 hm
 have hh:typeHandle prog 104=.pointer (some ⟨17,104,none⟩):=by kernel_rfl
 rw [hh] at e5;unfold R4
 simpa using World.var?_cell etM e5 0
theorem uV {P:Program} {w0:World} {laid:List (String×DataW Unit)} (args:Array Value) (hf:w0.layFits P laid []=true) (hi:w0.layIfaces P laid (w0.layVars P laid)=true) :
  laidMet P laid ((w0.layVars P laid).forCall (fun _ _=>0) ⟨#[],args,[]⟩).memory:=by
 have e1:(laid.filter fun x=>(laid.map (·.1)).contains x.1)=laid:=List.filter_eq_self.2 fun x hx=>List.contains_iff_mem.2 (List.mem_map.2 ⟨x,hx,rfl⟩)
 have e2:(laid.filter fun x=>!(laid.map (·.1)).contains x.1)=[]:=List.filter_eq_nil_iff.2 fun x hx=>by rw [List.contains_iff_mem.2 (List.mem_map.2 ⟨x,hx,rfl⟩)];simp
 have h:laidMet P laid (w0.layVars P laid):=laidMet_layVars (w0:=w0) (laid.map (·.1)) [] (by rw [e1]) (by rw [e1];exact hf) (by rw [e1];exact hi) (by rw [e2];exact LaidIn.none)
 exact h.of_heap (by simp [World.memory,World.forCall,Input.heap])
theorem yU {w : World} (h : laidMet prog [("math/bits.deBruijn32tab", Rows.laid_math_bits_deBruijn32tab), ("math/bits.deBruijn64tab", Rows.laid_math_bits_deBruijn64tab), ("internal/strconv.uint64pow10", Rows.laid_internal_strconv_uint64pow10), ("unicode/utf8.acceptRanges", Rows.laid_unicode_utf8_acceptRanges), ("loop.example/g00126/impl.stepDays", Rows.laid_loop_example_g00126_impl_stepDays), ("loop.example/g00126/impl.errLine", Rows.laid_loop_example_g00126_impl_errLine), ("loop.example/g00126/impl.errLogFull", Rows.laid_loop_example_g00126_impl_errLogFull), ("loop.example/g00126/impl.errCasesFull", Rows.laid_loop_example_g00126_impl_errCasesFull), ("loop.example/g00126/impl.errAuth", Rows.laid_loop_example_g00126_impl_errAuth), ("loop.example/g00126/impl.errDay", Rows.laid_loop_example_g00126_impl_errDay), ("loop.example/g00126/impl.errCase", Rows.laid_loop_example_g00126_impl_errCase), ("loop.example/g00126/impl.errMoney", Rows.laid_loop_example_g00126_impl_errMoney), ("loop.example/g00126/impl.errAct", Rows.laid_loop_example_g00126_impl_errAct), ("loop.example/g00126/impl.actWords", Rows.laid_loop_example_g00126_impl_actWords), ("unicode/utf8.first", Rows.laid_unicode_utf8_first)] w ∧ handlesMet prog [("errors.errorType", Rows.laid_errors_errorType)] w) (hsh : w.ShapedOpen prog) : E0 w ∧ R4 w :=
 ⟨pH h.1.tail.tail h.1.tail.tail.tail.tail hsh,wV h.2⟩
end Go.Proofs.YtomiclakhjncbaaGreatDoor.Kb
