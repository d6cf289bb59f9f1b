import Derived.Test.YtomiclakhjncbaaGreatDoorJT3ar
import Derived.Test.YtomiclakhjncbaaGreatDoorKTICaseDo
import Derived.Test.YtomiclakhjncbaaGreatDoorKTKbOpen
import Derived.Test.YtomiclakhjncbaaGreatDoorKTBkDrJ
import Derived.Test.YtomiclakhjncbaaGreatDoorKTSameB
set_option maxRecDepth 100000
set_option maxHeartbeats 12800000
namespace Go.Proofs.YtomiclakhjncbaaGreatDoor
namespace Kb
open Go.RowKit Go.Proofs.Tryz
theorem Tc {w w':World} {n:String} {g G:Nat} {cs:Array Value} (h:w.var? prog n=some cs) (hg:prog.globalNamed n=some g) (hG:g<G) (hb:Below G w w'):w'.var? prog n=some cs:=by
 unfold World.var? at *
 simp only [hg,Option.bind_some] at h ⊢
 rw [hb.block g hG];exact h
structure E0 (w:World):Prop where
 size:17<=w.heap.size
 step:Di w
 pow : Lib.TabIs prog w "internal/strconv.uint64pow10" .u64 Lib.pow10Tab
 max:∃ m,w.cell? (qzA 10 0)=some (qzI m)
 eFull:∃ t a,w.cell? (qzA 1 0)=some (.iface t (.pointer (some a)))
 eLine:∃ t a,w.cell? (qzA 3 0)=some (.iface t (.pointer (some a)))
 eDay:∃ t a,w.cell? (qzA 4 0)=some (.iface t (.pointer (some a)))
 eAuth:∃ t a,w.cell? (qzA 5 0)=some (.iface t (.pointer (some a)))
 eCases:∃ t a,w.cell? (qzA 6 0)=some (.iface t (.pointer (some a)))
 eCase:∃ t a,w.cell? (qzA 7 0)=some (.iface t (.pointer (some a)))
 eMoney:∃ t a,w.cell? (qzA 8 0)=some (.iface t (.pointer (some a)))
 eAct:∃ t a,w.cell? (qzA 9 0)=some (.iface t (.pointer (some a)))
 words:∀ k,k<10->w.cell? (qzA 0 k)=some (.string ⟨(Al Dm k).toArray⟩)
theorem Vi (w:World) (q:Nat) (os:Array Obj):Below w.heap.size w (Go.Sort.grow (w.drewN q) os) :=
 ⟨rfl,rfl,rfl,by simp [Go.Sort.grow,World.drewN],fun k hk=>by simp [Go.Sort.grow,World.drewN,Array.getElem?_append,hk]⟩
theorem dK (w w':World) (h:E0 w) (hb:Below 17 w w'):E0 w':=by
 have k:∀ (g i:Nat) (v:Value),g<17->w.cell? (qzA g i)=some v->w'.cell? (qzA g i)=some v:=fun g i v hg f=>(hb.cell (p:=(qzA g i)) hg).trans f
 obtain ⟨m,R⟩:=h.max;obtain ⟨a3,W,C⟩:=h.eFull;obtain ⟨a4,X,D⟩:=h.eLine;obtain ⟨a9,a6,M⟩:=h.eDay;obtain ⟨Y,U,A⟩:=h.eAuth;obtain ⟨S,N,s⟩:=h.eCases;obtain ⟨Z,V,B⟩:=h.eCase;obtain ⟨T,O,u⟩:=h.eMoney;obtain ⟨a8,a5,L⟩:=h.eAct
 exact ⟨Nat.le_trans h.size hb.size,Tc h.step (g:=16) (by kernel_rfl) (by decide) hb,Tc h.pow (g:=13) (by kernel_rfl) (by decide) hb,⟨m,k _ _ _ (by decide) R⟩,⟨_,_,k _ _ _ (by decide) C⟩,⟨_,_,k _ _ _ (by decide) D⟩,⟨_,_,k _ _ _ (by decide) M⟩,⟨_,_,k _ _ _ (by decide) A⟩,⟨_,_,k _ _ _ (by decide) s⟩,⟨_,_,k _ _ _ (by decide) B⟩,⟨_,_,k _ _ _ (by decide) u⟩,⟨_,_,k _ _ _ (by decide) L⟩,fun i hi=>k _ _ _ (by decide) (h.words i hi)⟩
theorem I3 {x:Int} (h:Rp x):Bf x:=WalkArith.wf_i64 (by obtain ⟨j,o⟩:=h;omega)
theorem cL {x:Int} (h:Bf x):-9223372036854775808<=x/\x<=9223372036854775807:=by
 simp [Bf,Lit.wf,IntKind.min,IntKind.max,IntKind.signed,IntKind.bits] at h;omega
theorem mI {F I y am day:Int} (j:Rp F) (o:Rp I) (H:Rp y) (h4:Rp am):∀ x ∈ Ft F I y am day,Ma x:=by
 intro x b;unfold Ft at b
 split at b
 ·simp at b;subst b;exact ⟨I3 j,I3 o,I3 H,I3 h4⟩
 ·cases b
theorem Xn {c:Cs} {n:Int} (f:Qk c) (r:Bf n):(∀ x ∈ Bg c n,Ma x)/\(∀ x ∈ Dw c n,Ma x):=by
 obtain ⟨j,o,H,-⟩:=f
 refine ⟨fun x b=>?_,fun x b=>?_⟩
 ·unfold Bg at b
  split at b
  ·cases b
  ·simp at b;subst b;exact ⟨o,j,H,r⟩
 ·unfold Dw at b
  split at b
  ·cases b
  ·simp at b;subst b;exact ⟨j,o,H,r⟩
theorem bJ {c:Cs} {n:Int} (f:Qk c) (r:Bf n):∀ x ∈ Dg c n,Ma x:=by
 intro x b;unfold Dg at b
 rcases List.mem_append.1 b with b | b
 ·exact (Xn f r).1 x b
 ·simp at b;subst b
  obtain ⟨j,o,H,-⟩:=f
  refine ⟨?_,(show Bf 9999 from Cq (by omega)),H,(show Bf 50000 from Cq (by omega))⟩
  show Bf (Oo c n)
  unfold Oo
  split
  ·exact o
  ·exact j
theorem sN {c:Cs} {a:Ac} {t:Int} {zs:List Int} (f:Qk c) (z:Rp a.am):∀ x ∈ doE c a t zs,Ma x:=by
 intro x b;have J:Bf c.cl:=f.2.2.2.2.2.2.1
 have a7:Bf (c.cl / 2):=WalkArith.wf_i64 (by have:=cL J;omega)
 unfold doE at b
 split at b
 ·unfold Bw at b
  split at b
  ·exact (Xn f (I3 z)).1 x b
  split at b
  ·exact (Xn f (I3 z)).2 x b
  split at b
  ·exact (Xn f J).1 x b
  split at b
  ·exact bJ f (I3 z) x b
  split at b
  ·unfold Ck at b
   split at b
   ·cases b
   split at b
   ·exact (Xn f J).1 x b
   split at b
   ·exact bJ f a7 x b
   ·cases b
  ·cases b
 ·cases b
theorem kU {az:List Au} {i c a d x:Int} (h:Gm az i c a d x):-1<=x:=by
 rcases h with ⟨-,h⟩ | ⟨-,rfl⟩
 ·rcases h with ⟨rfl,-⟩ | ⟨k,-,rfl,-⟩ <;> omega
 ·omega
theorem Yd:Rq F0 E0 17 where
 keep:=dK
 size:=fun w h=>h.size
 num:=fun l w h=>(Tg.iNumOf_any l w (by omega)).mono (fun e w' ⟨j,o⟩=>⟨j,by rw [o];exact bR⟩)
 dec:=fun m w h hE=>(strconv_Itoa m (by omega) (by omega) w hE.pow).mono (fun e w' hw=>by
  obtain ⟨rfl,k,os,rfl⟩:=hw
  exact ⟨by rw [Lib.itoa,if_neg (by omega)];rfl,Vi w k os⟩)
 clone:=fun l w h=>Sm l w (by omega)
 split:=fun l w h hE=>by obtain ⟨m,R⟩:=hE.max;exact qS l m w h R
 eFull:=fun w h=>h.eFull
 eLine:=fun w h=>h.eLine
 eDay:=fun w h=>h.eDay
 eAuth:=fun w h=>h.eAuth
 eCases:=fun w h=>h.eCases
 eCase:=fun w h=>h.eCase
 eMoney:=fun w h=>h.eMoney
 eAct:=fun w h=>h.eAct
 words:=fun w h=>h.words
 prune:=fun ao cap az t w h r hd=>Z4 ao cap az t w h (by omega) (fun a z=>by have:=hd a z;omega)
 use:=fun ao cap az i w h r hd=>jU ao cap az i w h (by omega) (fun a z=>by have:=hd a z;omega)
 add:=fun ao cap az a w h r hd hl f=>aI ao cap az a w h r (fun x b=>by have:=hd x b;omega) (by omega) (I3 f)
 best:=fun ao cap az F y am day w h r hd f w3 w4=>dP ao cap az F y am day w h r (fun a z=>by have:=hd a z;omega) f w3 w4
 start:=fun F I y am day w h=>X2 F I y am day w (I3 h)
 small:=fun F I y am day=>⟨by have:=Ra F I y am day;show (Ft F I y am day).length<=1048576;omega,fun j o H h4=>mI j o H h4⟩
 act:=fun c a t ao cp zs w h r hE f=>Go.Proofs.YtomiclakhjncbaaGreatDoor.iDo_any c a t ao cp zs w h (by omega) hE.step (by have:=hE.size;omega) f.2.2.1
 few:=fun c a t zs=>⟨by have:=bM c a t zs;show (doE c a t zs).length<=1048576;omega,fun j o=>sN j o⟩
 low:=fun az i c a d x h=>kU h
 stay:=fun ls es h=>by
  show Hv ls es=ls
  have h':(Ch ls es).isSome=false:=h;unfold Hv
  cases hp:Ch ls es with
  | none=>rfl
  | some g=>rw [hp] at h';cases h'
 code:=fun c a t zs=>by have:=kB c a t zs;show 0<=doV c a t zs/\doV c a t zs<=1000;omega
 post:=fun ao cap ls eo ec es w h r hb hy R he=>Um ao cap ls eo ec es w h r hb hy R he
def G4 (t:Int) (zs:List Int):Bk:=⟨t,zs,[],[],[],[]⟩
def cT (t:Int) (zs:List Int) (rs:Be) (i:Bk) (n:Int):Prop :=
 if R2 t zs=true then ∃ k:Nat,n=(k:Int)/\k<=rs.length/\Did F0 (G4 t zs) (rs.take k) i/\(k<rs.length->∃ r,D9 F0 i (Al rs k) r/\r.2≠0) else i=G4 0 []/\n = -1
structure Gc (B:Nat) (b:Bk) (q:Bp) (u:World):Prop where
 off:u.ownsRow B 3 1 (.slice q.o b.off.length q.oc) b.off.length (b.off.map (Value.int .i64))
 az:u.ownsRow B 107 6 (.slice q.a b.az.length q.ac) b.az.length (Ah b.az)
 cs:u.ownsRow B 61 12 (.slice q.c b.cs.length q.cc) b.cs.length (Aj b.cs)
 ls:u.ownsRow B 113 3 (.slice q.l b.ls.length q.lc) b.ls.length (Ag b.ls)
 log:u.ownsRow B 9 1 (.slice q.g b.log.length q.gc) b.log.length (Am b.log)
theorem Gc.at {B:Nat} {b:Bk} {q:Bp} {u:World} (h:Gc B b q u):Aq u b q:=⟨Hq h.off,Fd h.az,F2 h.cs,Df h.ls,Ep h.log⟩
theorem Gc.low {B B':Nat} {b:Bk} {q:Bp} {u:World} (h:Gc B b q u) (hb:B'<=B):Gc B' b q u:=⟨Ez h.off hb,Ez h.az hb,Ez h.cs hb,Ez h.ls hb,Ez h.log hb⟩
theorem KS.own5 {B K:Nat} {st:Int} {b:Bk} {q:Bp} {u:World} (h:KS B K st b q u):Gc B b q u:=⟨h.off,h.az,h.cs,h.ls,h.log⟩
def AlR (t:Int) (zs:List Int) (rs:Be) (w:World) (e:Ending) (w':World):Prop :=
 ∃ (i:Bk) (n:Int) (q:Bp),e=.returned (.tuple #[C5 i q,qzI n])/\cT t zs rs i n/\JW i/\Gc w.heap.size i q w'/\BW w w'
theorem Aeu:At []=true:=by decide
theorem xV {t:Int} {zs:List Int} (h:R2 t zs=true):JW (G4 t zs):=by
 simp only [R2,Ct,Bool.and_eq_true,decide_eq_true_eq] at h
 exact ⟨⟨(by show zs.length<=1000;omega),nL,nL,(fun a ha=>nomatch ha),(fun a ha=>nomatch ha),Aeu,h.1⟩,(by show 0<=600;omega),(fun a ha=>nomatch ha)⟩
theorem Adu:JW (G4 0 []):=xV (by decide)
theorem Add (b:Bk) (l:List UInt8) (b2:Bk) (hl:l.length<1048576) (h:JW b) (hd:D9 F0 b l (b2,0)) (v:∃ r,Fg Fu b l r):JW b2:=by
 obtain ⟨r,hr⟩:=v;have h1:=(W4 hd hr).1
 have J:=Adz h (by omega) hr
 rw [<- h1] at J;exact J
theorem iM (b:Bk) (l:List UInt8) {r:Bk×Int} (h:D9 F0 b l r):∃ r',Fg Fu b l r':=by
 unfold D9 at h
 split at h
 ·exact ⟨(b,2),.inl ⟨‹_›,rfl⟩⟩
 ·rename_i hf
  obtain ⟨r0,h0,-⟩:=h
  have hs:∃ s,Fu b l s:=by
   unfold Fu Db
   split
   ·exact ⟨_,rfl⟩
   split
   ·split
    ·exact ⟨_,rfl⟩
    ·exact ⟨_,rfl⟩
   split
   ·rename_i hp
    split
    ·rename_i hn
     unfold D6 at h0
     simp only [Da,Bool.and_eq_true,decide_eq_true_eq] at hp
     have e0:=hp.1
     rw [if_neg (by rw [e0];decide),if_neg (by rw [e0];decide),if_pos e0] at h0
     unfold Fh at h0
     rw [if_pos ⟨hn,by rw [List.length_drop];omega⟩] at h0
     obtain ⟨x,v,-⟩:=h0;obtain ⟨a,c,d,e,f,d3⟩:=M9 hp.2;rw [d3] at v ⊢;exact ⟨_,x,v,rfl⟩
    ·exact ⟨_,rfl⟩
   split
   ·split
    ·exact ⟨_,rfl⟩
    ·exact ⟨_,rfl⟩
   ·exact ⟨_,rfl⟩
  obtain ⟨s,hs⟩:=hs
  by_cases hc:s.2=0
  ·exact ⟨_,.inr ⟨by omega,s,hs,.inr ⟨hc,rfl⟩⟩⟩
  ·exact ⟨_,.inr ⟨by omega,s,hs,.inl ⟨hc,rfl⟩⟩⟩
theorem Acm (t:Int) (ao:Option Addr) (c:Nat) (zs:List Int) (lo:Option Addr) (lc:Nat) (rs:Be) (w:World) (v:Aw w ao zs) (hn:zs.length<=1048576) (hz:Bh w lo rs) (hm:rs.length<=1048576) (hd:∀ r ∈ rs,r.length<1048576) (hE:E0 w) :
  Calls prog 14 #[qzI t,.slice ao zs.length c,.slice lo rs.length lc] w (AlR t zs rs w):=by
 obtain ⟨R,hR⟩:∃ R,w.heap.size=R:=⟨_,rfl⟩;obtain ⟨W,hW⟩:∃ W,W=w.alloc (.cells qzB 31):=⟨_,rfl⟩
 have N:Hid (BW w W):=by rw [Hid,hW];exact bR.alloc nL _
 have G:Hid (Z0 R W):=by rw [Hid,hW,<- hR];exact Z6.new w _ _ _ _ _ _ _
 have V:Hid (Calls prog 44 #[qzI t,.slice ao zs.length c] W (BsR W t zs)):=vA t ao c zs W (v.below N.o) hn;have c8:Hid (Bh w lo rs):=hz
 have b9:Hid (rs≠[]->∀ x,lo=some x->x.block<w.heap.size):=fun hne x v=>by
  rcases hz with h | ⟨g,off,h1,J,_⟩
  ·exact absurd h hne
  ·rw [h1] at v;injection v with v;subst v;exact J
 have S:Hid (E0 w):=hE;have HD:Hid (∀ r ∈ rs,r.length<1048576):=hd;have F:Hid _:=hR;have Y:Hid _:=hW;clear v hz hE hd hR hW
 go_enter func14,ntmps14
 go_wp2_with fail
 rw [<- Y.o];refine Calls.mono V.o ?_;rintro e H ⟨a,k,rfl,o1,p1⟩;rw [F.o];have z:Hid (BW w H):=next N.o p1;have a3:Hid (Z0 R H):=G.o.below p1;have d6:Hid (R<W.heap.size):=G.o.lt;have d5:Hid (W.heap.size<=H.heap.size):=p1.size;clear p1 V Y G
 cases hok:R2 t zs
 ·have e1:bsT t zs=0:=if_neg (by rw [hok];decide)
  have e2:bsL t zs=[]:=if_neg (by rw [hok];decide)
  rw [e1,e2]
  simp only [List.length_nil]
  unfold bk0;obtain ⟨U,y⟩:∃ U,U=H.alloc (.cells #[qzI 0,.slice a 0 k,.slice none 0 0,.slice none 0 0,.slice none 0 0,.slice none 0 0] 31):=⟨_,rfl⟩
  have j:Hid (BW w U):=by rw [Hid,y];exact z.o.alloc z.o.size _
  have A:Hid (Z0 R U):=by rw [Hid,y];exact a3.o.below (bR.alloc nL _)
  have HQ:Hid (cT t zs rs (G4 0 []) (-1)):=by rw [Hid,cT,if_neg (by rw [hok];decide)];exact ⟨rfl,rfl⟩
  have HU:Hid _:=y;clear y e1 e2 hok o1;go_upto_region 2 with fail
  rw [<- HU.o];obtain ⟨t0,t1,t2,t3,t4,t5,s0,s1,s2,s3,s4,s5⟩:=A.o;go_wp2
  refine bodyPost_ret (by simp [results,results14,go_sem,t0,t1,t2,t3,t4,t5];try rfl) rfl ?_
  have bel:=Ax (R:=R) (by rw [F.o];exact nL) j.o
  exact ⟨G4 0 [],-1,⟨none,0,none,0,none,0,none,0,none,0⟩,rfl,HQ.o,Adu,⟨World.ownsRow_nil _ _ _ _,World.ownsRow_nil _ _ _ _,World.ownsRow_nil _ _ _ _,World.ownsRow_nil _ _ _ _,World.ownsRow_nil _ _ _ _⟩,bel _ _ _ _ _ _⟩
 ·have e1:bsT t zs=t:=if_pos hok
  have e2:bsL t zs=zs:=if_pos hok;rw [e1,e2];rw [e2] at o1;unfold bk0;obtain ⟨U,y⟩:∃ U,U=H.alloc (.cells #[qzI t,.slice a zs.length k,.slice none 0 0,.slice none 0 0,.slice none 0 0,.slice none 0 0] 31):=⟨_,rfl⟩;obtain ⟨X,hX⟩:∃ X,H.heap.size=X:=⟨_,rfl⟩
  have j:Hid (BW w U):=by rw [Hid,y];exact z.o.alloc z.o.size _
  have A:Hid (Z0 R U):=by rw [Hid,y];exact a3.o.below (bR.alloc nL _)
  have Z:Hid (Z6 X (qzI t) (.slice a zs.length k) (.slice none 0 0) (.slice none 0 0) (.slice none 0 0) (.slice none 0 0) U):=by rw [Hid,y,<- hX];exact Z6.new H _ _ _ _ _ _ _
  have d4:Hid (E0 U):=dK _ _ S.o (j.o.mono S.o.size)
  have d7:zs.length<=400:=by
   have h:=hok
   simp only [R2,Ct,Bool.and_eq_true,decide_eq_true_eq] at h
   exact h.2.1
  have T:Hid (Calls prog 50 #[.agg #[qzI t,.slice a zs.length k,.slice none 0 0,.slice none 0 0,.slice none 0 0,.slice none 0 0]] U (OpR (G4 t zs) U)) :=
   fF Yd (G4 t zs) ⟨a,k,none,0,none,0,none,0,none,0⟩ U ⟨by rw [y];exact Hq (Av o1 (bR.alloc nL _)),.inl rfl,.inl rfl,.inl rfl,.inl rfl⟩ ⟨by show zs.length<=1048576;omega,Nat.zero_le _,Nat.zero_le _,Nat.zero_le _,Nat.zero_le _⟩ (fun a ha=>nomatch ha) (fun a ha=>nomatch ha)
  have p:Hid (R<U.heap.size):=A.o.lt;have HJ:Hid (JW (G4 t zs)):=xV hok
  have HQ:Hid (∀ (m:Nat) (i:Bk),m<=rs.length->Did F0 (G4 t zs) (rs.take m) i->(m<rs.length->∃ r,D9 F0 i (Al rs m) r/\r.2≠0)->cT t zs rs i (m:Int)):=fun m i h1 J h3=>by rw [cT,if_pos hok];exact ⟨m,rfl,h1,J,h3⟩
  have HU:Hid _:=y;have c9:Hid _:=hX;clear y hX e1 e2 hok o1;go_upto_region 2 with fail
  rw [<- HU.o,c9.o];obtain ⟨x0,x1,x2,x3,x4,x5,-,-,-,-,-,-⟩:=Z.o;go_wp2_with fail
  refine Calls.mono T.o ?_;rintro e I ⟨K,q,rfl,a7,p3⟩;have b5:Hid (KS U.heap.size K 0 (G4 t zs) q I):=a7;have C:Hid (BW w I):=next j.o p3;have d0:Hid (Z0 R I):=A.o.below p3;have b3:Hid (E0 I):=dK _ _ S.o (C.o.mono S.o.size)
  have O:Hid (Calls prog 51 #[.pointer (some (qzA K 0)),.slice lo rs.length lc] I (UnR U.heap.size K F0 JW (G4 t zs) rs I)) :=
   yU Yd (Nat.le_trans S.o.size j.o.size) (fun b h=>wQ h) (fun b l b2 hl h hd=>Add b l b2 hl h hd (iM b l hd)) (G4 t zs) q lo lc rs I b5.o b3.o HJ.o (c8.o.below C.o) (fun hne x v=>Nat.lt_of_lt_of_le (b9.o hne x v) j.o.size) hm HD.o
  clear a7 p3 T x0 x1 x2 x3 x4 x5 Z;go_wp2_with fail
  refine Calls.mono O.o ?_;rintro e M ⟨m,i,L,rfl,a4,a5,a6,hj,a8,p4⟩;have b6:Hid (KS U.heap.size K 0 i L M):=a8;have d1:Hid (Z0 R M):=d0.o.under p4 p.o;have b0:Hid (BW w M):=C.o.trans (p4.mono j.o.size);have b4:Hid (JW i):=hj;have b8:Hid (cT t zs rs i (m:Int)):=HQ.o m i a4 a5 a6
  have D:Hid (Calls prog 52 #[.pointer (some (qzA K 0))] M fun e w'=>e=.returned (C5 i L)/\KS U.heap.size K 0 i L w'/\Below U.heap.size M w'):=eG i L M b6.o
  unfold C5 at D;clear a8 p4 hj a4 a5 a6 O HQ;go_wp2_with fail
  refine Calls.mono D.o ?_;rintro e w5 ⟨rfl,a9,p5⟩;have b7:Hid (KS U.heap.size K 0 i L w5):=a9;have d2:Hid (Z0 R w5):=d1.o.under p5 p.o;have b1:Hid (BW w w5):=b0.o.trans (p5.mono j.o.size);clear a9 p5 D;obtain ⟨t0,t1,t2,t3,t4,t5,s0,s1,s2,s3,s4,s5⟩:=d2.o;go_wp2
  refine bodyPost_ret (by simp [results,results14,go_sem,t0,t1,t2,t3,t4,t5];try rfl) rfl ?_
  have bel:=Ax (R:=R) (by rw [F.o];exact nL) b1.o
  have o5:=b7.o.own5;exact ⟨i,m,L,rfl,b8.o,b4.o,(Gc.mk (Ea o5.off p.o _ _ _ _ _ _) (Ea o5.az p.o _ _ _ _ _ _) (Ea o5.cs p.o _ _ _ _ _ _) (Ea o5.ls p.o _ _ _ _ _ _) (Ea o5.log p.o _ _ _ _ _ _)).low j.o.size,bel _ _ _ _ _ _⟩
theorem zU {F:Ff} {c:Bk} : ∀ {b:Bk} {j f:Be},Did F b (j++f) c->∃ d,Did F b j d/\Did F d f c
 | b,[],f,h=>⟨b,by rw [Did],h⟩
 | b,x::j,f,h=>by
  obtain ⟨s,v,y⟩:=h;obtain ⟨d,A,C⟩:=zU y;exact ⟨d,⟨s,v,A⟩,C⟩
theorem mS {ws:Be} {r m:Bk×Int} (h:Agr ws r m):r.2=0 ↔ m.2=0:=by
 rcases h.2 with e | ⟨e1,e2,_⟩
 ·rw [e]
 ·rw [e1,e2];decide
structure AS (R X:Nat) (b:Bk) (p:Bp) (w u:World):Prop where
 z:ZQ X b p u
 r:Z0 R u
 bk:Aq u b p
 oX:Wq p X
 oR:Wq p R
 hb:BW w u
 hR:w.heap.size=R
 hX:R<X
 fr:FrB p R
theorem Q4 {q:Bp} {n B:Nat} (h:FrB q n) (hB:B<n):Wq q B:=⟨Bb h.o hB,Bb h.a hB,Bb h.c hB,Bb h.l hB,Bb h.g hB⟩
theorem nZ {V i:World} {t:TypeId} (k:Below (V.alloc (.cells qzB t)).drew.heap.size (V.alloc (.cells qzB t)).drew i) :
  Z6 V.heap.size (qzI 0) (.slice none 0 0) (.slice none 0 0) (.slice none 0 0) (.slice none 0 0) (.slice none 0 0) i/\BW V i :=
 ⟨((Z6.new V _ _ _ _ _ _ t).below (bR.drew)).below k,Below.trans (((Below.refl V.heap.size V).alloc nL _).drew) (k.mono (by simp))⟩
theorem zS {b a:Bk} {l:List UInt8} {r:Bk×Int} (h:D9 F0 b l (a,0)) (f:D9 F0 b l r):r=(a,0):=by
 obtain ⟨s,hs⟩:=iM b l h;have a1:=W4 h hs;have a2:=W4 f hs;have g:r.2=0:=(mS a2).2 ((mS a1).1 rfl);have hb:r.1=a:=a2.1.trans a1.1.symm;obtain ⟨x,y⟩:=r
 simp only at g hb
 rw [g,hb]
theorem Acs {ls:Be} : ∀ {b a q:Bk},Did F0 b ls a->Did F0 b ls q->a=q:=by
 induction ls with
 | nil=>intro b a q h f;rw [Did] at h f;rw [h,f]
 | cons l ls ih =>
  intro b a q h f;obtain ⟨c,g,h⟩:=h;obtain ⟨L,w,f⟩:=f;have e:=zS g w
  injection e with e1 _
  subst e1;exact ih h f
theorem wP {ls:Be} : ∀ {b a:Bk},Did F0 b ls a->a.log=b.log++ls:=by
 induction ls with
 | nil=>intro b a h;rw [Did] at h;rw [h,List.append_nil]
 | cons l ls ih =>
  intro b a h;obtain ⟨c,g,h⟩:=h
  have e:c.log=b.log++[l]:=by
   unfold D9 at g
   split at g
   ·injection g with _ e;exact absurd e (by decide)
   ·obtain ⟨r0,H,e⟩:=g
    split at e
    ·injection e with e _
     rw [e]
     show r0.1.log++[l]=_
     rw [Sw H]
    ·rename_i u
     rw [<- e] at u;exact absurd rfl u
  rw [ih h,e,List.append_assoc]
  rfl
theorem Adq {t:Int} {zs:List Int} {rs:Be} {b part:Bk} {n G:Int} {k:Nat} (B:R2 t zs=true) (h:cT t zs rs b n) (N:k<=b.log.length) (f:cT t zs (b.log.take k) part G) :
  G=(k:Int)/\part.log=b.log.take k/\Did F0 part (b.log.drop k) b:=by
 unfold cT at h f;rw [if_pos B] at h f;obtain ⟨j,rfl,M,d,-⟩:=h;obtain ⟨i,rfl,hi,C,st⟩:=f
 have hl:b.log=rs.take j:=by rw [wP d];rfl
 rw [<- hl] at d
 have A:(b.log.take k).length=k:=by rw [List.length_take];omega
 rw [A] at hi st
 have J:(b.log.take k).take i=b.log.take i:=by rw [List.take_take];congr 1;omega
 rw [J] at C;have e1:b.log=b.log.take i++b.log.drop i:=(List.take_append_drop i _).symm;rw [e1] at d;obtain ⟨m,D,v⟩:=zU d;have e2:=Acs D C;subst e2
 have z:i=k:=by
  rcases Nat.lt_or_ge i k with o | I
  ·exfalso
   obtain ⟨r,F,p⟩:=st o
   have u:Al (b.log.take k) i=Al b.log i:=by simp [Al,List.getD_eq_getElem?_getD,o]
   rw [u] at F
   have hd:b.log.drop i=Al b.log i::b.log.drop (i+1):=by
    rw [List.drop_eq_getElem_cons (by omega)]
    congr 1
    simp [Al,List.getD_eq_getElem?_getD,List.getElem?_eq_getElem (show i<b.log.length by omega)]
   rw [hd] at v;obtain ⟨c,g,-⟩:=v
   have:=zS g F
   rw [this] at p;exact p rfl
  ·omega
 subst z
 exact ⟨rfl,by rw [wP D];rfl,v⟩
structure wT (c:List Int) (k:Nat) (b:Bk):Prop where
 j:vT k b
 top:Top.TopI b
 nl:Top.NlI b
 did:Did F0 (G4 9000 c) b.log b
theorem yS {c:List Int} (f:R2 9000 c=true) (hl:c.length<=6):wT c 0 (G4 9000 c):=by
 have h:=vK c hl
 rw [show bsT 9000 c=9000 from if_pos f,show bsL 9000 c=c from if_pos f] at h
 exact ⟨h,Top.top_start _ _,fun l hl=>(by cases hl),by show Did F0 (G4 9000 c) [] _;rw [Did]⟩
theorem zR {b:Bk} {a:List UInt8} {r:Bk×Int} (g:Fg Fu b a r) (h:r.2≠0):r.1=b:=by
 rcases g with ⟨-,rfl⟩ | ⟨-,s,hs,⟨-,rfl⟩ | ⟨i,rfl⟩⟩
 ·rfl
 ·rfl
 ·exact absurd rfl h
theorem Adc {c:List Int} {k:Nat} {b:Bk} (h:wT c k b) {a:List UInt8} (hl:a.length<=1000) (hg:K3 a) {r:Bk×Int} (hd:D9 F0 b a r) (g:Fg Fu b a r):wT c (k+1) r.1:=by
 refine ⟨zV h.j hl hg g,Top.top_do h.top h.j.par g,Top.nl_do h.nl g,?_⟩
 by_cases i:r.2=0
 ·obtain ⟨m,code⟩:=r
  simp only at i
  subst i;have d:=vJ h.did hd
  have e:m.log=b.log++[a]:=by rw [wP d];rfl
  show Did F0 (G4 9000 c) m.log m
  rw [e];exact d
 ·rw [zR g i];exact h.did
theorem Abz {c:List Int} {k:Nat} {b o:Bk} {n:Int} (h:wT c k b) (f:R2 9000 c=true) (g:cT 9000 c (linesN (K5 b.log)) o n):o=b/\n=(b.log.length:Int):=by
 rw [Top.lines_again h.nl] at g
 have p:cT 9000 c b.log b (b.log.length:Int):=by
  unfold cT;rw [if_pos f]
  exact ⟨b.log.length,rfl,nL,by rw [List.take_of_length_le nL];exact h.did,fun q=>absurd q (Nat.lt_irrefl _)⟩
 rw [show b.log=b.log.take b.log.length from (List.take_of_length_le nL).symm] at g
 obtain ⟨e1,e2,e3⟩:=Adq f p nL g;rw [List.drop_of_length_le nL,Did] at e3;exact ⟨e3.symm,e1⟩
theorem xH {c:List Int} {k:Nat} {b:Bk} (h:wT c k b):(K5 b.log).length<=1048576:=by
 have p:=h.j.jw.log;have u:=h.j.lg
 have v:∀ lg:Be,(∀ l ∈ lg,l.length<=1000)->(K5 lg).length<=lg.length*1001:=by
  intro lg
  induction lg with
  | nil=>intro _;simp [K5]
  | cons r s ih =>
   intro t
   have w:=ih fun l hl=>t l (List.mem_cons_of_mem _ hl)
   have x:=t r (List.mem_cons_self ..)
   have e:K5 (r::s)=r++10::K5 s:=by simp [K5]
   rw [e,List.length_append,List.length_cons,List.length_cons,Nat.succ_mul]
   omega
 have y:=v b.log u
 omega
theorem Aal (a:Option Addr) (len cap:Nat) (m:Int) (w:World) (g:len<=1048576) (f:2<=m/\m<=100) :
  Calls prog 80 #[.slice a len cap,qzI m] w fun e w'=>∃ k:Nat,e=.returned (qzI k)/\(1<=(k:Int)/\(k:Int)<=m)/\w'=w:=by
 have hd:((len:Int).tdiv 20)=((len / 20:Nat):Int):=by have:=Int.tdiv_eq_ediv_of_nonneg (a:=(len:Int)) (b:=20) (by omega);omega
 obtain ⟨q,c⟩:∃ q,len / 20=q:=⟨_,rfl⟩
 have d:q<=1048576:=by omega
 rw [c] at hd
 by_cases h:m<2+(q:Int)
 ·obtain ⟨k,rfl⟩:=Int.eq_ofNat_of_zero_le (show 0<=m by omega)
  go_enter func80,ntmps80
  go_wp2;go_ret
  exact ⟨k,rfl,by omega,rfl⟩
 ·go_enter func80,ntmps80
  go_wp2;go_ret
  exact ⟨2+q,by simp,by omega,rfl⟩
theorem Ac8 {u H:World} {b:Bk} {p:Bp} {row:Option Nat} (h:Aq u b p) (r:u.grownBy H row) (n:∀ j,row=some j->Wq p j):Aq H b p :=
 ⟨h.off.far r (fun B' e=>(n B' e).o),h.az.far r (fun B' e=>(n B' e).a),h.cs.far r (fun B' e=>(n B' e).c),h.ls.far r (fun B' e=>(n B' e).l),h.log.far r (fun B' e=>(n B' e).g)⟩
structure YW (B g X:Nat) (w:World) (f:Option Addr) (m:List Int) (b:Bk) (p:Bp) (v:Value) (rs:Be) (u:World):Prop where
 cu:A2 B u g
 be:BW w u
 z:Z6b X b p u
 bk:Aq u b p
 og:Wq p g
 own:u.ownsRow (X+1) 9 1 v rs.length (Am rs)
 off:Aw u f m
 ag:Im f g
 aX:Dt f X
 hg:w.heap.size<=g
 gX:g<X
 hB:B<=X
theorem YW.call {B g X:Nat} {w:World} {f:Option Addr} {m:List Int} {b:Bk} {p:Bp} {v:Value} {rs:Be} {u H:World} (q:YW B g X w f m b p v rs u) (c:A2 B H g) (r:u.grownBy H (some g)):YW B g X w f m b p v rs H:=by
 have h1:=q.gX
 exact ⟨c,q.be.grown r q.be.size (fun k hk=>by cases hk;exact q.hg),Z6.grown q.z r (by simp;omega),q.bk.farB r q.og,q.og,q.own.kept r (.inr fun h=>by have:=(q.own.lt g h).1;omega),q.off.far r (fun j I=>by cases I;exact q.ag),q.ag,q.aX,q.hg,q.gX,q.hB⟩
theorem YW.below {B g X:Nat} {w:World} {f:Option Addr} {m:List Int} {b:Bk} {p:Bp} {v:Value} {rs:Be} {u H:World} (q:YW B g X w f m b p v rs u) (h:BW u H):YW B g X w f m b p v rs H:=q.call (B9 q.cu h) (mR h _)
theorem YW.app {B g X:Nat} {w:World} {f:Option Addr} {m:List Int} {b:Bk} {p:Bp} {v v':Value} {rs b4:Be} {u H:World} (q:YW B g X w f m b p v rs u) (n:∀ j,v.ownBlock=some j->Wq p j) (r:u.grownBy H v.ownBlock) (o:H.ownsRow (X+1) 9 1 v' b4.length (Am b4)):YW B g X w f m b p v' b4 H:=by
 have h1:=q.gX;have h2:=q.hB;have h3:=q.hg;have h4:=(L2 q.cu).2
 have hl:∀ j,v.ownBlock=some j->X+1<=j:=fun j I=>(q.own.lt j I).1
 refine ⟨L1 q.cu (bR.grown r h4 (fun j I=>by have:=hl j I;omega)),q.be.grown r q.be.size (fun j I=>by have:=hl j I;omega),Z6.grown q.z r (fun e=>by have:=hl X e.symm;omega),Ac8 q.bk r n,q.og,o,q.off.far r (fun j I=>Td q.aX (by have:=hl j I;omega)),q.ag,q.aX,q.hg,q.gX,q.hB⟩
theorem YW.put {B g X n:Nat} {w:World} {f:Option Addr} {m:List Int} {b A:Bk} {p d:Bp} {v:Value} {rs:Be} {u:World} (q:YW B g X w f m b p v rs u) (hb:Aq u A d) (hf:FrB d n) (M:X<n) :
  YW B g X w f m A d v rs ((((((u.setCell (qzA X 0) (qzI A.today)).setCell (qzA X 1) (.slice d.o A.off.length d.oc)).setCell (qzA X 2) (.slice d.a A.az.length d.ac)).setCell (qzA X 3) (.slice d.c A.cs.length d.cc)).setCell (qzA X 4) (.slice d.l A.ls.length d.lc)).setCell (qzA X 5) (.slice d.g A.log.length d.gc)):=by
 have h1:=q.gX;have h2:=q.hB;have h3:=q.hg;have bel:=((((((Below.refl X u).setCell (p:=(qzA X 0)) nL (qzI A.today)).setCell (p:=(qzA X 1)) nL (.slice d.o A.off.length d.oc)).setCell (p:=(qzA X 2)) nL (.slice d.a A.az.length d.ac)).setCell (p:=(qzA X 3)) nL (.slice d.c A.cs.length d.cc)).setCell (p:=(qzA X 4)) nL (.slice d.l A.ls.length d.lc)).setCell (p:=(qzA X 5)) nL (.slice d.g A.log.length d.gc)
 have s:∀ (v1:World) (i:Nat) (x:Value),v1.ownsRow (X+1) 9 1 v rs.length (Am rs)->(v1.setCell (qzA X i) x).ownsRow (X+1) 9 1 v rs.length (Am rs):=fun v1 i x hv=>hv.kept (An _ _ _ _) (.inr fun h=>by have:=(hv.lt X h).1;omega)
 have t:∀ (v1:World) (i:Nat) (x:Value),Aw v1 f m->Aw (v1.setCell (qzA X i) x) f m:=fun v1 i x hv=>hv.far (An _ _ _ _) (fun j I=>by cases I;exact Td q.aX nL)
 exact ⟨L1 q.cu (bel.mono h2),Ax (by omega) q.be _ _ _ _ _ _,Z6.put6 q.z _ _ _ _ _ _,hb.put6 (K6 hf M) _ _ _ _ _ _,K6 hf (by omega),s _ _ _ (s _ _ _ (s _ _ _ (s _ _ _ (s _ _ _ (s _ _ _ q.own))))),t _ _ _ (t _ _ _ (t _ _ _ (t _ _ _ (t _ _ _ (t _ _ _ q.off))))),q.ag,q.aX,q.hg,q.gX,q.hB⟩
def YrD (w:World) (e:Ending) (w':World):Prop:=∃ (f:Option Addr) (c:Nat) (m:List Int) (a2:Option Addr) (c2:Nat) (rs:Be),e=.returned (.tuple #[.slice f m.length c,.slice a2 rs.length c2])/\R2 9000 m=true/\m.length<=6/\Aw w' f m /\
 Bh w' a2 rs/\Dt f w'.heap.size/\Dt a2 w'.heap.size/\rs.length<=60/\(∀ l ∈ rs,l.length<=400/\K3 l)/\BW w w'
theorem Abt (w:World) (b:Nat) (hb:b<=w.heap.size):(w.alloc (.cells #[] 9)).ownsRow b 9 1 (.slice (some ⟨w.heap.size,0,none⟩) 0 0) 0 (Am []):=by
 have h:=World.ownsRow_lit (base:=b) (e:=9) (size:=1) w #[] 0 hb (by unfold maxLen;omega) rfl
 simpa [Am] using h
theorem yL (a:Option Addr) (len cap:Nat) (zs:List Int) (w:World) (T:pZ .u8 w a len cap zs) (hn:len<=1048576) :
  Calls prog 43 #[.slice a len cap] w (YrD w):=by
 obtain ⟨i0,hi,j4,j5,j6⟩:=info_parts S1
 go_enter func43,ntmps43
 go_wp2_with fail
 refine (Adn _ _ _ _ _ T hn).mono ?_;rintro e u1 ⟨rfl,c1,b1⟩;have d8:Hid (pZ .u8 w a len cap zs):=T;have i8:=L2 c1;clear T;go_wp2_with fail
 refine (Aao _ _ c1).mono ?_;rintro e u2 ⟨f,c,ys,rfl,i2,ox,c2,g2,s2⟩
 have d:BW w u2:=b1.grown g2 b1.size (fun k hk=>by cases hk;omega)
 clear c1 g2;go_wp2_with fail
 refine (vB 9000 f c ys u2 (uS ox) (by omega)).mono ?_
 rintro e u3 ⟨C,Z,rfl,oy,b3⟩;have q3:=next d b3;have c3:=B9 c2 b3;have s3:=b3.size;have g8:Cm C u2.heap.size:=Cw oy;have J:=vK ys i2;have O:=uS oy;have g3:Dt C u3.heap.size:=G8 oy nL;unfold bk0;obtain ⟨D,b0⟩:∃ z,bsL 9000 ys=z:=⟨_,rfl⟩;obtain ⟨tt,h9⟩:∃ z,bsT 9000 ys=z:=⟨_,rfl⟩;rw [b0] at oy J O ⊢;rw [h9] at J ⊢;have c9:Hid (vT 0 ⟨tt,D,[],[],[],[]⟩):=J;have i7:Hid (R2 9000 D=true):=J.offs
 have i6:Hid (D.length<=6):=by rw [Hid,<- b0];unfold bsL;split <;> first | exact i2 | simp
 obtain ⟨X,M⟩:∃ X,u3.heap.size=X:=⟨_,rfl⟩;obtain ⟨G,F⟩:∃ W,W=u3.alloc (.cells #[qzI tt,.slice C D.length Z,.slice none 0 0,.slice none 0 0,.slice none 0 0,.slice none 0 0] 31):=⟨_,rfl⟩
 have d9:BW u3 G:=by rw [F];exact bR.alloc nL _
 have i1:G.heap.size=X+1:=by rw [F,<- M];simp
 have HY:Hid (YW (w.heap.size+1) w.heap.size X w C D ⟨tt,D,[],[],[],[]⟩ ⟨C,Z,none,0,none,0,none,0,none,0⟩ (.slice (some ⟨G.heap.size,0,none⟩) 0 0) [] (G.alloc (.cells #[] 9))):=by
  have bA:Below G.heap.size G (G.alloc (.cells #[] 9)):=bR.alloc nL _;have bB:=next d9 bA
  have R:∀ B',Im none B':=fun B' x hx=>by cases hx
  have h6:Im C w.heap.size:=Bb g8 (by omega)
  have Y:=Z6.new u3 (qzI tt) (.slice C D.length Z) (.slice none 0 0) (.slice none 0 0) (.slice none 0 0) (.slice none 0 0) 31;rw [<- F,M] at Y
  refine ⟨B9 c3 bB,next q3 bB,Z6.below Y bA,⟨O.below bB,.inl rfl,.inl rfl,.inl rfl,.inl rfl⟩,⟨h6,R _,R _,R _,R _⟩,Abt G _ (by omega),O.below bB,h6,by rw [<- M];exact g3,nL,by omega,by omega⟩
 have b5:Hid _:=F;have b6:Hid _:=M;have i3:Hid (G.heap.size=X+1):=i1
 have b8:Hid (G.cell? (qzA X 1)=some (.slice C D.length Z)):=by
  have Y:=Z6.new u3 (qzI tt) (.slice C D.length Z) (.slice none 0 0) (.slice none 0 0) (.slice none 0 0) (.slice none 0 0) 31;rw [<- F,M] at Y;exact Y.c1
 have HZ:Hid (Z6 X (qzI tt) (.slice C D.length Z) (.slice none 0 0) (.slice none 0 0) (.slice none 0 0) (.slice none 0 0) G):=by
  have Y:=Z6.new u3 (qzI tt) (.slice C D.length Z) (.slice none 0 0) (.slice none 0 0) (.slice none 0 0) (.slice none 0 0) 31;rw [<- F,M] at Y;exact Y
 clear F M i1 d9 b0 h9 g3 O J g8 s3 c3 q3 oy b3 ox c2 d b1 i8 s2;go_upto_region 3 with fail
 rw [<- b5.o,b6.o];clear b5 b6;have n1:=b8.o;go_upto_region 5 with fail
 have d7:Hid (pZ .u8 (G.alloc (.cells #[] 9)) a len cap zs):=Aa5 d8.o HY.o.be;obtain ⟨V,hV⟩:∃ V,V=G.alloc (.cells #[] 9):=⟨_,rfl⟩;rw [<- hV] at HY d7 ⊢;obtain ⟨S3,g1⟩:∃ S,S=G.heap.size:=⟨_,rfl⟩;rw [<- g1] at HY ⊢;clear hV n1 b8 HZ g1 i3;go_wp2_with fail
 refine (Aal a len cap 60 V hn (by omega)).mono ?_
 rintro e w' ⟨n,rfl,hk,j3⟩;subst j3
 have j7:n<=60:=by omega
 clear hk d7 d8;go_upto_region 6 with fail
 go_wp2
 go_loopw [8,10] (fun s i wr=>∃ (v:Value) (j:Nat) (b:Bk) (p:Bp) (rs:Be),v=s/\j<=n/\i=qzI j/\rs.length=j/\vT j b/\(∀ l ∈ rs,l.length<=400/\K3 l)/\(∀ x,v.ownBlock=some x->Wq p x)/\YW (w.heap.size+1) w.heap.size X w C D b p v rs wr) (fun s i _=>n - (intOf i).toNat)
 case atStart=>exact ⟨_,0,_,_,[],rfl,Nat.zero_le _,rfl,rfl,c9.o,(fun l hl=>by cases hl),(fun x hx=>⟨(by have:=HY.o.own.lt x hx;exact Td HY.o.aX (by omega)),(fun y hy=>by cases hy),(fun y hy=>by cases hy),(fun y hy=>by cases hy),(fun y hy=>by cases hy)⟩),HY.o⟩
 case round =>
  obtain ⟨v,j,b,p,rs,j2,I,rfl,h8,hI,a8,a9,N⟩:=hrel;subst j2;clear c9 HY
  by_cases hlt:j<n
  ·have j0:(j:Int)<(n:Int):=by omega
   have a6:=(Aaq w.heap.size b p wr N.cu N.bk N.og (wH hI.inv (by omega)).1 hI.par)
   obtain ⟨d0,d1,d2,d3,d4,d5,-,-,-,-,-,-⟩:=N.z;have HI:Hid (vT j b):=hI;have U:Hid (YW (w.heap.size+1) w.heap.size X w C D b p v rs wr):=N;have d6:Hid (∀ x,v.ownBlock=some x->Wq p x):=a9;have b9:Hid (∀ l ∈ rs,l.length<=400/\K3 l):=a8;unfold C5 at a6;clear hI N a9 a8;go_wp2_with fail
   refine a6.mono ?_;rintro e u5 ⟨l,rfl,h0,g9,c5,g5⟩;have q5:Hid (YW (w.heap.size+1) w.heap.size X w C D b p v rs u5):=U.o.call c5 g5;have L:Hid (l.length<=400/\K3 l):=⟨h0,g9⟩;clear d0 d1 d2 d3 d4 d5 h0 g9 c5 g5 U a6
   have i9:X+1<=u5.heap.size:=by have:=Z6.lt q5.o.z;omega
   go_wp2_with (at_builtin;refine wpList_append_own _ rfl (.tmp 35) (.tmp 37) 23 rfl (X+1) 9 i0 (.string ⟨#[]⟩) 1 16 underlying23 hi j4 j5 j6 rfl (by decide) _ _ _ rfl (q5.o.own.alloc _) ⟨u5.heap.size,0,none⟩ 1 1 [.string ⟨l.toArray⟩] rfl rfl (World.news_of_block (heap_alloc_new u5 _)) (Rf _) (by unfold maxLen;omega) (by omega) (by simp;omega) ?_;intro v6 w6 o6 g6 _;have q6:Hid (YW (w.heap.size+1) w.heap.size X w C D b p v6 (rs++[l]) w6):=(q5.o.below (bR.alloc nL _)).app d6.o g6 (by rw [List.length_append,F6];exact o6);obtain ⟨d0,d1,d2,d3,d4,d5,-,-,-,-,-,-⟩:=q6.o.z;clear o6 g6 q5 i9)
   have a5:=Aew HI.o (by omega) p l w6 q6.o.bk (by have:=L.o.1;omega) L.o.2
   unfold C5 at a5;go_wp2_with fail
   refine a5.mono ?_;rintro e u7 ⟨A,d,code,rfl,g0,g4,b7,a7⟩;have q7:Hid (YW (w.heap.size+1) w.heap.size X w C D b p v6 (rs++[l]) (u7.alloc (.cells (qcB A d) 31))):=(q6.o.below b7).below (bR.alloc nL _);have g7:=g4.below ((Below.refl _ u7).alloc nL (.cells (qcB A d) 31));have q8:Hid _:=q7.o.put g7 a7 (Z6.lt q6.o.z);have i4:Hid (vT (j+1) A):=g0
   have i5:Hid (∀ x,v6.ownBlock=some x->Wq d x):=fun x hx=>K6 a7 (q6.o.own.lt x hx).2
   have c8:Hid (∀ r ∈ rs++[l],r.length<=400/\K3 r):=fun r T=>by
    rcases List.mem_append.1 T with T | T
    ·exact b9.o r T
    ·rw [List.mem_singleton.1 T];exact L.o
   obtain ⟨x0,x1,x2,x3,x4,x5,y0,y1,y2,y3,y4,y5⟩:=q7.o.z;clear g0 g4 b7 a7 g7 q7 q6 a5 d0 d1 d2 d3 d4 d5 d6 b9 L HI;go_wp2
   go_roundw
   case rel=>exact ⟨_,j+1,A,d,rs++[l],rfl,by omega,by go_num,by simp [h8],i4.o,c8.o,i5.o,q8.o⟩
   case measure=>simp [intOf];omega
  ·have j0:¬ (j:Int)<(n:Int):=by omega
   subst h8;obtain ⟨a4,c4,rfl,j1,-⟩:=Ov N.own;have U:Hid (YW (w.heap.size+1) w.heap.size X w C D b p (.slice a4 rs.length c4) rs wr):=N;clear N a9;go_wp2
   go_returns
   exact ⟨C,Z,D,a4,c4,rs,rfl,i7.o,i6.o,U.o.off,j1,(fun x hx=>by have h1:=U.o.aX x hx;have h2:=Z6.lt U.o.z;omega),G8 U.o.own nL,by omega,a8,U.o.be⟩
theorem Ach {y:Value} (h:NF E0 y):∃ t p,y=.iface t p:=by
 obtain ⟨w,g,j,hg,n⟩:=h
 simp only [aL,List.mem_cons,List.not_mem_nil,or_false] at hg
 rcases hg with rfl | rfl | rfl | rfl | rfl | rfl | rfl
 ·obtain ⟨t,a,h⟩:=j.eLine
  exact ⟨t,_,Option.some.inj (n.symm.trans h)⟩
 ·obtain ⟨t,a,h⟩:=j.eDay
  exact ⟨t,_,Option.some.inj (n.symm.trans h)⟩
 ·obtain ⟨t,a,h⟩:=j.eAuth
  exact ⟨t,_,Option.some.inj (n.symm.trans h)⟩
 ·obtain ⟨t,a,h⟩:=j.eCases
  exact ⟨t,_,Option.some.inj (n.symm.trans h)⟩
 ·obtain ⟨t,a,h⟩:=j.eCase
  exact ⟨t,_,Option.some.inj (n.symm.trans h)⟩
 ·obtain ⟨t,a,h⟩:=j.eMoney
  exact ⟨t,_,Option.some.inj (n.symm.trans h)⟩
 ·obtain ⟨t,a,h⟩:=j.eAct
  exact ⟨t,_,Option.some.inj (n.symm.trans h)⟩
theorem zE {b:Bk} {code:Int} {v:Value} (h:rY E0 b code v):(code=0/\v=.nilIface)\/∃ t p,v=.iface 170 (.agg #[.iface t p,qzI code]):=by
 rcases h with h | ⟨-,y,hy,rfl⟩
 ·exact .inl h
 ·refine .inr ?_
  split at hy
  ·obtain ⟨w,j,n⟩:=hy
   obtain ⟨t,a,h⟩:=j.eFull
   exact ⟨t,_,by rw [Option.some.inj (n.symm.trans h)]⟩
  ·obtain ⟨t,p,rfl⟩:=Ach hy
   exact ⟨t,p,rfl⟩
theorem Aac {b:Bk} {code:Int} {v:Value} (w:World) (h:rY E0 b code v) (hg:mU w):Calls prog 82 #[v] w fun e w'=>e=.returned (qzI code)/\BW w w':=by
 rcases zE h with ⟨rfl,rfl⟩ | ⟨t,p,rfl⟩
 ·exact Ack w
 ·exact Aat t p code w hg
def Aeo (b:Bk) (d:List UInt8) (w:World) (e:Ending) (w':World):Prop :=
 ∃ (r:Bk×Int) (q:Bp),D9 F0 b d r/\e=.returned (.tuple #[C5 r.1 q,qzI r.2])/\Gc w.heap.size r.1 q w'/\BW w w'
theorem xF (b:Bk) (p:Bp) (d:List UInt8) (w:World) (hx:Aq w b p) (m:JW b) (j:E0 w) (hg:mU w) (hl:d.length<1048576) :
  Calls prog 30 #[C5 b p,.string ⟨d.toArray⟩] w (Aeo b d w):=by
 obtain ⟨G,k⟩:∃ W,W=w.alloc (.cells (qcB b p) 31):=⟨_,rfl⟩;obtain ⟨W,hW⟩:∃ W,W=G.alloc (.cells qzB 31):=⟨_,rfl⟩
 have b1:BW w G:=by rw [k];exact bR.alloc nL _
 have b2:BW G W:=by rw [hW];exact bR.alloc nL _
 have bW:=next b1 b2
 have zX:Z6 w.heap.size (qzI b.today) (.slice p.o b.off.length p.oc) (.slice p.a b.az.length p.ac) (.slice p.c b.cs.length p.cc) (.slice p.l b.ls.length p.lc) (.slice p.g b.log.length p.gc) G:=by rw [k];exact Z6.new w _ _ _ _ _ _ _
 have D:Hid _:=zX.below b2;obtain ⟨X,hX⟩:∃ x,w.heap.size=x:=⟨_,rfl⟩;obtain ⟨R,hR⟩:∃ x,w.heap.size+1=x:=⟨_,rfl⟩
 have V:G.heap.size=R:=by rw [k,<- hR];simp
 have U:Hid (Z0 R W):=by rw [Hid,hW,<- V];exact Z6.new G _ _ _ _ _ _ _
 have f:Hid (R<W.heap.size):=U.o.lt
 have a9:Hid (w.heap.size<=R):=by rw [Hid,<- hR];omega
 have i:Hid (BW w W):=bW;have HE:Hid (E0 w):=j;have HG:Hid (mU w):=hg;have hP:=wQ m;have HP:Hid (Ej b):=hP;have HL:Hid (d.length<1048576):=hl
 have C:Hid (Calls prog 50 #[C5 b p] W (OpR b W)):=fF Yd b p W (hx.below bW) (by
  have h1:=m.jc.off;have h2:=m.jc.az;have h3:=m.jc.cs;have h4:=m.log;have h5:=(Dq m.jc.led).2.1
  exact ⟨by omega,by omega,by omega,by omega,by omega⟩) (fun a ha=>(m.jc.ref a ha).1) m.gl
 have O:Hid _:=k;have HW:Hid _:=hW;have HX:Hid _:=hX;have HR:Hid _:=hR;rw [hX] at D;unfold C5 at C ⊢;clear V k hW b1 b2 bW zX hX hR j hg hP hl m hx
 go_enter func30,ntmps30
 go_upto_region 1 with fail
 rw [<- O.o,<- HW.o,HR.o,HX.o];clear O HW HX HR;obtain ⟨x0,x1,x2,x3,x4,x5,-,-,-,-,-,-⟩:=D.o;go_wp2_with fail
 refine Calls.mono C.o ?_;rintro e I ⟨K,q,rfl,Y,p3⟩;have N:Hid (KS W.heap.size K 0 b q I):=Y;have s:Hid (BW w I):=next i.o p3;have S:Hid (Z0 R I):=U.o.below p3
 have M:Hid (Calls prog 83 #[.pointer (some (qzA K 0)),.string ⟨d.toArray⟩] I (pM E0 W.heap.size K F0 b d I)) :=
  iDo_any Yd (Nat.le_trans HE.o.size i.o.size) (fun b q ao cap rs w h1 h2 h3 h4 h5=>lZ Yd (Nat.le_trans HE.o.size i.o.size) b q ao cap rs w h1 h2 h3 h4 h5) b q d I N.o (dK _ _ HE.o (s.o.mono HE.o.size)) HP.o HL.o
 clear Y p3 C x0 x1 x2 x3 x4 x5 D;go_wp2_with fail
 refine Calls.mono M.o ?_;rintro e J ⟨r,F,v,hr,rfl,hv,Z,p4⟩;have B:Hid (KS W.heap.size K 0 r.1 F J):=Z;have T:Hid (Z0 R J):=S.o.under p4.b f.o;have u:Hid (BW w J):=s.o.trans (p4.b.mono i.o.size);have a8:Hid (D9 F0 b d r):=hr
 have z:Hid (Calls prog 82 #[v] J fun e w'=>e=.returned (qzI r.2)/\BW J w'):=Aac J hv (HG.o.below u.o)
 clear Z p4 hr hv M N s S;obtain ⟨H,code⟩:=r
 simp only at B z
 go_wp2_with fail
 refine Calls.mono z.o ?_;rintro e L ⟨rfl,p5⟩;have a6:Hid (KS W.heap.size K 0 H F L):=B.o.below p5;have b0:Hid (Z0 R L):=T.o.below p5;have a4:Hid (BW w L):=next u.o p5
 have A:Hid (Calls prog 52 #[.pointer (some (qzA K 0))] L fun e w'=>e=.returned (C5 H F)/\KS W.heap.size K 0 H F w'/\Below W.heap.size L w'):=eG H F L a6.o
 unfold C5 at A;clear p5 z B T u;go_wp2_with fail
 refine Calls.mono A.o ?_;rintro e w6 ⟨rfl,a3,p6⟩;have a7:Hid (KS W.heap.size K 0 H F w6):=a3;have b3:Hid (Z0 R w6):=b0.o.under p6 f.o;have a5:Hid (BW w w6):=a4.o.trans (p6.mono i.o.size);clear a3 p6 A;obtain ⟨t0,t1,t2,t3,t4,t5,s0,s1,s2,s3,s4,s5⟩:=b3.o;go_wp2
 refine bodyPost_ret (by simp [results,results30,go_sem,t0,t1,t2,t3,t4,t5];try rfl) rfl ?_
 have o5:=a7.o.own5;exact ⟨(H,code),F,a8.o,rfl,(Gc.mk (Ea o5.off f.o _ _ _ _ _ _) (Ea o5.az f.o _ _ _ _ _ _) (Ea o5.cs f.o _ _ _ _ _ _) (Ea o5.ls f.o _ _ _ _ _ _) (Ea o5.log f.o _ _ _ _ _ _)).low i.o.size,Ax a9.o a5.o _ _ _ _ _ _⟩
structure TT (X5 X7:Nat) (w:World) (f:Option Addr) (d:List Int) (a2:Option Addr) (rs:Be) (z A:Bk) (p t:Bp) (u:World):Prop where
 z5:Z6b X5 z p u
 z7:Z6b X7 A t u
 k5:Aq u z p
 k7:Aq u A t
 o57:Wq p X7
 o75:Wq t X5
 tx:Bh u a2 rs
 off:Aw u f d
 t5:Im a2 X5
 t7:Im a2 X7
 f5:Im f X5
 f7:Im f X7
 hb:BW w u
 h5:w.heap.size<=X5
 h7:w.heap.size<=X7
 n57:X5≠X7
theorem TT.below {X5 X7:Nat} {w:World} {f:Option Addr} {d:List Int} {a2:Option Addr} {rs:Be} {z A:Bk} {p t:Bp} {u u':World} (h:TT X5 X7 w f d a2 rs z A p t u) (k:BW u u'):TT X5 X7 w f d a2 rs z A p t u' :=
 ⟨Z6.below h.z5 k,Z6.below h.z7 k,h.k5.below k,h.k7.below k,h.o57,h.o75,h.tx.below k,h.off.below k,h.t5,h.t7,h.f5,h.f7,next h.hb k,h.h5,h.h7,h.n57⟩
theorem wB {u:World} {a:Option Addr} {rs:Be} {R:Nat} (h:Bh u a rs) (n:Im a R) (T U V W X Y:Value) :
  Bh ((((((u.setCell (qzA R 0) T).setCell (qzA R 1) U).setCell (qzA R 2) V).setCell (qzA R 3) W).setCell (qzA R 4) X).setCell (qzA R 5) Y) a rs:=by
 have s:∀ (v:World) (i:Nat) (x:Value),Bh v a rs->Bh (v.setCell (qzA R i) x) a rs:=fun v i x hv=>hv.far (An _ _ _ _) (fun Q hQ=>by cases hQ;exact n)
 exact s _ _ _ (s _ _ _ (s _ _ _ (s _ _ _ (s _ _ _ (s _ _ _ h)))))
theorem fQ {u:World} {a:Option Addr} {d:List Int} {R:Nat} (h:Aw u a d) (n:Im a R) (T U V W X Y:Value) :
  Aw ((((((u.setCell (qzA R 0) T).setCell (qzA R 1) U).setCell (qzA R 2) V).setCell (qzA R 3) W).setCell (qzA R 4) X).setCell (qzA R 5) Y) a d:=by
 have s:∀ (v:World) (i:Nat) (x:Value),Aw v a d->Aw (v.setCell (qzA R i) x) a d:=fun v i x hv=>hv.far (An _ _ _ _) (fun Q hQ=>by cases hQ;exact n)
 exact s _ _ _ (s _ _ _ (s _ _ _ (s _ _ _ (s _ _ _ (s _ _ _ h)))))
theorem TT.put5 {X5 X7 n:Nat} {w:World} {f:Option Addr} {d:List Int} {a2:Option Addr} {rs:Be} {z A c:Bk} {p t r:Bp} {u:World} (h:TT X5 X7 w f d a2 rs z A p t u) (S:Aq u c r) (J:FrB r n) (N:X5<n) (O:X7<n) :
  TT X5 X7 w f d a2 rs c A r t ((((((u.setCell (qzA X5 0) (qzI c.today)).setCell (qzA X5 1) (.slice r.o c.off.length r.oc)).setCell (qzA X5 2) (.slice r.a c.az.length r.ac)).setCell (qzA X5 3) (.slice r.c c.cs.length r.cc)).setCell (qzA X5 4) (.slice r.l c.ls.length r.lc)).setCell (qzA X5 5) (.slice r.g c.log.length r.gc)) :=
 ⟨Z6.put6 h.z5 _ _ _ _ _ _,Z6.far6 h.z7 h.n57 _ _ _ _ _ _,S.put6 (K6 J N) _ _ _ _ _ _,h.k7.put6 h.o75 _ _ _ _ _ _,K6 J O,h.o75,wB h.tx h.t5 _ _ _ _ _ _,fQ h.off h.f5 _ _ _ _ _ _,h.t5,h.t7,h.f5,h.f7,Ax h.h5 h.hb _ _ _ _ _ _,h.h5,h.h7,h.n57⟩
theorem TT.put7 {X5 X7 n:Nat} {w:World} {f:Option Addr} {d:List Int} {a2:Option Addr} {rs:Be} {z A c:Bk} {p t r:Bp} {u:World} (h:TT X5 X7 w f d a2 rs z A p t u) (S:Aq u c r) (J:FrB r n) (N:X5<n) (O:X7<n) :
  TT X5 X7 w f d a2 rs z c p r ((((((u.setCell (qzA X7 0) (qzI c.today)).setCell (qzA X7 1) (.slice r.o c.off.length r.oc)).setCell (qzA X7 2) (.slice r.a c.az.length r.ac)).setCell (qzA X7 3) (.slice r.c c.cs.length r.cc)).setCell (qzA X7 4) (.slice r.l c.ls.length r.lc)).setCell (qzA X7 5) (.slice r.g c.log.length r.gc)) :=
 ⟨Z6.far6 h.z5 (Ne.symm h.n57) _ _ _ _ _ _,Z6.put6 h.z7 _ _ _ _ _ _,h.k5.put6 h.o57 _ _ _ _ _ _,S.put6 (K6 J O) _ _ _ _ _ _,h.o57,K6 J N,wB h.tx h.t7 _ _ _ _ _ _,fQ h.off h.f7 _ _ _ _ _ _,h.t5,h.t7,h.f5,h.f7,Ax h.h7 h.hb _ _ _ _ _ _,h.h5,h.h7,h.n57⟩
theorem Ab1 {w G m D:World} {f C H a2:Option Addr} {c5 c7:Nat} {d:List Int} {rs:Be} {y:Int} (Z:BW w G) (tx:Bh G a2 rs) (off:Aw G f d) (ga:Dt a2 G.heap.size) (gf:Dt f G.heap.size)
  (o5:m.ownsRow G.heap.size 3 1 (.slice C d.length c5) d.length (d.map (Value.int .i64))) (B2:BW G m)
  (o7:D.ownsRow (m.alloc (.cells #[qzI y,.slice C d.length c5,.slice none 0 0,.slice none 0 0,.slice none 0 0,.slice none 0 0] 31)).heap.size 3 1 (.slice H d.length c7) d.length (d.map (Value.int .i64)))
  (B3:Below (m.alloc (.cells #[qzI y,.slice C d.length c5,.slice none 0 0,.slice none 0 0,.slice none 0 0,.slice none 0 0] 31)).heap.size (m.alloc (.cells #[qzI y,.slice C d.length c5,.slice none 0 0,.slice none 0 0,.slice none 0 0,.slice none 0 0] 31)) D) :
  TT m.heap.size D.heap.size w f d a2 rs ⟨y,d,[],[],[],[]⟩ ⟨y,d,[],[],[],[]⟩ ⟨C,c5,none,0,none,0,none,0,none,0⟩ ⟨H,c7,none,0,none,0,none,0,none,0⟩ (D.alloc (.cells #[qzI y,.slice H d.length c7,.slice none 0 0,.slice none 0 0,.slice none 0 0,.slice none 0 0] 31)):=by
 have bA:Below m.heap.size m (m.alloc (.cells #[qzI y,.slice C d.length c5,.slice none 0 0,.slice none 0 0,.slice none 0 0,.slice none 0 0] 31)):=bR.alloc nL _;have bB:Below D.heap.size D (D.alloc (.cells #[qzI y,.slice H d.length c7,.slice none 0 0,.slice none 0 0,.slice none 0 0,.slice none 0 0] 31)):=bR.alloc nL _;have z5:=Z6.new m (qzI y) (.slice C d.length c5) (.slice none 0 0) (.slice none 0 0) (.slice none 0 0) (.slice none 0 0) 31;have z7:=Z6.new D (qzI y) (.slice H d.length c7) (.slice none 0 0) (.slice none 0 0) (.slice none 0 0) (.slice none 0 0) 31
 have s0:(m.alloc (.cells #[qzI y,.slice C d.length c5,.slice none 0 0,.slice none 0 0,.slice none 0 0,.slice none 0 0] 31)).heap.size=m.heap.size+1:=by simp
 have s1:=Z.size;have s2:=B2.size;have s3:=B3.size
 have j:∀ B',Im none B':=fun B' x hx=>by cases hx
 have I:=next bA B3;have F:=next B2 I;have i5:=uS o5;have i7:=uS o7;have L:Dt C m.heap.size:=G8 o5 nL
 have M:Cm H (m.heap.size+1):=by rw [<- s0];exact Cw o7
 exact ⟨Z6.below (Z6.below z5 B3) bB,z7,⟨i5.below (next I bB),.inl rfl,.inl rfl,.inl rfl,.inl rfl⟩,⟨i7.below bB,.inl rfl,.inl rfl,.inl rfl,.inl rfl⟩,⟨Td L (by omega),j _,j _,j _,j _⟩,⟨Bb M (by omega),j _,j _,j _,j _⟩,
  tx.below (next F bB),off.below (next F bB),Td ga (by omega),Td ga (by omega),Td gf (by omega),Td gf (by omega),next (next Z F) bB,by omega,by omega,by omega⟩
theorem Acp {w:World} {f:Option Addr} {rs:Be} (h:Bh w f rs) {i:Nat} (hi:i<rs.length):∃ g off,f=some (qzA g off)/\w.cell? (qzA g (off+i))=some (.string ⟨(Al rs i).toArray⟩):=by
 rcases h with h | ⟨g,off,h1,h2,h3⟩
 ·rw [h] at hi;simp at hi
 ·exact ⟨g,off,h1,h3 i hi⟩
theorem xP {B:Nat} {b:Bk} {q:Bp} {u:World} (h:Gc B b q u):FrB q B:=⟨Cw h.off,Cw h.az,Cw h.cs,Cw h.ls,Cw h.log⟩
theorem yT {w:World} {f:Option Addr} {rs:Be} {y:List UInt8} (h:Bh w f (rs++[y])):(∃ g off,f=some (qzA g off))/\Bh w f rs:=by
 rcases h with h | ⟨g,off,X,h2,h3⟩
 ·simp at h
 ·refine ⟨⟨g,off,X⟩,.inr ⟨g,off,X,h2,fun i hi=>?_⟩⟩
  have e:=h3 i (by simp;omega)
  rw [show Al (rs++[y]) i=Al rs i from by simp only [Al,List.getD_eq_getElem?_getD,List.getElem?_append_left hi]] at e
  exact e
theorem xZ {g off n:Nat} (W:World):(Instr.slice 23 (.slice (some (qzA g off)) (n+1) (n+1)) none (some (qzI n)) none).run prog W=.ok (.slice (some (qzA g off)) n (n+1)) W:=by
 rw [run_slice_h W _ _ _ _ cU .i64 _ (by omega) (by omega),aG,kX]
 simp [Result.andThen,sliced,Addr.add]
theorem Abp (l:List UInt8):(Y9 l).length=(linesN l).length+1:=by simp [Y9,linesN]
theorem Aa2 (t:Int) (f:Option Addr) (c:Nat) (zs:List Int) (l:List UInt8) (w:World) (hx:Aw w f zs) (hn:zs.length<=1048576) (hl:l.length<=1048576) (T:E0 w) :
  Calls prog 23 #[qzI t,.slice f zs.length c,.string ⟨l.toArray⟩] w (AlR t zs (linesN l) w):=by
 obtain ⟨R,U⟩:∃ R,w.heap.size=R:=⟨_,rfl⟩;obtain ⟨W,G⟩:∃ W,W=w.alloc (.cells qzB 31):=⟨_,rfl⟩
 have x:Hid (BW w W):=by rw [Hid,G];exact bR.alloc nL _
 have s:Hid (Z0 R W):=by rw [Hid,G,<- U];exact Z6.new w _ _ _ _ _ _ _
 have a3:Hid (R<W.heap.size):=s.o.lt;have p:Hid (E0 W):=dK _ _ T (x.o.mono T.size)
 have C:Hid (Calls prog 66 #[.string ⟨l.toArray⟩,.string ⟨#[10]⟩] W fun e w'=>∃ a,e=.returned (.slice a (Y9 l).length (Y9 l).length)/\Bh w' a (Y9 l)/\BW W w'):=by
  obtain ⟨m,hm⟩:=p.o.max;exact Adr l m W hl hm
 have N:Hid (∀ r ∈ linesN l,r.length<1048576):=fun r hr=>by have:=wN l r hr;omega
 have z:Hid ((linesN l).length<=1048576):=by have:=zJ l;rw [Hid];omega
 have HX:Hid (Aw w f zs):=hx;have J:Hid (Y9 l=linesN l++[Aes l]):=rfl;have I:Hid ((Y9 l).length=(linesN l).length+1):=Abp l;have B:Hid _:=U;have O:Hid _:=G;clear hx T U G hl
 go_enter func23,ntmps23
 go_wp2_with fail
 rw [<- O.o,B.o];refine Calls.mono C.o ?_;rintro e j ⟨a,rfl,v,H⟩;rw [J.o] at v;rw [I.o];obtain ⟨⟨g,off,rfl⟩,hz⟩:=yT v;have k:Hid (BW w j):=next x.o H;have D:Hid (Z0 R j):=s.o.below H;have M:Hid (E0 j):=dK _ _ p.o (H.mono p.o.size);have d:Hid (R<j.heap.size):=D.o.lt;have b:Hid (Calls prog 14 #[qzI t,.slice f zs.length c,.slice (some (qzA g off)) (linesN l).length ((linesN l).length+1)] j (AlR t zs (linesN l) j)):=Acm t f c zs _ _ (linesN l) j (HX.o.below k.o) hn hz z.o N.o M.o;obtain ⟨n,u⟩:∃ n,(linesN l).length=n:=⟨_,rfl⟩;have a5:=xZ (g:=g) (off:=off) (n:=n)
 have a4:n<=1048576:=by rw [<- u];exact z.o
 rw [u] at b ⊢;clear hz v H C s u;go_wp2_with fail
 refine Calls.mono b.o ?_;rintro e V ⟨F,m,q,rfl,Y,Z,o2,p2⟩;unfold C5;have A:Hid (Gc j.heap.size F q V):=o2;have L:Hid (BW w V):=next k.o p2;have S:Hid (Z0 R V):=D.o.below p2;have HA:Hid (cT t zs (linesN l) F m):=Y;have HJ:Hid (JW F):=Z;clear o2 p2 Y Z b;obtain ⟨t0,t1,t2,t3,t4,t5,s0,s1,s2,s3,s4,s5⟩:=S.o;go_wp2
 refine bodyPost_ret (by simp [results,results23,go_sem,t0,t1,t2,t3,t4,t5];try rfl) rfl ?_
 have bel:=Ax (R:=R) (by rw [B.o];exact nL) L.o
 exact ⟨F,m,q,rfl,HA.o,HJ.o,(Gc.mk (Ea A.o.off d.o _ _ _ _ _ _) (Ea A.o.az d.o _ _ _ _ _ _) (Ea A.o.cs d.o _ _ _ _ _ _) (Ea A.o.ls d.o _ _ _ _ _ _) (Ea A.o.log d.o _ _ _ _ _ _)).low k.o.size,bel _ _ _ _ _ _⟩
theorem Abn (w:World):Calls prog 46 #[] w fun e w'=>∃ g,e=.returned (.slice (some (qzA g 0)) 3 3)/\(∀ k,k<3->∃ x:Int,w'.cell? (qzA g k)=some (qzI x))/\BW w w':=by
 have bel:Below w.heap.size w (w.alloc (.cells #[qzI 840,qzI 978,qzI 392] 3)):=bR.alloc nL _
 go_enter func46,ntmps46
 go_wp2;go_ret
 exact ⟨w.heap.size,rfl,fun k hk=>⟨_,uA w [840,978,392] #[qzI 840,qzI 978,qzI 392] rfl k hk⟩,bel⟩
theorem Aef (a:Option Addr) (len cap:Nat) (zs:List Int) (w:World) (hr:pZ .u8 w a len cap zs) (hE:E0 w) (hg:mU w) :
  Calls prog 9 #[.slice a len cap] w fun e w'=>e=.returned (.bool true)/\BW w w':=by
 by_cases hbig:(1048576:Int)<(len:Int)
 ·have g8:decide ((1048576:Int)<(len:Int))=true:=decide_eq_true hbig
  clear hE hg
  go_enter func9,ntmps9
  go_wp2_with fail
  refine (zY _ _ _ _).mono ?_;rintro e w1 ⟨rfl,j4⟩;rw [j4,g8];clear j4;go_wp2;go_ret;exact ⟨rfl,bR⟩
 have hn:len<=1048576:=by omega
 have g8:decide ((1048576:Int)<(len:Int))=false:=decide_eq_false hbig;have HE:Hid (E0 w):=hE;have HG:Hid (mU w):=hg;clear hE hg
 go_enter func9,ntmps9
 go_wp2_with fail
 refine (zY _ _ _ _).mono ?_;rintro e w1 ⟨rfl,j4⟩;rw [j4,g8];clear j4 w1 g8 hbig;go_wp2_with fail
 refine (yL _ _ _ _ _ hr hn).mono ?_;rintro e u1 ⟨D,c,t,a2,c2,rs,rfl,j2,v7,hx,ht,gf,ga,u9,j1,p1⟩;have n2:Hid (R2 9000 t=true):=j2;have n5:Hid (t.length<=6):=v7;have n4:Hid (Aw u1 D t):=hx;have t0:Hid (Bh u1 a2 rs):=ht;have s0:Hid (Dt D u1.heap.size):=gf;have r9:Hid (Dt a2 u1.heap.size):=ga;have s9:Hid (rs.length<=60):=u9;have s1:Hid (∀ l ∈ rs,l.length<=400/\K3 l):=j1;have B1:Hid (BW w u1):=p1;have q0:bsT 9000 t=9000:=if_pos j2;have p9:bsL 9000 t=t:=if_pos j2
 have b1:=vA 9000 D c t u1 hx (by omega)
 unfold BsR at b1;rw [q0,p9,j2] at b1
 have h9:Hid (∀ u,BW u1 u->Calls prog 45 #[qzI 9000,.slice D t.length c] u (BsR u 9000 t)):=fun u h=>vB 9000 D c t u (n4.o.below h) (by have:=n5.o;omega)
 have w0:Hid (bsT 9000 t=9000):=q0;have v9:Hid (bsL 9000 t=t):=p9;clear hr hn j2 v7 hx ht gf ga u9 j1 p1 q0 p9;go_wp2_with fail
 refine Calls.mono b1 ?_;rintro e u2 ⟨a5,c5,rfl,o5,p2⟩;unfold bk0;have O5:Hid _:=o5;have P2:Hid (BW u1 u2):=p2;obtain ⟨W2,n9⟩:∃ W,W=u2.alloc (.cells #[qzI 9000,.slice a5 t.length c5,.slice none 0 0,.slice none 0 0,.slice none 0 0,.slice none 0 0] 31):=⟨_,rfl⟩
 have i0:=h9.o W2 (next p2 (by rw [n9];exact bR.alloc nL _))
 unfold BsR at i0;rw [w0.o,v9.o,n2.o] at i0;obtain ⟨X5,t2⟩:∃ X,u2.heap.size=X:=⟨_,rfl⟩;have m7:Hid _:=n9;have m8:Hid _:=t2;clear o5 p2 n9 t2 b1 h9;go_upto_region 5 with fail
 rw [<- m7.o,m8.o];go_wp2_with fail
 refine Calls.mono i0 ?_;rintro e u3 ⟨a7,c7,rfl,o7,p3⟩;unfold bk0
 have j9:Hid (TT u2.heap.size u3.heap.size w D t a2 rs (G4 9000 t) (G4 9000 t) ⟨a5,c5,none,0,none,0,none,0,none,0⟩ ⟨a7,c7,none,0,none,0,none,0,none,0⟩ (u3.alloc (.cells #[qzI 9000,.slice a7 t.length c7,.slice none 0 0,.slice none 0 0,.slice none 0 0,.slice none 0 0] 31))):=by
  have h1:=O5.o;have h2:=P2.o;rw [m7.o] at o7 p3;exact Ab1 B1.o t0.o n4.o r9.o s0.o h1 h2 o7 p3
 rw [m8.o] at j9;obtain ⟨W3,o6⟩:∃ W,W=u3.alloc (.cells #[qzI 9000,.slice a7 t.length c7,.slice none 0 0,.slice none 0 0,.slice none 0 0,.slice none 0 0] 31):=⟨_,rfl⟩;obtain ⟨X7,o9⟩:∃ X,u3.heap.size=X:=⟨_,rfl⟩;rw [o9,<- o6] at j9;have r3:Hid _:=o6;have r5:Hid _:=o9;have s2:Hid (wT t 0 (G4 9000 t)):=yS n2.o n5.o;clear o7 p3 o6 o9 O5 P2 m7 m8 i0;go_upto_region 6 with fail
 rw [<- r3.o,r5.o];clear r3 r5 n4 t0 s0 r9 B1;obtain ⟨m,hm⟩:∃ m,rs.length=m:=⟨_,rfl⟩;have HM:Hid (rs.length=m):=hm
 have u4:m<=60:=by have:=s9.o;omega
 rw [hm];clear hm;go_upto_region 8 with fail
 go_wp2
 go_loopw [9] (fun i wr=>∃ (j:Nat) (b:Bk) (r v:Bp),j<=m/\i=qzI (j:Int)/\wT t j b/\TT X5 X7 w D t a2 rs b b r v wr) (fun i _=>m - (intOf i).toNat)
 case atStart=>exact ⟨0,_,_,_,Nat.zero_le _,rfl,s2.o,j9.o⟩
 case round =>
  obtain ⟨j,b,r,v,y6,rfl,hit,v0⟩:=hrel;have I:Hid (wT t j b):=hit;have HQ:Hid (TT X5 X7 w D t a2 rs b b r v wr):=v0;clear hit v0 s2 j9
  by_cases hlt:j<m
  ·have t6:(j:Int)<(m:Int):=by omega
   have t8:j<rs.length:=by rw [HM.o];exact hlt
   obtain ⟨gb,off,B3,M⟩:=Acp HQ.o.tx t8;have q4:gb<wr.heap.size:=World.block_lt_of_cell? wr _ M;subst B3;have g9:Hid ((Al rs j).length<=400/\K3 (Al rs j)):=s1.o _ (F7 t8);obtain ⟨ln,t9⟩:∃ x,Al rs j=x:=⟨_,rfl⟩;rw [t9] at M g9
   have w8:Hid (¬ jE (Ab ln)):=fun h=>(g9.o.2.1 h.1).1 h.2
   have n0:Hid (∀ u,BW wr u->Calls prog 30 #[.agg (qcB b r),.string ⟨ln.toArray⟩] u (Aeo b ln u)):=fun u h=>xF b r ln u (HQ.o.k5.below h) I.o.j.jw (dK _ _ HE.o ((next HQ.o.hb h).mono HE.o.size)) (HG.o.below (next HQ.o.hb h)) (by have:=g9.o.1;omega)
   have b4:Hid (∀ u,BW wr u->u.cell? (qzA X5 0)=some (qzI b.today)/\u.cell? (qzA X5 1)=some (.slice r.o b.off.length r.oc)/\u.cell? (qzA X5 2)=some (.slice r.a b.az.length r.ac)/\u.cell? (qzA X5 3)=some (.slice r.c b.cs.length r.cc)/\u.cell? (qzA X5 4)=some (.slice r.l b.ls.length r.lc)/\u.cell? (qzA X5 5)=some (.slice r.g b.log.length r.gc)/\u.cell? (qzA gb (off+j))=some (.string ⟨ln.toArray⟩)):=fun u h=>by
    have z:=Z6.below HQ.o.z5 h;exact ⟨z.c0,z.c1,z.c2,z.c3,z.c4,z.c5,(h.cell (p:=(qzA gb (off+j))) q4).trans M⟩
   have k0:BW wr wr:=bR;have s4:Hid (BW wr wr.drew):=bR.drew;have s5:Hid (Below wr.heap.size wr (wr.alloc (.cells qzB 31)).drew):=((Below.refl wr.heap.size wr).alloc nL _).drew;have w7:Hid (wr.cell? (qzA gb (off+j))=some (.string ⟨ln.toArray⟩)):=M;have s3:Hid (gb<wr.heap.size):=q4;clear t9 M q4;go_upto_region 11 with fail
   go_cut [10,11] (fun k8 r2 wc=>∃ (Y:Nat) (d:Bk) (f:Bp) (code:Int),k8=.pointer (some (qzA Y 0))/\r2=qzI code/\D9 F0 b ln (d,code)/\ZQ Y d f wc/\Aq wc d f/\FrB f wr.heap.size/\BW wr wc/\wr.heap.size<=Y)
   case first =>
    go_region_held3 (fun u=>u.cell? (qzA X5 0)=some (qzI b.today)/\u.cell? (qzA X5 1)=some (.slice r.o b.off.length r.oc)/\u.cell? (qzA X5 2)=some (.slice r.a b.az.length r.ac)/\u.cell? (qzA X5 3)=some (.slice r.c b.cs.length r.cc)/\u.cell? (qzA X5 4)=some (.slice r.l b.ls.length r.lc)/\u.cell? (qzA X5 5)=some (.slice r.g b.log.length r.gc)/\u.cell? (qzA gb (off+j))=some (.string ⟨ln.toArray⟩)) (first | with_reducible exact b4.o _ a8 | with_reducible exact b4.o _ k0 | with_reducible exact b4.o _ k0.drew | with_reducible exact b4.o _ (k0.alloc nL _) | with_reducible exact b4.o _ ((k0.alloc nL _).drew) | with_reducible exact b4.o _ (a8.alloc a8.size _) | with_reducible exact b4.o _ (Ax nL a8 _ _ _ _ _ _)) ((first
     | (go_at_call 30;(with_reducible refine Calls.mono (n0.o wr.drew s4.o) ?_);rintro e u2 ⟨⟨d,code⟩,f,a4,rfl,j3,bb⟩;have a8:BW wr u2:=Below.trans ((Below.refl wr.heap.size wr).drew) bb;unfold C5;simp only)
     | (go_at_call 30;(with_reducible refine Calls.mono (n0.o (wr.alloc (.cells qzB 31)).drew s5.o) ?_);rintro e u2 ⟨⟨d,code⟩,f,a4,rfl,j3,bb⟩;obtain ⟨b6,a8⟩:=nZ bb;have n7:Hid _:=b6;obtain ⟨g0,g1,g2,g3,g4,g5,m0,m1,m2,m3,m4,m5⟩:=b6;unfold C5;simp only)))
    ·go_wp2_with fail
     go_meet;have h1:=a8.alloc a8.size (.cells (qcB d f) 31);have J:=xP j3;exact ⟨u2.heap.size,d,f,code,rfl,rfl,a4,Z6.new u2 _ _ _ _ _ _ _,j3.at.below (bR.alloc nL _),⟨J.o,J.a,J.c,J.l,J.g⟩,h1,a8.size⟩
    ·go_wp2_with fail
     go_meet
     have B:FrB f (wr.heap.size+1):=by simpa using xP j3
     exact ⟨wr.heap.size,d,f,code,rfl,rfl,a4,(((((n7.o.set0 _).set1 _).set2 _).set3 _).set4 _).set5 _,j3.at.put6 (Q4 B (Nat.lt_succ_self _)) _ _ _ _ _ _,⟨Ey B.o (Nat.le_succ _),Ey B.a (Nat.le_succ _),Ey B.c (Nat.le_succ _),Ey B.l (Nat.le_succ _),Ey B.g (Nat.le_succ _)⟩,Ax nL a8 _ _ _ _ _ _,nL⟩
   case rest =>
    obtain ⟨U,hU⟩:∃ x,x=wc:=⟨_,rfl⟩;subst hU;obtain ⟨Y,d,f,code,rfl,rfl,a4,b6,i1,J,k3,v4⟩:=hcut;have n1:Hid (D9 F0 b ln (d,code)):=a4;have l4:Hid (ZQ Y d f U):=b6;have l2:Hid (Aq U d f):=i1;have l1:Hid (FrB f wr.heap.size):=J;have r8:Hid (BW wr U):=k3;have D2:Hid (wr.heap.size<=Y):=v4;have j7:Hid (TT X5 X7 w D t (some (qzA gb off)) rs b b r v U):=HQ.o.below k3;have H:Hid (X5<wr.heap.size):=Z6.lt HQ.o.z5;have g7:Hid (X7<wr.heap.size):=Z6.lt HQ.o.z7;have b5:Hid (wr.heap.size<=U.heap.size):=k3.size
    have i2:Hid (∀ u,BW U u->Calls prog 31 #[.agg (qcB b v),.string ⟨ln.toArray⟩] u (BoF Fu b ln u)):=fun u h=>T5 lO b v ln u (j7.o.k7.below h) (wH I.o.j.inv (by omega)) (by have:=g9.o.1;omega)
    have F:Hid (∀ u,BW U u->u.cell? (qzA X7 0)=some (qzI b.today)/\u.cell? (qzA X7 1)=some (.slice v.o b.off.length v.oc)/\u.cell? (qzA X7 2)=some (.slice v.a b.az.length v.ac)/\u.cell? (qzA X7 3)=some (.slice v.c b.cs.length v.cc)/\u.cell? (qzA X7 4)=some (.slice v.l b.ls.length v.lc)/\u.cell? (qzA X7 5)=some (.slice v.g b.log.length v.gc)/\u.cell? (qzA gb (off+j))=some (.string ⟨ln.toArray⟩)):=fun u h=>by
     have z:=Z6.below j7.o.z7 h;exact ⟨z.c0,z.c1,z.c2,z.c3,z.c4,z.c5,(h.cell (p:=(qzA gb (off+j))) (Nat.lt_of_lt_of_le s3.o r8.o.size)).trans ((r8.o.cell (p:=(qzA gb (off+j))) s3.o).trans w7.o)⟩
    have u0:BW U U:=bR;have s6:Hid (BW U U.drew):=bR.drew;have s7:Hid (Below U.heap.size U (U.alloc (.cells qzB 31)).drew):=((Below.refl U.heap.size U).alloc nL _).drew;clear a4 b6 i1 J k3 v4 n0 b4 s4 s5 k0;go_upto_region 12 with fail
    go_cut [12,13] (fun v12 v13 wc=>∃ (Y2:Nat) (b3:Bk) (q:Bp) (sO:Int),v12=.pointer (some (qzA Y2 0))/\v13=qzI sO/\Fg Fu b ln (b3,sO)/\ZQ Y2 b3 q wc/\Aq wc b3 q/\FrB q U.heap.size/\BW U wc/\U.heap.size<=Y2)
    case first =>
     go_region_held3 (fun u=>u.cell? (qzA X7 0)=some (qzI b.today)/\u.cell? (qzA X7 1)=some (.slice v.o b.off.length v.oc)/\u.cell? (qzA X7 2)=some (.slice v.a b.az.length v.ac)/\u.cell? (qzA X7 3)=some (.slice v.c b.cs.length v.cc)/\u.cell? (qzA X7 4)=some (.slice v.l b.ls.length v.lc)/\u.cell? (qzA X7 5)=some (.slice v.g b.log.length v.gc)/\u.cell? (qzA gb (off+j))=some (.string ⟨ln.toArray⟩)) (first | with_reducible exact F.o _ a9 | with_reducible exact F.o _ u0 | with_reducible exact F.o _ u0.drew | with_reducible exact F.o _ (u0.alloc nL _) | with_reducible exact F.o _ ((u0.alloc nL _).drew) | with_reducible exact F.o _ (a9.alloc a9.size _) | with_reducible exact F.o _ (Ax nL a9 _ _ _ _ _ _)) ((first
      | (go_at_call 31;(with_reducible refine Calls.mono (i2.o U.drew s6.o) ?_);rintro e u3 ⟨⟨b3,sO⟩,q,a4,rfl,i1,bb,J⟩;have a9:BW U u3:=Below.trans ((Below.refl U.heap.size U).drew) bb;unfold C5;simp only)
      | (go_at_call 31;(with_reducible refine Calls.mono (i2.o (U.alloc (.cells qzB 31)).drew s7.o) ?_);rintro e u3 ⟨⟨b3,sO⟩,q,a4,rfl,i1,bb,J⟩;obtain ⟨b6,a9⟩:=nZ bb;have n7:Hid _:=b6;obtain ⟨g0,g1,g2,g3,g4,g5,m0,m1,m2,m3,m4,m5⟩:=b6;unfold C5;simp only)))
     ·go_wp2_with fail
      go_meet;have h1:=a9.alloc a9.size (.cells (qcB b3 q) 31)
      have B:FrB q U.heap.size:=by simpa using J
      exact ⟨u3.heap.size,b3,q,sO,rfl,rfl,a4,Z6.new u3 _ _ _ _ _ _ _,i1.below (bR.alloc nL _),B,h1,a9.size⟩
     ·go_wp2_with fail
      go_meet
      have B:FrB q (U.heap.size+1):=by simpa using J
      exact ⟨U.heap.size,b3,q,sO,rfl,rfl,a4,(((((n7.o.set0 _).set1 _).set2 _).set3 _).set4 _).set5 _,i1.put6 (Q4 B (Nat.lt_succ_self _)) _ _ _ _ _ _,⟨Ey B.o (Nat.le_succ _),Ey B.a (Nat.le_succ _),Ey B.c (Nat.le_succ _),Ey B.l (Nat.le_succ _),Ey B.g (Nat.le_succ _)⟩,Ax nL a9 _ _ _ _ _ _,nL⟩
    case rest =>
     obtain ⟨V,hV⟩:∃ x,x=wc:=⟨_,rfl⟩;subst hV;obtain ⟨Y2,b3,q,sO,rfl,rfl,b0,m6,l5,l7,k4,l9⟩:=hcut;have p8:=W4 n1.o b0
     obtain ⟨e1,e2⟩:d=b3/\code=sO:=⟨p8.1,by rcases p8.2 with h | ⟨_,_,h⟩;exact h;exact absurd h w8.o⟩
     subst e1;subst e2
     have d9:Hid (wT t (j+1) d):=Adc I.o (by have:=g9.o.1;omega) g9.o.2 n1.o b0
     have x6:Hid (code≠0->d=b):=fun h=>zR b0 h
     have h8:Hid (TT X5 X7 w D t (some (qzA gb off)) rs b b r v V):=j7.o.below k4;have i7:=l4.o.below k4;have L:Hid (Aq V d f):=l2.o.below k4;have i8:Hid (ZQ Y d f V):=i7;have k1:Hid (ZQ Y2 d q V):=m6;have g6:Hid (Aq V d q):=l5;have d8:Hid (FrB q U.heap.size):=l7;have l3:Hid (U.heap.size<=Y2):=l9;clear p8 b0 m6 l5 l7 k4 l9 i7 l4 l2 j7 i2 F s6 s7 u0 n1 I HQ;go_upto_region 13 with fail
     have c9:Hid (D0 d):=(wQ d9.o.j.jw).sm;have A:Hid (At d.ls=true):=d9.o.j.jw.jc.led
     have j8:Hid (code≠0->Calls prog 32 #[C5 d f,C5 b r] V fun e w'=>e=.returned (.bool true)/\BW V w'):=fun h=>by
      have e:=x6.o h;have h1:=L.o;have h2:=c9.o;have h3:=h8.o.k5;subst e;exact Y7 _ f r V h1 h3 h2
     unfold C5 at j8
     have k6:(code != code)=false:=by simp
     obtain ⟨c0,c1,c2,c3,c4,c5,-,-,-,-,-,-⟩:=h8.o.z5;obtain ⟨d0,d1,d2,d3,d4,d5,-,-,-,-,-,-⟩:=i8.o
     have x8:code=0\/code≠0:=by omega
     rcases x8 with hc | hc
     ·have q1:(code != 0)=false:=by simp [hc]
      go_upto_region 15 with fail
      obtain ⟨V4,t1,p4⟩:∃ x,V=x/\BW V x:=⟨V,rfl,bR⟩;rw [t1];have P4:Hid (BW V V4):=p4;clear t1 p4 hc q1 k6 c0 c1 c2 c3 c4 c5 d0 d1 d2 d3 d4 d5;have a3:Hid (TT X5 X7 w D t (some (qzA gb off)) rs b b r v V4):=h8.o.below P4.o;have i5:Hid (ZQ Y d f V4):=i8.o.below P4.o;have i6:Hid (ZQ Y2 d q V4):=k1.o.below P4.o;have HA:Hid (TT X5 X7 w D t (some (qzA gb off)) rs d b f v ((((((V4.setCell (qzA X5 0) (qzI d.today)).setCell (qzA X5 1) (.slice f.o d.off.length f.oc)).setCell (qzA X5 2) (.slice f.a d.az.length f.ac)).setCell (qzA X5 3) (.slice f.c d.cs.length f.cc)).setCell (qzA X5 4) (.slice f.l d.ls.length f.lc)).setCell (qzA X5 5) (.slice f.g d.log.length f.gc))):=a3.o.put5 (L.o.below P4.o) l1.o H.o g7.o
      have b7:Hid (Aq ((((((V4.setCell (qzA X5 0) (qzI d.today)).setCell (qzA X5 1) (.slice f.o d.off.length f.oc)).setCell (qzA X5 2) (.slice f.a d.az.length f.ac)).setCell (qzA X5 3) (.slice f.c d.cs.length f.cc)).setCell (qzA X5 4) (.slice f.l d.ls.length f.lc)).setCell (qzA X5 5) (.slice f.g d.log.length f.gc)) d q):=(g6.o.below P4.o).put6 (K6 d8.o (by have:=H.o;have:=b5.o;omega)) _ _ _ _ _ _
      have d6:Hid (ZQ Y2 d q ((((((V4.setCell (qzA X5 0) (qzI d.today)).setCell (qzA X5 1) (.slice f.o d.off.length f.oc)).setCell (qzA X5 2) (.slice f.a d.az.length f.ac)).setCell (qzA X5 3) (.slice f.c d.cs.length f.cc)).setCell (qzA X5 4) (.slice f.l d.ls.length f.lc)).setCell (qzA X5 5) (.slice f.g d.log.length f.gc))):=Z6.far6 i6.o (by have:=H.o;have:=b5.o;have:=l3.o;omega) _ _ _ _ _ _
      obtain ⟨d0,d1,d2,d3,d4,d5,-,-,-,-,-,-⟩:=i5.o;obtain ⟨N,O,R,S,T,Z,y0,y1,y2,y3,y4,y5⟩:=a3.o.z5;go_upto_region 16 with fail
      obtain ⟨V5,i9⟩:∃ x,x=((((((V4.setCell (qzA X5 0) (qzI d.today)).setCell (qzA X5 1) (.slice f.o d.off.length f.oc)).setCell (qzA X5 2) (.slice f.a d.az.length f.ac)).setCell (qzA X5 3) (.slice f.c d.cs.length f.cc)).setCell (qzA X5 4) (.slice f.l d.ls.length f.lc)).setCell (qzA X5 5) (.slice f.g d.log.length f.gc)):=⟨_,rfl⟩;rw [<- i9] at HA b7 d6 ⊢;clear i9 d0 d1 d2 d3 d4 d5 N O R S T Z y0 y1 y2 y3 y4 y5 a3 i5 i6 P4 j8 i8 k1 L g6 h8
      have HB:Hid (TT X5 X7 w D t (some (qzA gb off)) rs d d f q ((((((V5.setCell (qzA X7 0) (qzI d.today)).setCell (qzA X7 1) (.slice q.o d.off.length q.oc)).setCell (qzA X7 2) (.slice q.a d.az.length q.ac)).setCell (qzA X7 3) (.slice q.c d.cs.length q.cc)).setCell (qzA X7 4) (.slice q.l d.ls.length q.lc)).setCell (qzA X7 5) (.slice q.g d.log.length q.gc))):=HA.o.put7 b7.o d8.o (by have:=H.o;have:=b5.o;omega) (by have:=g7.o;have:=b5.o;omega)
      obtain ⟨d0,d1,d2,d3,d4,d5,-,-,-,-,-,-⟩:=d6.o;obtain ⟨N,O,R,S,T,Z,y0,y1,y2,y3,y4,y5⟩:=HA.o.z7;go_upto_region 17 with fail
      obtain ⟨V6,j0⟩:∃ x,x=((((((V5.setCell (qzA X7 0) (qzI d.today)).setCell (qzA X7 1) (.slice q.o d.off.length q.oc)).setCell (qzA X7 2) (.slice q.a d.az.length q.ac)).setCell (qzA X7 3) (.slice q.c d.cs.length q.cc)).setCell (qzA X7 4) (.slice q.l d.ls.length q.lc)).setCell (qzA X7 5) (.slice q.g d.log.length q.gc)):=⟨_,rfl⟩;rw [<- j0] at HB ⊢;clear j0 d0 d1 d2 d3 d4 d5 N O R S T Z y0 y1 y2 y3 y4 y5 HA b7 d6
      have c8:=Ij f.l f.lc d.ls V6 HB.o.k5.ls (by have:=(Dq A.o).2.1;omega) (Vm A.o)
      rw [A.o] at c8;obtain ⟨N,O,R,S,T,Z,-,-,-,-,-,-⟩:=HB.o.z5;go_wp2_with fail
      refine Calls.mono c8 ?_;rintro e u7 ⟨rfl,p7⟩;have HC:Hid (TT X5 X7 w D t (some (qzA gb off)) rs d d f q u7):=HB.o.below p7;clear p7 c8 N O R S T Z HB;go_wp2
      go_roundw
      case rel=>exact ⟨j+1,d,f,q,by omega,by go_num,d9.o,HC.o⟩
      case measure=>simp [intOf];omega
     ·have q1:(code != 0)=true:=by simpa using hc
      go_wp2_with fail
      refine Calls.mono (j8.o hc) ?_;rintro e V4 ⟨rfl,p4⟩;have P4:Hid (BW V V4):=p4;clear p4;go_upto_region 15 with fail
      clear hc q1 k6 c0 c1 c2 c3 c4 c5 d0 d1 d2 d3 d4 d5;have a3:Hid (TT X5 X7 w D t (some (qzA gb off)) rs b b r v V4):=h8.o.below P4.o;have i5:Hid (ZQ Y d f V4):=i8.o.below P4.o;have i6:Hid (ZQ Y2 d q V4):=k1.o.below P4.o;have HA:Hid (TT X5 X7 w D t (some (qzA gb off)) rs d b f v ((((((V4.setCell (qzA X5 0) (qzI d.today)).setCell (qzA X5 1) (.slice f.o d.off.length f.oc)).setCell (qzA X5 2) (.slice f.a d.az.length f.ac)).setCell (qzA X5 3) (.slice f.c d.cs.length f.cc)).setCell (qzA X5 4) (.slice f.l d.ls.length f.lc)).setCell (qzA X5 5) (.slice f.g d.log.length f.gc))):=a3.o.put5 (L.o.below P4.o) l1.o H.o g7.o
      have b7:Hid (Aq ((((((V4.setCell (qzA X5 0) (qzI d.today)).setCell (qzA X5 1) (.slice f.o d.off.length f.oc)).setCell (qzA X5 2) (.slice f.a d.az.length f.ac)).setCell (qzA X5 3) (.slice f.c d.cs.length f.cc)).setCell (qzA X5 4) (.slice f.l d.ls.length f.lc)).setCell (qzA X5 5) (.slice f.g d.log.length f.gc)) d q):=(g6.o.below P4.o).put6 (K6 d8.o (by have:=H.o;have:=b5.o;omega)) _ _ _ _ _ _
      have d6:Hid (ZQ Y2 d q ((((((V4.setCell (qzA X5 0) (qzI d.today)).setCell (qzA X5 1) (.slice f.o d.off.length f.oc)).setCell (qzA X5 2) (.slice f.a d.az.length f.ac)).setCell (qzA X5 3) (.slice f.c d.cs.length f.cc)).setCell (qzA X5 4) (.slice f.l d.ls.length f.lc)).setCell (qzA X5 5) (.slice f.g d.log.length f.gc))):=Z6.far6 i6.o (by have:=H.o;have:=b5.o;have:=l3.o;omega) _ _ _ _ _ _
      obtain ⟨d0,d1,d2,d3,d4,d5,-,-,-,-,-,-⟩:=i5.o;obtain ⟨N,O,R,S,T,Z,y0,y1,y2,y3,y4,y5⟩:=a3.o.z5;go_upto_region 16 with fail
      obtain ⟨V5,i9⟩:∃ x,x=((((((V4.setCell (qzA X5 0) (qzI d.today)).setCell (qzA X5 1) (.slice f.o d.off.length f.oc)).setCell (qzA X5 2) (.slice f.a d.az.length f.ac)).setCell (qzA X5 3) (.slice f.c d.cs.length f.cc)).setCell (qzA X5 4) (.slice f.l d.ls.length f.lc)).setCell (qzA X5 5) (.slice f.g d.log.length f.gc)):=⟨_,rfl⟩;rw [<- i9] at HA b7 d6 ⊢;clear i9 d0 d1 d2 d3 d4 d5 N O R S T Z y0 y1 y2 y3 y4 y5 a3 i5 i6 P4 j8 i8 k1 L g6 h8
      have HB:Hid (TT X5 X7 w D t (some (qzA gb off)) rs d d f q ((((((V5.setCell (qzA X7 0) (qzI d.today)).setCell (qzA X7 1) (.slice q.o d.off.length q.oc)).setCell (qzA X7 2) (.slice q.a d.az.length q.ac)).setCell (qzA X7 3) (.slice q.c d.cs.length q.cc)).setCell (qzA X7 4) (.slice q.l d.ls.length q.lc)).setCell (qzA X7 5) (.slice q.g d.log.length q.gc))):=HA.o.put7 b7.o d8.o (by have:=H.o;have:=b5.o;omega) (by have:=g7.o;have:=b5.o;omega)
      obtain ⟨d0,d1,d2,d3,d4,d5,-,-,-,-,-,-⟩:=d6.o;obtain ⟨N,O,R,S,T,Z,y0,y1,y2,y3,y4,y5⟩:=HA.o.z7;go_upto_region 17 with fail
      obtain ⟨V6,j0⟩:∃ x,x=((((((V5.setCell (qzA X7 0) (qzI d.today)).setCell (qzA X7 1) (.slice q.o d.off.length q.oc)).setCell (qzA X7 2) (.slice q.a d.az.length q.ac)).setCell (qzA X7 3) (.slice q.c d.cs.length q.cc)).setCell (qzA X7 4) (.slice q.l d.ls.length q.lc)).setCell (qzA X7 5) (.slice q.g d.log.length q.gc)):=⟨_,rfl⟩;rw [<- j0] at HB ⊢;clear j0 d0 d1 d2 d3 d4 d5 N O R S T Z y0 y1 y2 y3 y4 y5 HA b7 d6
      have c8:=Ij f.l f.lc d.ls V6 HB.o.k5.ls (by have:=(Dq A.o).2.1;omega) (Vm A.o)
      rw [A.o] at c8;obtain ⟨N,O,R,S,T,Z,-,-,-,-,-,-⟩:=HB.o.z5;go_wp2_with fail
      refine Calls.mono c8 ?_;rintro e u7 ⟨rfl,p7⟩;have HC:Hid (TT X5 X7 w D t (some (qzA gb off)) rs d d f q u7):=HB.o.below p7;clear p7 c8 N O R S T Z HB;go_wp2
      go_roundw
      case rel=>exact ⟨j+1,d,f,q,by omega,by go_num,d9.o,HC.o⟩
      case measure=>simp [intOf];omega
  ·have t6:¬ (j:Int)<(m:Int):=by omega
   have A:Hid (At b.ls=true):=I.o.j.jw.jc.led;have c9:Hid (D0 b):=(wQ I.o.j.jw).sm;clear hlt HM s9 s1 u4 y6;go_wp2_with fail
   refine Calls.mono (Abn _) ?_;rintro e v1 ⟨g,rfl,l6,pc⟩;have j6:Hid (TT X5 X7 w D t a2 rs b b r v v1):=HQ.o.below pc;have m9:Hid (∀ k,k<3->∃ x:Int,v1.cell? (qzA g k)=some (qzI x)):=l6;clear l6 pc HQ t6;go_wp2
   go_loopw [85] (fun i wi=>∃ k:Nat,k<=3/\i=qzI (k:Int)/\BW v1 wi) (fun i _=>3 - (intOf i).toNat)
   case atStart=>exact ⟨0,by omega,rfl,bR⟩
   case round =>
    obtain ⟨k,y7,rfl,pk⟩:=hrel;have i3:Hid (BW v1 wr):=pk;clear pk
    by_cases hk:k<3
    ·have D3:(k:Int)<3:=by omega
     obtain ⟨x,hx⟩:=m9.o k hk;have j1:g<v1.heap.size:=World.block_lt_of_cell? v1 _ hx;have F4:wr.cell? (qzA g k)=some (qzI x):=(i3.o.cell (p:=(qzA g k)) j1).trans hx;obtain ⟨G,g1,g2,g3,g4,g5⟩:=Top.top_say I.o.top I.o.j.par A.o x;have w2:Hid (∀ n,0<=qpT G n):=g1;have w3:Hid (∀ n,n<=8->qpT G n<=1000000000000):=g2;have w4:Hid _:=g3;have w5:Hid (qpT G 8=K2 b.ls 9999 x):=g4;have w6:Hid (R3 (L4 x) (Qw 9999) b.cs=K2 b.ls 9999 x):=g5;have h0:Hid (TT X5 X7 w D t a2 rs b b r v wr):=j6.o.below i3.o;clear hx g1 g2 g3 g4 g5 j1;obtain ⟨wi,B8⟩:∃ y,y=wr:=⟨_,rfl⟩;subst B8;clear j6 m9;go_wp2
     go_loopw [16,17] (fun s i wj=>∃ n:Nat,n<=8/\s=qzI (qpT G n)/\i=qzI ((n:Int)+1)/\BW wi wj) (fun s i _=>9 - (intOf i).toNat)
     case atStart=>exact ⟨0,by omega,rfl,rfl,bR⟩
     case round =>
      obtain ⟨n,y9,rfl,rfl,pn⟩:=hrel;have j5:Hid (BW wi wr):=pn;have C:Hid (TT X5 X7 w D t a2 rs b b r v wr):=h0.o.below pn;clear pn
      by_cases hn:n<8
      ·have A1:(n:Int)+1<=8:=by omega
       obtain ⟨f1,f2,f3,f4⟩:=w4.o n hn;have D5:=w2.o n
       have C2:=w3.o n (by omega)
       have u5:qpT G (n+1)=qpT G n+G ((n:Int)+1):=rfl;obtain ⟨gv,t4⟩:∃ y,G ((n:Int)+1)=y:=⟨_,rfl⟩;obtain ⟨lv,q9⟩:∃ y,K2 b.ls ((n:Int)+1) x=y:=⟨_,rfl⟩;rw [t4] at f1 f2 f3 f4 u5;rw [q9] at f4
       have a6:Hid (∀ z:W7 wr,Calls prog 47 #[C5 b r,qzI ((n:Int)+1),qzI x] z.x fun e w'=>e=.returned (qzI (lv+gv))/\Below z.x.heap.size z.x w'):=fun z=>by
        have h:=uG b r ((n:Int)+1) x z.x (C.o.k5.below z.h) c9.o;rw [f4] at h;exact h
       have d7:Hid (∀ z:W7 wr,Calls prog 48 #[.agg #[.slice r.l b.ls.length r.lc],qzI ((n:Int)+1),qzI x] z.x fun e w'=>e=.returned (qzI lv)/\Below z.x.heap.size z.x w'):=fun z=>by
        have h:=tX r.l r.lc b.ls ((n:Int)+1) x z.x (C.o.k5.ls.below z.h) (by have:=(Dq A.o).2.1;omega)
        rw [q9] at h;exact h
       unfold C5 at a6;obtain ⟨N,O,R,S,T,Z,-,-,-,-,-,-⟩:=C.o.z5;have D4:=K0 wr;have o0:=As N;have o1:=As O;have o2:=As R;have o3:=As S;have o4:=As T;have o5:=As Z
       have C4:IntKind.i64.wrap (lv+gv - lv)=gv:=by rw [IntKind.wrap_i64];omega
       have C1:¬ gv<0:=by omega
       have C3:gv.tmod 50000=0:=by rw [Int.tmod_eq_emod_of_nonneg f1];exact f3
       have D1:IntKind.i64.wrap (qpT G n+gv)=qpT G (n+1):=by rw [IntKind.wrap_i64,u5];omega
       clear N O R S T Z t4 q9 f4;go_upto_region 26 with fail
       refine B6 (by kernel_rfl) (by kernel_rfl) ?_
       repeat (go_big_quiet_step (first | exact F8 (a6.o _) | exact F8 (d7.o _)))
       refine wpQuiet_nil ?_;rintro _ ⟨⟨w9,b9⟩,B5⟩;subst B5;go_wp2
       go_roundw
       case rel=>exact ⟨n+1,by omega,by go_num,by go_num,j5.o.trans (b9.mono j5.o.size)⟩
       case measure=>simp [intOf];omega
      ·have A1:¬ (n:Int)+1<=8:=by omega
       have l8:n=8:=by omega
       obtain ⟨hv,q6⟩:∃ y,K2 b.ls 9999 x=y:=⟨_,rfl⟩;have h4:=w5.o;have h5:=w6.o;rw [q6] at h4 h5
       have u6:qpT G n=hv:=by rw [l8];exact h4
       have d7:Hid (Calls prog 48 #[.agg #[.slice r.l b.ls.length r.lc],qzI 9999,qzI x] wr fun e w'=>e=.returned (qzI hv)/\BW wr w'):=by
        have h:=tX r.l r.lc b.ls 9999 x wr C.o.k5.ls (by have:=(Dq A.o).2.1;omega)
        rw [q6] at h;exact h
       have a6:Hid (∀ u,BW wr u->Calls prog 47 #[C5 b r,qzI 9999,qzI x] u fun e w'=>e=.returned (qzI hv)/\BW u w'):=fun u hu=>by
        have h:=uG b r 9999 x u (C.o.k5.below hu) c9.o;rw [h5] at h;exact h
       unfold C5 at a6;rw [u6]
       have k6:(hv != hv)=false:=by simp
       obtain ⟨N,O,R,S,T,Z,-,-,-,-,-,-⟩:=C.o.z5;clear h4 h5 q6 u6 l8 hn y9;go_wp2_with fail
       refine Calls.mono d7.o ?_;rintro e v5 ⟨rfl,p5⟩;have a3:Hid (TT X5 X7 w D t a2 rs b b r v v5):=C.o.below p5;have k9:=a6.o v5 p5;clear N O R S T Z;obtain ⟨N,O,R,S,T,Z,-,-,-,-,-,-⟩:=a3.o.z5;go_wp2_with fail
       refine Calls.mono k9 ?_;rintro e v6 ⟨rfl,p6⟩;have v8:Hid (BW v1 v6):=next i3.o (next j5.o (next p5 p6));clear N O R S T Z p5 p6 k9 a6 d7 a3 C j5;go_wp2
       go_roundw
       case rel=>exact ⟨k+1,by omega,by go_num,v8.o⟩
       case measure=>simp [intOf];omega
    ·have y8:k=3:=by omega
     subst y8;have h0:Hid (TT X5 X7 w D t a2 rs b b r v wr):=j6.o.below i3.o
     have n3:Hid (Calls prog 49 #[C5 b r] wr fun e w'=>e=.returned (.string ⟨(K5 b.log).toArray⟩)/\BW wr w'):=vV b r wr h0.o.k5 (by have h1:=xH I.o;have h2:=wF b.log;have h3:=I.o.j.jw.log;exact ⟨c9.o,by omega⟩)
     unfold C5 at n3;obtain ⟨N,O,R,S,T,Z,-,-,-,-,-,-⟩:=h0.o.z5;clear hk y7 i3 j6 m9;go_wp2_with fail
     refine Calls.mono n3.o ?_;rintro e v2 ⟨rfl,p2⟩;have C:Hid (TT X5 X7 w D t a2 rs b b r v v2):=h0.o.below p2
     have s8:=Aa2 9000 D c t (K5 b.log) v2 C.o.off (by have:=n5.o;omega) (xH I.o) (dK _ _ HE.o (C.o.hb.mono HE.o.size))
     clear p2 N O R S T Z n3 h0;go_wp2_with fail
     refine Calls.mono s8 ?_;rintro e v3 ⟨b8,n8,q8,rfl,t3,x9,o8,p3⟩;obtain ⟨e1,e2⟩:=Abz I.o n2.o t3;have x7:=e1.symm;subst x7;subst e2
     simp only [C5]
     obtain ⟨W9,k2⟩:∃ W,W=v3.alloc (.cells (qcB b q8) 31):=⟨_,rfl⟩;obtain ⟨X9,p0⟩:∃ X,v3.heap.size=X:=⟨_,rfl⟩
     have b9:BW v3 W9:=by rw [k2];exact bR.alloc nL _
     have Z9:Hid (Z6b X9 b q8 W9):=by rw [Hid,k2,<- p0];exact Z6.new v3 _ _ _ _ _ _ _
     have K9:Hid (Aq W9 b q8):=o8.at.below b9;have h6:Hid (TT X5 X7 w D t a2 rs b b r v W9):=C.o.below (next p3 b9)
     have b1:Hid (Calls prog 32 #[C5 b q8,C5 b r] W9 fun e w'=>e=.returned (.bool true)/\BW W9 w'):=Y7 b q8 r W9 K9.o h6.o.k5 c9.o
     have h9:Hid (∀ u,BW W9 u->Calls prog 32 #[C5 b r,C5 b v] u fun e w'=>e=.returned (.bool true)/\BW u w'):=fun u h=>Y7 b r v u (h6.o.k5.below h) (h6.o.k7.below h) c9.o
     unfold C5 at b1 h9;have r4:Hid _:=k2;have r6:Hid _:=p0;clear t3 x9 o8 p3 b9 k2 p0 s8 C;go_upto_region 34 with fail
     rw [<- r4.o,r6.o];clear r4 r6;obtain ⟨c0,c1,c2,c3,c4,c5,-,-,-,-,-,-⟩:=Z9.o;obtain ⟨N,O,R,S,T,Z,-,-,-,-,-,-⟩:=h6.o.z5
     have k6:((b.log.length:Int) == (b.log.length:Int))=true:=by simp
     go_wp2_with fail
     refine Calls.mono b1.o ?_;rintro e k8 ⟨rfl,r1⟩;have i4:Hid (TT X5 X7 w D t a2 rs b b r v k8):=h6.o.below r1;have i0:=h9.o k8 r1;clear c0 c1 c2 c3 c4 c5 N O R S T Z b1 h9 r1 h6 Z9 K9;obtain ⟨N,O,R,S,T,Z,-,-,-,-,-,-⟩:=i4.o.z5;obtain ⟨c0,c1,c2,c3,c4,c5,-,-,-,-,-,-⟩:=i4.o.z7;go_wp2_with fail
     refine Calls.mono i0 ?_;rintro e r2 ⟨rfl,C0⟩;have r7:Hid (BW w r2):=next i4.o.hb C0;go_wp2;go_ret;exact ⟨rfl,r7.o⟩
theorem Zo {H:Type} {enc:TypeId×Value->H} {P:Program} {w:World} {base:Nat} {sp:Nat->Bool} {held:Bool} {fuel:Nat} {t e:TypeId} {n:Nat} {cs:List Value} {zs:List (List UInt8)} {p:List MemPlace}
  (J:P.underlying t=some (.array n e)) (he:P.underlying e=some .string) (hce:P.cellsOf e=1) (hct:P.cellsOf t=n)
  (h:DataW.trod enc P w base sp held fuel t cs=some (DataW.agg (zs.map fun z=>.lit (.string z)),p)):cs=zs.map fun z=>Value.string ⟨z.toArray⟩:=by
 cases fuel with
 | zero=>simp [DataW.trod] at h
 | succ fuel =>
  simp only [DataW.trod,J,hce,hct,Nat.mul_one] at h
  split at h
  ·rename_i hl
   obtain ⟨xs,hm,hx⟩:=Option.map_eq_some_iff.1 h
   have O:xs.map (·.1)=zs.map fun z=>(DataW.lit (.string z):DataW H):=by
    have:=congrArg Prod.fst hx
    simpa using this
   have a5:xs.length=n:=by simpa using Lib.mapM_length hm
   have a6:zs.length=n:=by
    have:=congrArg List.length O
    simp at this
    omega
   apply List.ext_getElem?;intro i
   by_cases hi:i<n
   ·obtain ⟨b,hb,hf⟩:=Lib.mapM_at hm i i (by simp [hi])
    obtain ⟨z,S,rfl,_⟩:=DataW.trod_string he hf
    have G:cs[i]?=some (.string z):=by
     have:=congrArg (·[0]?) S
     simpa [List.getElem?_take,List.getElem?_drop] using this
    have L:(xs.map (·.1))[i]?=some (DataW.lit (.string z.data.toList):DataW H):=by simp [hb]
    rw [O] at L
    simp only [List.getElem?_map,Option.map_eq_some_iff,DataW.lit.injEq,Lit.string.injEq] at L
    obtain ⟨z',a4,e⟩:=L;subst e
    simp [G,a4]
   ·rw [List.getElem?_eq_none (by omega),List.getElem?_eq_none (by simp;omega)]
  ·cases h
theorem rO:(Rows.laid_loop_example_g00126_impl_actWords:DataW Unit)=DataW.agg (Dm.map fun z=>.lit (.string z)):=by kernel_rfl
theorem kE : prog.globalNamed "loop.example/g00126/impl.actWords" = some 0 := by kernel_rfl
theorem rM:(prog.globals[0]?).map (·.type)=some 156:=by kernel_rfl
theorem gI {rest : List (String × DataW Unit)} {w : World} (h : laidMet prog (("loop.example/g00126/impl.actWords", Rows.laid_loop_example_g00126_impl_actWords) :: rest) w) : ∀ k, k < 10 -> w.cell? ⟨0, k, none⟩ = some (.string ⟨(Al Dm k).toArray⟩) := by
 rw [rO] at h;obtain ⟨I,⟨g',t',cs,fuel,p,q,V,Z,N,hd,_,_⟩,_⟩:=h;obtain rfl:=Option.some.inj (kE.symm.trans V);obtain rfl:=Option.some.inj (rM.symm.trans Z)
 have S:=Zo underlying156 underlying9 (by kernel_rfl) (by kernel_rfl) hd
 obtain ⟨l⟩:=cs
 simp only at S
 subst S;intro k hk;rw [World.var?_cell kE N k]
 have:k=0\/k=1\/k=2\/k=3\/k=4\/k=5\/k=6\/k=7\/k=8\/k=9:=by omega
 rcases this with rfl | rfl | rfl | rfl | rfl | rfl | rfl | rfl | rfl | rfl <;> rfl
theorem pO : "*" ++ "errors.errorString" = "*errors.errorString" := by decide
theorem bD (u : TypeId) (h : prog.typeName? 3 u = some "*errors.errorString") : u = 372 :=
 typeName_ptr_named (nm := "errors.errorString") (by rw [pO]; kernel_rfl) (by kernel_rfl) (by decide) u (by rw [pO]; exact h)
theorem Se:prog.cellsOf 390=1:=by kernel_rfl
theorem Tn:prog.cellsOf 9=1:=by kernel_rfl
theorem Hz {n : String} {text : List UInt8} {r : List (String × DataW Unit)} {W : World} {g : Nat} (h : laidMet prog ((n, .iface "*errors.errorString" (.ptr (.agg [.lit (.string text)]))) :: r) W) (hg : prog.globalNamed n = some g) (J : (prog.globals[g]?).map (·.type) = some 104) :
  ∃ t a,W.cell? (qzA g 0)=some (.iface t (.pointer (some a))):=by
 obtain ⟨a,_,T,_⟩:=laid_sentinel h hg J underlying104 bD underlying372 underlying390 rfl rfl underlying9 Se Tn
 exact ⟨_,a,by rw [World.var?_cell hg T 0];rfl⟩
theorem sK:(Rows.laid_internal_strconv_uint64pow10:DataW Unit)=Lib.tabData .u64 Lib.pow10Tab:=by kernel_rfl
theorem iX {w : World} {r : List (String × DataW Unit)} (G : laidMet prog (("internal/strconv.uint64pow10", Rows.laid_internal_strconv_uint64pow10) :: r) w) : Lib.TabIs prog w "internal/strconv.uint64pow10" .u64 Lib.pow10Tab := by
 rw [sK] at G
 exact Lib.tabIs_of_head (g:=13) (t:=316) (by kernel_rfl) (by kernel_rfl) underlying316 underlying282 (by kernel_rfl) (by kernel_rfl) G
theorem eO {w:World} (h:Di w):17<=w.heap.size:=by
 have hg : prog.globalNamed "loop.example/g00126/impl.stepDays" = some 16 := by kernel_rfl
 unfold Di Lib.TabIs World.var? at h
 simp only [hg,Option.bind_some] at h
 rcases Nat.lt_or_ge 16 w.heap.size with h' | h'
 ·omega
 ·rw [Array.getElem?_eq_none h'] at h;simp at h
theorem pH {rest r2 : List (String × DataW Unit)} {w : World} (hp : laidMet prog (("internal/strconv.uint64pow10", Rows.laid_internal_strconv_uint64pow10) :: r2) w) (h : laidMet prog (("loop.example/g00126/impl.stepDays", Rows.laid_loop_example_g00126_impl_stepDays) :: ("loop.example/g00126/impl.errLine", Rows.laid_loop_example_g00126_impl_errLine) :: ("loop.example/g00126/impl.errLogFull", Rows.laid_loop_example_g00126_impl_errLogFull) :: ("loop.example/g00126/impl.errCasesFull", Rows.laid_loop_example_g00126_impl_errCasesFull) :: ("loop.example/g00126/impl.errAuth", Rows.laid_loop_example_g00126_impl_errAuth) :: ("loop.example/g00126/impl.errDay", Rows.laid_loop_example_g00126_impl_errDay) :: ("loop.example/g00126/impl.errCase", Rows.laid_loop_example_g00126_impl_errCase) :: ("loop.example/g00126/impl.errMoney", Rows.laid_loop_example_g00126_impl_errMoney) :: ("loop.example/g00126/impl.errAct", Rows.laid_loop_example_g00126_impl_errAct) :: ("loop.example/g00126/impl.actWords", Rows.laid_loop_example_g00126_impl_actWords) :: rest) w) (hsh : w.ShapedOpen prog) : E0 w := by
 have M:=gF h
 have B:=Hz (g:=3) (h.tail) (by kernel_rfl) (by kernel_rfl)
 have f:=Hz (g:=1) (h.tail.tail) (by kernel_rfl) (by kernel_rfl)
 have c:=Hz (g:=6) (h.tail.tail.tail) (by kernel_rfl) (by kernel_rfl)
 have s:=Hz (g:=5) (h.tail.tail.tail.tail) (by kernel_rfl) (by kernel_rfl)
 have F:=Hz (g:=4) (h.tail.tail.tail.tail.tail) (by kernel_rfl) (by kernel_rfl)
 have A:=Hz (g:=7) (h.tail.tail.tail.tail.tail.tail) (by kernel_rfl) (by kernel_rfl)
 have m:=Hz (g:=8) (h.tail.tail.tail.tail.tail.tail.tail) (by kernel_rfl) (by kernel_rfl)
 have D:=Hz (g:=9) (h.tail.tail.tail.tail.tail.tail.tail.tail) (by kernel_rfl) (by kernel_rfl)
 exact ⟨eO M,M,iX hp,cell_of_shapedOpen_int (zero:=#[.int .i64 0]) (t:=3) hsh (of_decide_eq_true (by kernel_rfl)) (by kernel_rfl) rfl (by kernel_rfl) (by kernel_rfl) underlying3,f,B,F,s,c,A,m,D,gI h.tail.tail.tail.tail.tail.tail.tail.tail.tail⟩
def bL (P:Program) (C:List String):Bool:=C.all fun n=>((P.globalNamed n).bind fun g=>(P.globals[g]?).map fun x=>P.readableRec x.type && decide (x.type<P.types.size)) == some true
theorem Sl {H:Type} {enc:TypeId×Value->H} {W W':World} (hb:BW W W'):∀ (C:List String) (o:List (DataW H)) (q:List MemPlace),bL prog C=true->DataW.TrodVars enc prog W (fun _=>true) C o q->DataW.TrodVars enc prog W' (fun b=>decide (b<W.heap.size)) C o q
 | [],[],q,_,h=>h
 | n::C,d::ds,I,T,h=>by
  obtain ⟨g,t,cs,fuel,p,q,hg,J,hv,hd,j,Y⟩:=h
  simp only [bL,List.all_cons,Bool.and_eq_true] at T
  obtain ⟨G,L⟩:=T;obtain ⟨x,hx,a3⟩:=Option.map_eq_some_iff.1 J;rw [hg] at G
  simp only [Option.bind_some,hx,Option.map_some] at G
  have R:(prog.readableRec x.type && decide (x.type<prog.types.size))=true:=by simpa using G
  rw [a3] at R
  simp only [Bool.and_eq_true,decide_eq_true_eq] at R
  have X:∀ y ∈ p,y.block<W.heap.size:=DataW.trod_lt fuel _ _ _ hd
  obtain ⟨f',U⟩:=Below.trod Uc R.1 R.2 (v:=.agg cs) (⟨fuel,hd⟩:DataW.Trod enc prog W 0 (fun _=>true) true t (.agg cs) d p) hb X
  refine ⟨g,t,cs,f',p,q,hg,J,?_,U,Sl hb C ds q L j,Y⟩;exact iJ hv hb
theorem T6 {H:Type} {enc:TypeId×Value->H} {w:World} {sp:Nat->Bool} {n1 n2 n3 n4 n5 n6 n7 n8 n9 n10:String} {o:List (DataW H)} {I:List MemPlace} (h:DataW.TrodVars enc prog w sp [n1,n2,n3,n4,n5,n6,n7,n8,n9,n10] o I) :
  ∃ y1 y2 y3 y4 y5 y6 y7 y8 y9 y10,o=[y1,y2,y3,y4,y5,y6,y7,y8,y9,y10]:=by
 have len:∀ (C:List String) (o:List (DataW H)) (I:List MemPlace),DataW.TrodVars enc prog w sp C o I->o.length=C.length:=by
  intro C
  induction C with
  | nil=>intro o I h;cases o with
   | nil=>rfl
   | cons a b=>simp [DataW.TrodVars] at h
  | cons n C ih=>intro o I h;cases o with
   | nil=>simp [DataW.TrodVars] at h
   | cons a b =>
    obtain ⟨g,t,cs,fuel,p,q,_,_,_,_,j,_⟩:=h
    simp [ih _ _ j]
 have hl:=len _ _ _ h
 match o,hl with
 | [y1,y2,y3,y4,y5,y6,y7,y8,y9,y10],_=>exact ⟨y1,y2,y3,y4,y5,y6,y7,y8,y9,y10,rfl⟩
theorem etM : prog.globalNamed "errors.errorType" = some 2 := by kernel_rfl
theorem rtM : (prog.cutTypes.find? (·.1 == "internal/reflectlite.rtype")).map (·.2) = some 247 := by kernel_rfl
theorem Adm:((List.range 401).filter fun t=>prog.rowNamed t [101,114,114,111,114])=[104]:=by kernel_rfl
theorem Aen:prog.types.size=401:=by kernel_rfl
theorem Aah {W : World} (h : handlesMet prog [("errors.errorType", Rows.laid_errors_errorType)] W) : mU W := by
 obtain ⟨name,u,i,e1,e2,e3,c,a⟩:=h _ (List.mem_singleton.2 rfl);have d:name=[101,114,114,111,114]:=(Option.some.inj e1).symm;subst d;obtain rfl:=Option.some.inj (rtM.symm.trans e2)
 have b:i ∈ (List.range 401).filter fun t=>prog.rowNamed t [101,114,114,111,114]:=List.mem_filter.2 ⟨List.mem_range.2 (by rw [<- Aen];exact e3),c⟩
 rw [Adm] at b;obtain rfl:=List.mem_singleton.1 b
 have g:typeHandle prog 104=.pointer (some (qzA 17 104)):=by kernel_rfl
 rw [g] at a;unfold mU
 simpa using World.var?_cell etM a 0
theorem wX {P:Program} {w0:World} {laid:List (String×DataW Unit)} (args:Array Value) (f:w0.layFits P laid []=true) (hi:w0.layIfaces P laid (w0.layVars P laid)=true) :
  laidMet P laid ((w0.layVars P laid).forCall (fun _ _=>0) ⟨#[],args,[]⟩).memory:=by
 have e1:(laid.filter fun x=>(laid.map (·.1)).contains x.1)=laid:=List.filter_eq_self.2 fun x hx=>List.contains_iff_mem.2 (List.mem_map.2 ⟨x,hx,rfl⟩)
 have e2:(laid.filter fun x=>!(laid.map (·.1)).contains x.1)=[]:=List.filter_eq_nil_iff.2 fun x hx=>by rw [List.contains_iff_mem.2 (List.mem_map.2 ⟨x,hx,rfl⟩)];simp
 have h:laidMet P laid (w0.layVars P laid):=laidMet_layVars (w0:=w0) (laid.map (·.1)) [] (by rw [e1]) (by rw [e1];exact f) (by rw [e1];exact hi) (by rw [e2];exact LaidIn.none)
 exact h.of_heap (by simp [World.memory,World.forCall,Input.heap])
theorem Abl {w : World} (h : laidMet prog [("math/bits.deBruijn32tab", Rows.laid_math_bits_deBruijn32tab), ("math/bits.deBruijn64tab", Rows.laid_math_bits_deBruijn64tab), ("internal/strconv.uint64pow10", Rows.laid_internal_strconv_uint64pow10), ("unicode/utf8.acceptRanges", Rows.laid_unicode_utf8_acceptRanges), ("loop.example/g00126/impl.stepDays", Rows.laid_loop_example_g00126_impl_stepDays), ("loop.example/g00126/impl.errLine", Rows.laid_loop_example_g00126_impl_errLine), ("loop.example/g00126/impl.errLogFull", Rows.laid_loop_example_g00126_impl_errLogFull), ("loop.example/g00126/impl.errCasesFull", Rows.laid_loop_example_g00126_impl_errCasesFull), ("loop.example/g00126/impl.errAuth", Rows.laid_loop_example_g00126_impl_errAuth), ("loop.example/g00126/impl.errDay", Rows.laid_loop_example_g00126_impl_errDay), ("loop.example/g00126/impl.errCase", Rows.laid_loop_example_g00126_impl_errCase), ("loop.example/g00126/impl.errMoney", Rows.laid_loop_example_g00126_impl_errMoney), ("loop.example/g00126/impl.errAct", Rows.laid_loop_example_g00126_impl_errAct), ("loop.example/g00126/impl.actWords", Rows.laid_loop_example_g00126_impl_actWords), ("unicode/utf8.first", Rows.laid_unicode_utf8_first)] w /\ handlesMet prog [("errors.errorType", Rows.laid_errors_errorType)] w) (hsh : w.ShapedOpen prog) : E0 w /\ mU w :=
 ⟨pH h.1.tail.tail h.1.tail.tail.tail.tail hsh,Aah h.2⟩
end Kb
end Go.Proofs.YtomiclakhjncbaaGreatDoor
