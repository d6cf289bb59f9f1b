import Derived.Test.YtomiclakhjncbaaGreatDoorJL0a
import Derived.Test.YtomiclakhjncbaaGreatDoorJL7a
import Derived.Test.YtomiclakhjncbaaGreatDoorJL1a
import Derived.Test.YtomiclakhjncbaaGreatDoorJL2a
import Derived.Test.YtomiclakhjncbaaGreatDoorJL3a
import Derived.Test.YtomiclakhjncbaaGreatDoorKLCStart
import Derived.Test.YtomiclakhjncbaaGreatDoorKLICaseDo
import Derived.Test.YtomiclakhjncbaaGreatDoorJL4a
import Derived.Test.YtomiclakhjncbaaGreatDoorKLKbOpen
import Derived.Test.YtomiclakhjncbaaGreatDoorKLKbHand
import Derived.Test.YtomiclakhjncbaaGreatDoorJL6a
namespace Go.Proofs.YtomiclakhjncbaaGreatDoor.Kb
open Go.RowKit Go.Proofs.Tryz
set_option maxRecDepth 100000
set_option maxHeartbeats 12800000
theorem Tc {w w':World} {n:String} {g G:Nat} {cs:Array Value} (h:w.var? prog n=some cs) (hg:prog.globalNamed n=some g) (hG:g<G) (hb:Below G w w'):w'.var? prog n=some cs:=by
 unfold World.var? at *
 simp only [hg,Option.bind_some] at h ⊢
 rw [hb.block g hG];exact h
structure E0 (w:World):Prop where
 size:17≤w.heap.size
 step:Di w
 pow : Lib.TabIs prog w "internal/strconv.uint64pow10" .u64 Lib.pow10Tab
 max:∃ m,w.cell? ⟨10,0,none⟩=some (.int .i64 m)
 eFull:∃ t a,w.cell? ⟨1,0,none⟩=some (.iface t (.pointer (some a)))
 eLine:∃ t a,w.cell? ⟨3,0,none⟩=some (.iface t (.pointer (some a)))
 eDay:∃ t a,w.cell? ⟨4,0,none⟩=some (.iface t (.pointer (some a)))
 eAuth:∃ t a,w.cell? ⟨5,0,none⟩=some (.iface t (.pointer (some a)))
 eCases:∃ t a,w.cell? ⟨6,0,none⟩=some (.iface t (.pointer (some a)))
 eCase:∃ t a,w.cell? ⟨7,0,none⟩=some (.iface t (.pointer (some a)))
 eMoney:∃ t a,w.cell? ⟨8,0,none⟩=some (.iface t (.pointer (some a)))
 eAct:∃ t a,w.cell? ⟨9,0,none⟩=some (.iface t (.pointer (some a)))
 words:∀ k,k<10→w.cell? ⟨0,k,none⟩=some (.string ⟨(Al Dm k).toArray⟩)
theorem Vi (w:World) (q:Nat) (os:Array Obj):Below w.heap.size w (Go.Sort.grow (w.drewN q) os) :=
 ⟨rfl,rfl,rfl,by simp [Go.Sort.grow,World.drewN],fun k hk=>by simp [Go.Sort.grow,World.drewN,Array.getElem?_append,hk]⟩
theorem dK (w w':World) (h:E0 w) (hb:Below 17 w w'):E0 w':=by
 have k:∀ (g i:Nat) (v:Value),g<17→w.cell? ⟨g,i,none⟩=some v→w'.cell? ⟨g,i,none⟩=some v:=fun g i v hg hc=>(hb.cell (p:=⟨g,i,none⟩) hg).trans hc
 obtain ⟨m,hm⟩:=h.max;obtain ⟨teFull,aeFull,heFull⟩:=h.eFull;obtain ⟨teLine,aeLine,heLine⟩:=h.eLine;obtain ⟨teDay,aeDay,heDay⟩:=h.eDay;obtain ⟨teAuth,aeAuth,heAuth⟩:=h.eAuth;obtain ⟨teCases,aeCases,heCases⟩:=h.eCases;obtain ⟨teCase,aeCase,heCase⟩:=h.eCase;obtain ⟨teMoney,aeMoney,heMoney⟩:=h.eMoney;obtain ⟨teAct,aeAct,heAct⟩:=h.eAct
 exact ⟨Nat.le_trans h.size hb.size,Tc h.step (g:=16) (by kernel_rfl) (by decide) hb,Tc h.pow (g:=13) (by kernel_rfl) (by decide) hb,⟨m,k _ _ _ (by decide) hm⟩,⟨_,_,k _ _ _ (by decide) heFull⟩,⟨_,_,k _ _ _ (by decide) heLine⟩,⟨_,_,k _ _ _ (by decide) heDay⟩,⟨_,_,k _ _ _ (by decide) heAuth⟩,⟨_,_,k _ _ _ (by decide) heCases⟩,⟨_,_,k _ _ _ (by decide) heCase⟩,⟨_,_,k _ _ _ (by decide) heMoney⟩,⟨_,_,k _ _ _ (by decide) heAct⟩,fun i hi=>k _ _ _ (by decide) (h.words i hi)⟩
theorem I3 {x:Int} (h:Rp x):Bf x:=WalkArith.wf_i64 (by obtain ⟨h1,h2⟩:=h;omega)
theorem cL {x:Int} (h:Bf x):-9223372036854775808≤x∧x≤9223372036854775807:=by
 simp [Bf,Lit.wf,IntKind.min,IntKind.max,IntKind.signed,IntKind.bits] at h;omega
theorem mI {iss acq cur am day:Int} (h1:Rp iss) (h2:Rp acq) (h3:Rp cur) (h4:Rp am):∀ x ∈ Ft iss acq cur am day,Ma x:=by
 intro x hx;unfold Ft at hx
 split at hx
 ·simp at hx;subst hx;exact ⟨I3 h1,I3 h2,I3 h3,I3 h4⟩
 ·cases hx
theorem Xn {c:Cs} {n:Int} (hc:Qk c) (hn:Bf n):(∀ x ∈ Bg c n,Ma x)∧(∀ x ∈ Dw c n,Ma x):=by
 obtain ⟨h1,h2,h3,-⟩:=hc
 refine ⟨fun x hx=>?_,fun x hx=>?_⟩
 ·unfold Bg at hx
  split at hx
  ·cases hx
  ·simp at hx;subst hx;exact ⟨h2,h1,h3,hn⟩
 ·unfold Dw at hx
  split at hx
  ·cases hx
  ·simp at hx;subst hx;exact ⟨h1,h2,h3,hn⟩
theorem bJ {c:Cs} {n:Int} (hc:Qk c) (hn:Bf n):∀ x ∈ Dg c n,Ma x:=by
 intro x hx;unfold Dg at hx
 rcases List.mem_append.1 hx with hx | hx
 ·exact (Xn hc hn).1 x hx
 ·simp at hx;subst hx
  obtain ⟨h1,h2,h3,-⟩:=hc
  refine ⟨?_,(show Bf 9999 from Cq (by omega)),h3,(show Bf 50000 from Cq (by omega))⟩
  show Bf (Oo c n)
  unfold Oo
  split
  ·exact h2
  ·exact h1
theorem sN {c:Cs} {a:Ac} {t:Int} {zs:List Int} (hc:Qk c) (ha:Rp a.am):∀ x ∈ doE c a t zs,Ma x:=by
 intro x hx;have hcl:Bf c.cl:=hc.2.2.2.2.2.2.1
 have hhf:Bf (c.cl / 2):=WalkArith.wf_i64 (by have:=cL hcl;omega)
 unfold doE at hx
 split at hx
 ·unfold Bw at hx
  split at hx
  ·exact (Xn hc (I3 ha)).1 x hx
  split at hx
  ·exact (Xn hc (I3 ha)).2 x hx
  split at hx
  ·exact (Xn hc hcl).1 x hx
  split at hx
  ·exact bJ hc (I3 ha) x hx
  split at hx
  ·unfold Ck at hx
   split at hx
   ·cases hx
   split at hx
   ·exact (Xn hc hcl).1 x hx
   split at hx
   ·exact bJ hc hhf x hx
   ·cases hx
  ·cases hx
 ·cases hx
theorem kU {az:List Au} {i c a d x:Int} (h:Gm az i c a d x):-1≤x:=by
 rcases h with ⟨-,h⟩ | ⟨-,rfl⟩
 ·rcases h with ⟨rfl,-⟩ | ⟨k,-,rfl,-⟩ <;> omega
 ·omega
theorem Yd:Rq F0 E0 17 where
 keep:=dK
 size:=fun w h=>h.size
 num:=fun l w h=>(Tg.iNumOf_any l w (by omega)).mono (fun e w' ⟨h1,h2⟩=>⟨h1,by rw [h2];exact bR⟩)
 dec:=fun m w h hE=>(strconv_Itoa m (by omega) (by omega) w hE.pow).mono (fun e w' hw=>by
  obtain ⟨rfl,k,os,rfl⟩:=hw
  exact ⟨by rw [Lib.itoa,if_neg (by omega)];rfl,Vi w k os⟩)
 clone:=fun l w h=>Sm l w (by omega)
 split:=fun l w h hE=>by obtain ⟨m,hm⟩:=hE.max;exact qS l m w h hm
 eFull:=fun w h=>h.eFull
 eLine:=fun w h=>h.eLine
 eDay:=fun w h=>h.eDay
 eAuth:=fun w h=>h.eAuth
 eCases:=fun w h=>h.eCases
 eCase:=fun w h=>h.eCase
 eMoney:=fun w h=>h.eMoney
 eAct:=fun w h=>h.eAct
 words:=fun w h=>h.words
 prune:=fun ao cap az t w h hn hd=>Z4 ao cap az t w h (by omega) (fun a ha=>by have:=hd a ha;omega)
 use:=fun ao cap az i w h hn hd=>jU ao cap az i w h (by omega) (fun a ha=>by have:=hd a ha;omega)
 add:=fun ao cap az a w h hn hd hl hc=>aI ao cap az a w h hn (fun x hx=>by have:=hd x hx;omega) (by omega) (I3 hc)
 best:=fun ao cap az iss cur am day w h hn hd hc w3 w4=>dP ao cap az iss cur am day w h hn (fun a ha=>by have:=hd a ha;omega) hc w3 w4
 start:=fun iss acq cur am day w h=>X2 iss acq cur am day w (I3 h)
 small:=fun iss acq cur am day=>⟨by have:=Ra iss acq cur am day;show (Ft iss acq cur am day).length≤1048576;omega,fun h1 h2 h3 h4=>mI h1 h2 h3 h4⟩
 act:=fun c a t ao cp zs w h hn hE hc=>Go.Proofs.YtomiclakhjncbaaGreatDoor.iDo_any c a t ao cp zs w h (by omega) hE.step (by have:=hE.size;omega) hc.2.2.1
 few:=fun c a t zs=>⟨by have:=bM c a t zs;show (doE c a t zs).length≤1048576;omega,fun h1 h2=>sN h1 h2⟩
 low:=fun az i c a d x h=>kU h
 stay:=fun ls es h=>by
  show Hv ls es=ls
  have h':(Ch ls es).isSome=false:=h;unfold Hv
  cases hp:Ch ls es with
  | none=>rfl
  | some g=>rw [hp] at h';cases h'
 code:=fun c a t zs=>by have:=kB c a t zs;show 0≤doV c a t zs∧doV c a t zs≤1000;omega
 post:=fun ao cap ls eo ec es w h hn hb hy hm he=>Um ao cap ls eo ec es w h hn hb hy hm he
structure Gc (B:Nat) (b:Bk) (q:Bp) (u:World):Prop where
 off:u.ownsRow B 3 1 (.slice q.o b.off.length q.oc) b.off.length (b.off.map (Value.int .i64))
 az:u.ownsRow B 107 6 (.slice q.a b.az.length q.ac) b.az.length (Ah b.az)
 cs:u.ownsRow B 61 12 (.slice q.c b.cs.length q.cc) b.cs.length (Aj b.cs)
 ls:u.ownsRow B 113 3 (.slice q.l b.ls.length q.lc) b.ls.length (Ag b.ls)
 log:u.ownsRow B 9 1 (.slice q.g b.log.length q.gc) b.log.length (Am b.log)
theorem Gc.at {B:Nat} {b:Bk} {q:Bp} {u:World} (h:Gc B b q u):Aq u b q:=⟨Hq h.off,Fd h.az,F2 h.cs,Df h.ls,Ep h.log⟩
theorem Gc.low {B B':Nat} {b:Bk} {q:Bp} {u:World} (h:Gc B b q u) (hb:B'≤B):Gc B' b q u:=⟨Ez h.off hb,Ez h.az hb,Ez h.cs hb,Ez h.ls hb,Ez h.log hb⟩
theorem KS.own5 {B K:Nat} {st:Int} {b:Bk} {q:Bp} {u:World} (h:KS B K st b q u):Gc B b q u:=⟨h.off,h.az,h.cs,h.ls,h.log⟩
theorem yZ {y:Value} (h:NF E0 y):∃ t p,y=.iface t p:=by
 obtain ⟨w,g,hE,hg,hc⟩:=h
 simp only [aL,List.mem_cons,List.not_mem_nil,or_false] at hg
 rcases hg with rfl | rfl | rfl | rfl | rfl | rfl | rfl
 ·obtain ⟨t,a,h⟩:=hE.eLine
  exact ⟨t,_,Option.some.inj (hc.symm.trans h)⟩
 ·obtain ⟨t,a,h⟩:=hE.eDay
  exact ⟨t,_,Option.some.inj (hc.symm.trans h)⟩
 ·obtain ⟨t,a,h⟩:=hE.eAuth
  exact ⟨t,_,Option.some.inj (hc.symm.trans h)⟩
 ·obtain ⟨t,a,h⟩:=hE.eCases
  exact ⟨t,_,Option.some.inj (hc.symm.trans h)⟩
 ·obtain ⟨t,a,h⟩:=hE.eCase
  exact ⟨t,_,Option.some.inj (hc.symm.trans h)⟩
 ·obtain ⟨t,a,h⟩:=hE.eMoney
  exact ⟨t,_,Option.some.inj (hc.symm.trans h)⟩
 ·obtain ⟨t,a,h⟩:=hE.eAct
  exact ⟨t,_,Option.some.inj (hc.symm.trans h)⟩
theorem wE {b:Bk} {code:Int} {v:Value} (h:rY E0 b code v):(code=0∧v=.nilIface)∨∃ t p,v=.iface 170 (.agg #[.iface t p,.int .i64 code]):=by
 rcases h with h | ⟨-,y,hy,rfl⟩
 ·exact .inl h
 ·refine .inr ?_
  split at hy
  ·obtain ⟨w,hE,hc⟩:=hy
   obtain ⟨t,a,h⟩:=hE.eFull
   exact ⟨t,_,by rw [Option.some.inj (hc.symm.trans h)]⟩
  ·obtain ⟨t,p,rfl⟩:=yZ hy
   exact ⟨t,p,rfl⟩
theorem xS {b:Bk} {code:Int} {v:Value} (w:World) (h:rY E0 b code v) (hg:R4 w):Calls prog 82 #[v] w fun e w'=>e=.returned (.int .i64 code)∧BW w w':=by
 rcases wE h with ⟨rfl,rfl⟩ | ⟨t,p,rfl⟩
 ·exact yJ w
 ·exact xD t p code w hg
def Aax (b:Bk) (line:List UInt8) (w:World) (e:Ending) (w':World):Prop :=
 ∃ (r:Bk×Int) (q:Bp),D9 F0 b line r∧e=.returned (.tuple #[C5 r.1 q,.int .i64 r.2])∧Gc w.heap.size r.1 q w'∧BW w w'
theorem vM (b:Bk) (p:Bp) (line:List UInt8) (w:World) (hx:Aq w b p) (hJ:JW b) (hE:E0 w) (hg:R4 w) (hl:line.length<1048576) :
  Calls prog 30 #[C5 b p,.string ⟨line.toArray⟩] w (Aax b line w):=by
 obtain ⟨W1,hW1⟩:∃ W,W=w.alloc (.cells #[.int .i64 b.today,.slice p.o b.off.length p.oc,.slice p.a b.az.length p.ac,.slice p.c b.cs.length p.cc,.slice p.l b.ls.length p.lc,.slice p.g b.log.length p.gc] 31):=⟨_,rfl⟩;obtain ⟨W,hW⟩:∃ W,W=W1.alloc (.cells #[.int .i64 0,.slice none 0 0,.slice none 0 0,.slice none 0 0,.slice none 0 0,.slice none 0 0] 31):=⟨_,rfl⟩
 have b1:BW w W1:=by rw [hW1];exact bR.alloc nL _
 have b2:BW W1 W:=by rw [hW];exact bR.alloc nL _
 have bW:=next b1 b2
 have zX:Z6 w.heap.size (.int .i64 b.today) (.slice p.o b.off.length p.oc) (.slice p.a b.az.length p.ac) (.slice p.c b.cs.length p.cc) (.slice p.l b.ls.length p.lc) (.slice p.g b.log.length p.gc) W1:=by rw [hW1];exact Z6.new w _ _ _ _ _ _ _
 have HZX:Hid _:=zX.below b2;obtain ⟨X,hX⟩:∃ x,w.heap.size=x:=⟨_,rfl⟩;obtain ⟨R,hR⟩:∃ x,w.heap.size+1=x:=⟨_,rfl⟩
 have hRs:W1.heap.size=R:=by rw [hW1,← hR];simp
 have HZR:Hid (Z0 R W):=by rw [Hid,hW,← hRs];exact Z6.new W1 _ _ _ _ _ _ _
 have HRW:Hid (R<W.heap.size):=HZR.o.lt
 have HWR:Hid (w.heap.size≤R):=by rw [Hid,← hR];omega
 have HBW:Hid (BW w W):=bW;have HE:Hid (E0 w):=hE;have HG:Hid (R4 w):=hg;have hP:=xW hJ;have HP:Hid (Ej b):=hP;have HL:Hid (line.length<1048576):=hl
 have HOP:Hid (Calls prog 50 #[C5 b p] W (OpR b W)):=fF Yd b p W (hx.below bW) (by
  have h1:=hJ.jc.off;have h2:=hJ.jc.az;have h3:=hJ.jc.cs;have h4:=hJ.log;have h5:=(Dq hJ.jc.led).2.1
  exact ⟨by omega,by omega,by omega,by omega,by omega⟩) (fun a ha=>(hJ.jc.ref a ha).1) hJ.gl
 have HW1:Hid _:=hW1;have HW:Hid _:=hW;have HX:Hid _:=hX;have HR:Hid _:=hR;rw [hX] at HZX;unfold C5 at HOP ⊢;clear hRs hW1 hW b1 b2 bW zX hX hR hE hg hP hl hJ hx
 go_enter func30,ntmps30
 go_upto_region 1 with fail
 rw [← HW1.o,← HW.o,HR.o,HX.o];clear HW1 HW HX HR;obtain ⟨x0,x1,x2,x3,x4,x5,-,-,-,-,-,-⟩:=HZX.o;go_wp2_with fail
 refine Calls.mono HOP.o ?_;rintro e w3 ⟨K,q,rfl,ks3,p3⟩;have HK3:Hid (KS W.heap.size K 0 b q w3):=ks3;have HB3:Hid (BW w w3):=next HBW.o p3;have HZ3:Hid (Z0 R w3):=HZR.o.below p3
 have HDO:Hid (Calls prog 83 #[.pointer (some ⟨K,0,none⟩),.string ⟨line.toArray⟩] w3 (pM E0 W.heap.size K F0 b line w3)) :=
  iDo_any Yd (Nat.le_trans HE.o.size HBW.o.size) (fun b q ao cap rs w h1 h2 h3 h4 h5=>lZ Yd (Nat.le_trans HE.o.size HBW.o.size) b q ao cap rs w h1 h2 h3 h4 h5) b q line w3 HK3.o (dK _ _ HE.o (HB3.o.mono HE.o.size)) HP.o HL.o
 clear ks3 p3 HOP x0 x1 x2 x3 x4 x5 HZX;go_wp2_with fail
 refine Calls.mono HDO.o ?_;rintro e w4 ⟨r,q4,v,hr,rfl,hv,ks4,p4⟩;have HK4:Hid (KS W.heap.size K 0 r.1 q4 w4):=ks4;have HZ4:Hid (Z0 R w4):=HZ3.o.under p4.b HRW.o;have HB4:Hid (BW w w4):=HB3.o.trans (p4.b.mono HBW.o.size);have HRL:Hid (D9 F0 b line r):=hr
 have HCO:Hid (Calls prog 82 #[v] w4 fun e w'=>e=.returned (.int .i64 r.2)∧BW w4 w'):=xS w4 hv (HG.o.below HB4.o)
 clear ks4 p4 hr hv HDO HK3 HB3 HZ3;obtain ⟨b',code⟩:=r
 simp only at HK4 HCO
 go_wp2_with fail
 refine Calls.mono HCO.o ?_;rintro e w5 ⟨rfl,p5⟩;have HK5:Hid (KS W.heap.size K 0 b' q4 w5):=HK4.o.below p5;have HZ5:Hid (Z0 R w5):=HZ4.o.below p5;have HB5:Hid (BW w w5):=next HB4.o p5
 have HHO:Hid (Calls prog 52 #[.pointer (some ⟨K,0,none⟩)] w5 fun e w'=>e=.returned (C5 b' q4)∧KS W.heap.size K 0 b' q4 w'∧Below W.heap.size w5 w'):=eG b' q4 w5 HK5.o
 unfold C5 at HHO;clear p5 HCO HK4 HZ4 HB4;go_wp2_with fail
 refine Calls.mono HHO.o ?_;rintro e w6 ⟨rfl,ks6,p6⟩;have HK6:Hid (KS W.heap.size K 0 b' q4 w6):=ks6;have HZ6:Hid (Z0 R w6):=HZ5.o.under p6 HRW.o;have HB6:Hid (BW w w6):=HB5.o.trans (p6.mono HBW.o.size);clear ks6 p6 HHO;obtain ⟨t0,t1,t2,t3,t4,t5,s0,s1,s2,s3,s4,s5⟩:=HZ6.o;go_wp2
 refine bodyPost_ret (by simp [results,results30,go_sem,t0,t1,t2,t3,t4,t5];try rfl) rfl ?_
 have o5:=HK6.o.own5;exact ⟨(b',code),q4,HRL.o,rfl,(Gc.mk (Ea o5.off HRW.o _ _ _ _ _ _) (Ea o5.az HRW.o _ _ _ _ _ _) (Ea o5.cs HRW.o _ _ _ _ _ _) (Ea o5.ls HRW.o _ _ _ _ _ _) (Ea o5.log HRW.o _ _ _ _ _ _)).low HBW.o.size,Ax HWR.o HB6.o _ _ _ _ _ _⟩
end Go.Proofs.YtomiclakhjncbaaGreatDoor.Kb
