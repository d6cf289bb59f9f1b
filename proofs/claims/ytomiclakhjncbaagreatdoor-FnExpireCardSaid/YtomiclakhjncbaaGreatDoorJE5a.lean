import Derived.Test.YtomiclakhjncbaaGreatDoorKEBkDrJ
import Derived.Test.YtomiclakhjncbaaGreatDoorKEICaseDo
import Derived.Test.YtomiclakhjncbaaGreatDoorKEKbOpen
set_option maxRecDepth 100000
set_option maxHeartbeats 12800000
namespace Go.Proofs.YtomiclakhjncbaaGreatDoor
namespace Kb
open Go.RowKit Go.Proofs.Tryz
theorem xO (a:Option Addr) (len cap:Nat) (m:Int) (w:World) (hn:len≤1048576) (hm:2≤m∧m≤100) :
  Calls prog 80 #[.slice a len cap,.int .i64 m] w fun e w'=>∃ k:Nat,e=.returned (.int .i64 k)∧(1≤(k:Int)∧(k:Int)≤m)∧w'=w:=by
 have hd:((len:Int).tdiv 20)=((len / 20:Nat):Int):=by have:=Int.tdiv_eq_ediv_of_nonneg (a:=(len:Int)) (b:=20) (by omega);omega
 obtain ⟨q,hq⟩:∃ q,len / 20=q:=⟨_,rfl⟩
 have hqb:q≤1048576:=by omega
 rw [hq] at hd
 by_cases h:m<2+(q:Int)
 ·obtain ⟨k,rfl⟩:=Int.eq_ofNat_of_zero_le (show 0≤m by omega)
  go_enter func80,ntmps80
  go_wp2;go_ret
  exact ⟨k,rfl,by omega,rfl⟩
 ·go_enter func80,ntmps80
  go_wp2;go_ret
  exact ⟨2+q,by simp,by omega,rfl⟩
theorem Tc {w w':World} {n:String} {g G:Nat} {cs:Array Value} (h:w.var? prog n=some cs) (hg:prog.globalNamed n=some g) (hG:g<G) (hb:Below G w w'):w'.var? prog n=some cs:=by
 unfold World.var? at *
 simp only [hg,Option.bind_some] at h ⊢
 rw [hb.block g hG];exact h
structure E0 (w:World):Prop where
 size:17≤w.heap.size
 step:Di w
 pow : Lib.TabIs prog w "internal/strconv.uint64pow10" .u64 Lib.pow10Tab
 max:∃ m,w.cell? ⟨10,0,none⟩=some (.int .i64 m)
 eFull:∃ t a,w.cell? ⟨1,0,none⟩=some (.iface t (.pointer (some a)))
 eLine:∃ t a,w.cell? ⟨3,0,none⟩=some (.iface t (.pointer (some a)))
 eDay:∃ t a,w.cell? ⟨4,0,none⟩=some (.iface t (.pointer (some a)))
 eAuth:∃ t a,w.cell? ⟨5,0,none⟩=some (.iface t (.pointer (some a)))
 eCases:∃ t a,w.cell? ⟨6,0,none⟩=some (.iface t (.pointer (some a)))
 eCase:∃ t a,w.cell? ⟨7,0,none⟩=some (.iface t (.pointer (some a)))
 eMoney:∃ t a,w.cell? ⟨8,0,none⟩=some (.iface t (.pointer (some a)))
 eAct:∃ t a,w.cell? ⟨9,0,none⟩=some (.iface t (.pointer (some a)))
 words:∀ k,k<10→w.cell? ⟨0,k,none⟩=some (.string ⟨(Al Dm k).toArray⟩)
theorem Vi (w:World) (q:Nat) (os:Array Obj):Below w.heap.size w (Go.Sort.grow (w.drewN q) os) :=
 ⟨rfl,rfl,rfl,by simp [Go.Sort.grow,World.drewN],fun k hk=>by simp [Go.Sort.grow,World.drewN,Array.getElem?_append,hk]⟩
theorem dK (w w':World) (h:E0 w) (hb:Below 17 w w'):E0 w':=by
 have k:∀ (g i:Nat) (v:Value),g<17→w.cell? ⟨g,i,none⟩=some v→w'.cell? ⟨g,i,none⟩=some v:=fun g i v hg hc=>(hb.cell (p:=⟨g,i,none⟩) hg).trans hc
 obtain ⟨m,hm⟩:=h.max;obtain ⟨teFull,aeFull,heFull⟩:=h.eFull;obtain ⟨teLine,aeLine,heLine⟩:=h.eLine;obtain ⟨teDay,aeDay,heDay⟩:=h.eDay;obtain ⟨teAuth,aeAuth,heAuth⟩:=h.eAuth;obtain ⟨teCases,aeCases,heCases⟩:=h.eCases;obtain ⟨teCase,aeCase,heCase⟩:=h.eCase;obtain ⟨teMoney,aeMoney,heMoney⟩:=h.eMoney;obtain ⟨teAct,aeAct,heAct⟩:=h.eAct
 exact ⟨Nat.le_trans h.size hb.size,Tc h.step (g:=16) (by kernel_rfl) (by decide) hb,Tc h.pow (g:=13) (by kernel_rfl) (by decide) hb,⟨m,k _ _ _ (by decide) hm⟩,⟨_,_,k _ _ _ (by decide) heFull⟩,⟨_,_,k _ _ _ (by decide) heLine⟩,⟨_,_,k _ _ _ (by decide) heDay⟩,⟨_,_,k _ _ _ (by decide) heAuth⟩,⟨_,_,k _ _ _ (by decide) heCases⟩,⟨_,_,k _ _ _ (by decide) heCase⟩,⟨_,_,k _ _ _ (by decide) heMoney⟩,⟨_,_,k _ _ _ (by decide) heAct⟩,fun i hi=>k _ _ _ (by decide) (h.words i hi)⟩
theorem I3 {x:Int} (h:Rp x):Bf x:=WalkArith.wf_i64 (by obtain ⟨h1,h2⟩:=h;omega)
theorem cL {x:Int} (h:Bf x):-9223372036854775808≤x∧x≤9223372036854775807:=by
 simp [Bf,Lit.wf,IntKind.min,IntKind.max,IntKind.signed,IntKind.bits] at h;omega
theorem mI {iY aZ uV am day:Int} (h1:Rp iY) (h2:Rp aZ) (h3:Rp uV) (h4:Rp am):∀ x ∈ Ft iY aZ uV am day,Ma x:=by
 intro x hx;unfold Ft at hx
 split at hx
 ·simp at hx;subst hx;exact ⟨I3 h1,I3 h2,I3 h3,I3 h4⟩
 ·cases hx
theorem Xn {c:Cs} {n:Int} (hc:Qk c) (hn:Bf n):(∀ x ∈ Bg c n,Ma x)∧(∀ x ∈ Dw c n,Ma x):=by
 obtain ⟨h1,h2,h3,-⟩:=hc
 refine ⟨fun x hx=>?_,fun x hx=>?_⟩
 ·unfold Bg at hx
  split at hx
  ·cases hx
  ·simp at hx;subst hx;exact ⟨h2,h1,h3,hn⟩
 ·unfold Dw at hx
  split at hx
  ·cases hx
  ·simp at hx;subst hx;exact ⟨h1,h2,h3,hn⟩
theorem bJ {c:Cs} {n:Int} (hc:Qk c) (hn:Bf n):∀ x ∈ Dg c n,Ma x:=by
 intro x hx;unfold Dg at hx
 rcases List.mem_append.1 hx with hx | hx
 ·exact (Xn hc hn).1 x hx
 ·simp at hx;subst hx
  obtain ⟨h1,h2,h3,-⟩:=hc
  refine ⟨?_,(show Bf 9999 from Cq (by omega)),h3,(show Bf 50000 from Cq (by omega))⟩
  show Bf (Oo c n)
  unfold Oo
  split
  ·exact h2
  ·exact h1
theorem sN {c:Cs} {a:Ac} {t:Int} {zs:List Int} (hc:Qk c) (ha:Rp a.am):∀ x ∈ doE c a t zs,Ma x:=by
 intro x hx;have hcl:Bf c.cl:=hc.2.2.2.2.2.2.1
 have hhf:Bf (c.cl / 2):=WalkArith.wf_i64 (by have:=cL hcl;omega)
 unfold doE at hx
 split at hx
 ·unfold Bw at hx
  split at hx
  ·exact (Xn hc (I3 ha)).1 x hx
  split at hx
  ·exact (Xn hc (I3 ha)).2 x hx
  split at hx
  ·exact (Xn hc hcl).1 x hx
  split at hx
  ·exact bJ hc (I3 ha) x hx
  split at hx
  ·unfold Ck at hx
   split at hx
   ·cases hx
   split at hx
   ·exact (Xn hc hcl).1 x hx
   split at hx
   ·exact bJ hc hhf x hx
   ·cases hx
  ·cases hx
 ·cases hx
theorem kU {az:List Au} {i c a d x:Int} (h:Gm az i c a d x):-1≤x:=by
 rcases h with ⟨-,h⟩ | ⟨-,rfl⟩
 ·rcases h with ⟨rfl,-⟩ | ⟨k,-,rfl,-⟩ <;> omega
 ·omega
theorem Yd:Rq F0 E0 17 where
 keep:=dK
 size:=fun w h=>h.size
 num:=fun l w h=>(Tg.iNumOf_any l w (by omega)).mono (fun e w' ⟨h1,h2⟩=>⟨h1,by rw [h2];exact bR⟩)
 dec:=fun m w h hE=>(strconv_Itoa m (by omega) (by omega) w hE.pow).mono (fun e w' hw=>by
  obtain ⟨rfl,k,os,rfl⟩:=hw
  exact ⟨by rw [Lib.itoa,if_neg (by omega)];rfl,Vi w k os⟩)
 clone:=fun l w h=>Sm l w (by omega)
 split:=fun l w h hE=>by obtain ⟨m,hm⟩:=hE.max;exact qS l m w h hm
 eFull:=fun w h=>h.eFull
 eLine:=fun w h=>h.eLine
 eDay:=fun w h=>h.eDay
 eAuth:=fun w h=>h.eAuth
 eCases:=fun w h=>h.eCases
 eCase:=fun w h=>h.eCase
 eMoney:=fun w h=>h.eMoney
 eAct:=fun w h=>h.eAct
 words:=fun w h=>h.words
 prune:=fun ao cap az t w h hn hd=>Z4 ao cap az t w h (by omega) (fun a ha=>by have:=hd a ha;omega)
 use:=fun ao cap az i w h hn hd=>jU ao cap az i w h (by omega) (fun a ha=>by have:=hd a ha;omega)
 add:=fun ao cap az a w h hn hd hl hc=>aI ao cap az a w h hn (fun x hx=>by have:=hd x hx;omega) (by omega) (I3 hc)
 best:=fun ao cap az iY uV am day w h hn hd hc w3 w4=>dP ao cap az iY uV am day w h hn (fun a ha=>by have:=hd a ha;omega) hc w3 w4
 start:=fun iY aZ uV am day w h=>X2 iY aZ uV am day w (I3 h)
 small:=fun iY aZ uV am day=>⟨by have:=Ra iY aZ uV am day;show (Ft iY aZ uV am day).length≤1048576;omega,fun h1 h2 h3 h4=>mI h1 h2 h3 h4⟩
 act:=fun c a t ao cp zs w h hn hE hc=>Go.Proofs.YtomiclakhjncbaaGreatDoor.iDo_any c a t ao cp zs w h (by omega) hE.step (by have:=hE.size;omega) hc.2.2.1
 few:=fun c a t zs=>⟨by have:=bM c a t zs;show (doE c a t zs).length≤1048576;omega,fun h1 h2=>sN h1 h2⟩
 low:=fun az i c a d x h=>kU h
 stay:=fun ls es h=>by
  show Hv ls es=ls
  have h':(Ch ls es).isSome=false:=h;unfold Hv
  cases hp:Ch ls es with
  | none=>rfl
  | some g=>rw [hp] at h';cases h'
 code:=fun c a t zs=>by have:=kB c a t zs;show 0≤doV c a t zs∧doV c a t zs≤1000;omega
 post:=fun ao cap ls eo ec es w h hn hb hy hm he=>Um ao cap ls eo ec es w h hn hb hy hm he
def Gj (n:Nat):List UInt8:=[97,99,116,32]++Lib.decDigits n++[32]++Al Dm 8++[32,48,32,48]
def Ka (R:Bk→List UInt8→Bk×Int→Prop):Bk→List Nat→Bk→Nat→Prop
 | b,[],b',n=>b'=b∧n=0
 | b,d::ds,b',n=>∃ r,R b (Gj d) r∧((r.2=0∧∃ m,n=m+1∧Ka R r.1 ds b' m)∨(r.2≠0∧Ka R b ds b' n))
theorem Pw {R:Bk→List UInt8→Bk×Int→Prop} {d:Nat} {b1 b2:Bk} : ∀ {b:Bk} {ds:List Nat} {m:Nat},Ka R b ds b1 m→R b1 (Gj d) (b2,0)→Ka R b (ds++[d]) b2 (m+1)
 | b,[],m,h,hd=>by
  simp only [Ka] at h
  obtain ⟨rfl,rfl⟩:=h;exact ⟨(b2,0),hd,.inl ⟨rfl,0,rfl,rfl,rfl⟩⟩
 | b,x::xs,m,h,hd=>by
  obtain ⟨r,hr,h⟩:=h
  rcases h with ⟨hc,k,rfl,h⟩ | ⟨hc,h⟩
  ·exact ⟨r,hr,.inl ⟨hc,k+1,rfl,Pw h hd⟩⟩
  ·exact ⟨r,hr,.inr ⟨hc,Pw h hd⟩⟩
theorem Qi {R:Bk→List UInt8→Bk×Int→Prop} {d:Nat} {b1:Bk} {r:Bk×Int} : ∀ {b:Bk} {ds:List Nat} {m:Nat},Ka R b ds b1 m→R b1 (Gj d) r→r.2≠0→Ka R b (ds++[d]) b1 m
 | b,[],m,h,hd,hn=>by
  simp only [Ka] at h
  obtain ⟨rfl,rfl⟩:=h;exact ⟨r,hd,.inr ⟨hn,rfl,rfl⟩⟩
 | b,x::xs,m,h,hd,hn=>by
  obtain ⟨r0,hr,h⟩:=h
  rcases h with ⟨hc,k,rfl,h⟩ | ⟨hc,h⟩
  ·exact ⟨r0,hr,.inl ⟨hc,k,rfl,Qi h hd hn⟩⟩
  ·exact ⟨r0,hr,.inr ⟨hc,Qi h hd hn⟩⟩
theorem nT {F:Ff} {b:Bk} {l:List UInt8} (h:600≤b.log.length):D9 F b l (b,2):=by rw [D9,if_pos h]
theorem Xl {F:Ff} {b1:Bk} {m:Nat} (hf:600≤b1.log.length):∀ (es:List Nat) {b:Bk} {ds:List Nat},Ka (D9 F) b ds b1 m→Ka (D9 F) b (ds++es) b1 m
 | [],b,ds,h=>by rw [List.append_nil];exact h
 | e::es,b,ds,h=>by
  rw [List.append_cons]
  exact Xl hf es (Qi h (nT hf) (by show (2:Int)≠0;decide))
def It:Nat:=1
theorem oP:∀ g ∈ It::aL,g<17:=by decide
structure E1 (G:Nat) (A:Nat→Addr) (w:World):Prop where
 e0:E0 w
 gs:17≤G
 big:G≤w.heap.size
 pt:∀ g ∈ It::aL,w.cell? ⟨g,0,none⟩=some (.iface 372 (.pointer (some (A g))))∧(A g).block<G∧∃ c t,w.heap[(A g).block]?=some (.cells c t (0,0))
 ne:∀ g ∈ aL,A g≠A It
theorem Gx {G:Nat} {A:Nat→Addr} (w w':World) (h:E1 G A w) (hb:Below G w w'):E1 G A w' :=
 ⟨dK w w' h.e0 (hb.mono h.gs),h.gs,Nat.le_trans h.big hb.size,fun g hg=>by
  obtain ⟨h1,h2,c,t,h3⟩:=h.pt g hg;exact ⟨(hb.cell (p:=⟨g,0,none⟩) (Nat.lt_of_lt_of_le (oP g hg) h.gs)).trans h1,h2,c,t,(hb.block _ h2).trans h3⟩,h.ne⟩
theorem kn1 (G:Nat) (A:Nat→Addr):Rq F0 (E1 G A) G :=
 { Yd with
  keep:=Gx
  size:=fun _ h=>h.big
  dec:=fun m w h e=>Yd.dec m w h e.e0
  split:=fun l w h e=>Yd.split l w h e.e0
  eFull:=fun w e=>Yd.eFull w e.e0
  eLine:=fun w e=>Yd.eLine w e.e0
  eDay:=fun w e=>Yd.eDay w e.e0
  eAuth:=fun w e=>Yd.eAuth w e.e0
  eCases:=fun w e=>Yd.eCases w e.e0
  eCase:=fun w e=>Yd.eCase w e.e0
  eMoney:=fun w e=>Yd.eMoney w e.e0
  eAct:=fun w e=>Yd.eAct w e.e0
  words:=fun w e=>Yd.words w e.e0
  act:=fun c a t ao cp zs w h1 h2 e h3=>Yd.act c a t ao cp zs w h1 h2 e.e0 h3 }
theorem rW {G:Nat} {A:Nat→Addr} {y:Value} (h:NF (E1 G A) y):∃ g ∈ aL,y=.iface 372 (.pointer (some (A g))):=by
 obtain ⟨w,g,he,hg,hc⟩:=h;exact ⟨g,hg,Option.some.inj (hc.symm.trans (he.pt g (List.mem_cons_of_mem _ hg)).1)⟩
theorem sF {G:Nat} {A:Nat→Addr} {y:Value} (h:FV (E1 G A) y):y=.iface 372 (.pointer (some (A It))):=by
 obtain ⟨w,he,hc⟩:=h;exact Option.some.inj (hc.symm.trans (he.pt It (List.mem_cons_self ..)).1)
theorem pG {G:Nat} {A:Nat→Addr} {b:Bk} {c:Int} {y:Value} {w:World} (hf:600≤b.log.length) (hy:if 600≤b.log.length then FV (E1 G A) y else NF (E1 G A) y) :
  Calls prog 128 #[.iface 170 (.agg #[y,.int .i64 c]),.iface 372 (.pointer (some (A It)))] w fun e w'=>e=.returned (.bool true)∧BW w w':=by
 rw [if_pos hf] at hy;rw [sF hy];exact qD c _ w
theorem qA {G:Nat} {A:Nat→Addr} {b:Bk} {c:Int} {y:Value} {w:World} (he:E1 G A w) (hf:¬ 600≤b.log.length) (hy:if 600≤b.log.length then FV (E1 G A) y else NF (E1 G A) y) :
  Calls prog 128 #[.iface 170 (.agg #[y,.int .i64 c]),.iface 372 (.pointer (some (A It)))] w fun e w'=>e=.returned (.bool false)∧BW w w':=by
 rw [if_neg hf] at hy;obtain ⟨g,hg,rfl⟩:=rW hy;obtain ⟨-,-,ca,ta,ha⟩:=he.pt g (List.mem_cons_of_mem _ hg);obtain ⟨-,-,cb,tb,hb⟩:=he.pt It (List.mem_cons_self ..);exact nA c _ _ ca cb ta tb w (he.ne g hg) ha hb
theorem Kr (a b:List UInt8) (h:a.length+b.length≤1000) (w:World):(Op.stringOp .add ⟨a.toArray⟩ ⟨b.toArray⟩).run prog w=.ok (.string ⟨(a++b).toArray⟩) w:=by
 rw [run_string_add_sum w _ _ (by rw [Fo,Fo];omega),Lb]
theorem N0 {d:Nat} (h:d<1000000000000000000):(Lib.decDigits d).length≤21:=Tg.uY d (by omega)
theorem Mk {d:Nat} (h:d<1000000000000000000):(Gj d).length≤50:=by
 have:=N0 h
 have:(Al Dm 8).length=6:=by decide
 unfold Gj
 simp only [List.length_append,List.length_cons,List.length_nil]
 omega
theorem nQ {d:Nat} (h:d<1000000000000000000):∃ C1 C2 C3:ByteArray,(∀ w,(Op.stringOp .add ⟨#[97,99,116,32]⟩ ⟨(Lib.decDigits d).toArray⟩).run prog w=.ok (.string C1) w)∧(∀ w,(Op.stringOp .add C1 ⟨#[32]⟩).run prog w=.ok (.string C2) w)∧(∀ w,(Op.stringOp .add C2 ⟨(Al Dm 8).toArray⟩).run prog w=.ok (.string C3) w)∧(∀ w,(Op.stringOp .add C3 ⟨#[32,48,32,48]⟩).run prog w=.ok (.string ⟨(Gj d).toArray⟩) w):=by
 have h1:=N0 h
 have h2:(Al Dm 8).length=6:=by decide
 exact ⟨_,_,_,fun w=>Kr [97,99,116,32] _ (by simp;omega) w,fun w=>Kr _ [32] (by simp;omega) w,fun w=>Kr _ (Al Dm 8) (by simp [h2];omega) w,fun w=>Kr _ [32,48,32,48] (by simp [h2];omega) w⟩
def ExR (B K:Nat) (J:Bk→Prop) (b:Bk) (ds:List Nat) (w:World) (e:Ending) (w':World):Prop :=
 ∃ (n:Nat) (b':Bk) (q:Bp),e=.returned (.int .i64 (n:Int))∧n≤ds.length∧Ka (D9 F0) b ds b' n∧J b'∧KS B K 0 b' q w'∧Ce B w w'
theorem lQ {G B K:Nat} {A:Nat→Addr} (hGB:G≤B) {J:Bk→Prop} (hJP:∀ b,J b→Ej b) (hJS:∀ b (d:Nat) b2,d<1000000000000000000→J b→D9 F0 b (Gj d) (b2,0)→J b2) (b:Bk) (q:Bp) (m:Nat) (a:Option Addr) (cap:Nat) (ds:List Nat) (zs:List Int) (hzs:zs=ds.map fun d:Nat=>(d:Int)) (w:World) (hk:KS B K 0 b q w) (hE:E1 G A w) (hJ:J b)
  (ho:w.ownsRow m 3 1 (.slice a zs.length cap) zs.length (zs.map (Value.int .i64))) (hd:∀ d ∈ ds,d<1000000000000000000) (hn:zs.length≤1048576) :
  Calls prog 76 #[.pointer (some ⟨K,0,none⟩),.slice a zs.length cap] w (ExR B K J b ds w):=by
 have HDO:Hid (∀ (b':Bk) (q':Bp) (u:World) (d:Nat),d<1000000000000000000→J b'→KS B K 0 b' q' u→E1 G A u→Calls prog 83 #[.pointer (some ⟨K,0,none⟩),.string ⟨(Gj d).toArray⟩] u (pM (E1 G A) B K F0 b' (Gj d) u)):=fun b' q' u d h1 hj ks he=>iDo_any (kn1 G A) hGB (fun b q ao cap rs w h1 h2 h3 h4 h5=>lZ (kn1 G A) hGB b q ao cap rs w h1 h2 h3 h4 h5) b' q' _ u ks he (hJP _ hj) (by have:=Mk h1;omega)
 have HJS:Hid (∀ b (d:Nat) b2,d<1000000000000000000→J b→D9 F0 b (Gj d) (b2,0)→J b2):=hJS;have HO:Hid (w.ownsRow m 3 1 (.slice a zs.length cap) zs.length (zs.map (Value.int .i64))):=ho
 have HE:Hid (∀ u,Ce B w u→E1 G A u):=fun u h=>Gx _ _ hE (h.b.mono hGB)
 have HDM:Hid (∀ d ∈ ds,d<1000000000000000000):=hd;have HK0:Hid (KS B K 0 b q w):=hk;have HJ0:Hid (J b):=hJ;have HD0:Hid (Ka (D9 F0) b (ds.take 0) b 0):=⟨rfl,rfl⟩
 have hl:zs.length=ds.length:=by rw [hzs,List.length_map]
 have HZS:Hid (zs=ds.map fun d:Nat=>(d:Int)):=hzs
 have HLL:Hid (zs.length=ds.length):=hl;clear hGB hJP hJS hk hE hJ ho hd hl hzs
 go_enter func76,ntmps76
 go_wp2
 go_loopw [5,11] (fun s i wr=>∃ (k n:Nat) (b':Bk) (q':Bp),s=.int .i64 (n:Int)∧i=.int .i64 (k:Int)∧k≤zs.length∧n≤k∧Ka (D9 F0) b (ds.take k) b' n∧J b'∧KS B K 0 b' q' wr∧Ce B w wr) (fun _ i _=>zs.length - (intOf i).toNat)
 case atStart=>exact ⟨0,0,b,q,rfl,rfl,Nat.zero_le _,nL,HD0.o,HJ0.o,HK0.o,Ce.refl _ _⟩
 case round =>
  obtain ⟨k,n,b',q',rfl,rfl,hk,hnk,hdid,hj,hks,hbr⟩:=hrel;have HDD:Hid (Ka (D9 F0) b (ds.take k) b' n):=hdid;have HJJ:Hid (J b'):=hj;have HKK:Hid (KS B K 0 b' q' wr):=hks;have HBR:Hid (Ce B w wr):=hbr;have HEW:Hid (E1 G A wr):=HE.o wr hbr;clear hdid hj hks hbr
  by_cases hlt:k<zs.length
  ·have hki:(k:Int)<(zs.length:Int):=by omega
   have hkd:k<ds.length:=by rw [← HLL.o];exact hlt
   obtain ⟨d,hdk⟩:∃ d,ds[k]=d:=⟨_,rfl⟩
   have hd18:d<1000000000000000000:=HDM.o d (by rw [← hdk];exact List.getElem_mem hkd)
   obtain ⟨gb,off,rfl,hcell⟩:∃ gb off,a=some ⟨gb,off,none⟩∧wr.cell? ⟨gb,off+k,none⟩=some (.int .i64 (d:Int)):=by
    rcases Hq (iS HO.o HBR.o (by decide)) with h | ⟨gb,off,h1,h2,h3⟩
    ·rw [h] at hlt;simp at hlt
    ·refine ⟨gb,off,h1,(h3 k hlt).trans ?_⟩
     have:zs.getD k 0=(d:Int):=by rw [HZS.o,← hdk];simp [hkd]
     rw [this]
   have HTK:Hid (ds.take (k+1)=ds.take k++[d]):=by rw [Hid,← hdk];exact List.take_succ_eq_append_getElem hkd
   have HNX:Hid (∀ b2,D9 F0 b' (Gj d) (b2,0)→J b2∧Ka (D9 F0) b (ds.take (k+1)) b2 (n+1)):=fun b2 h=>⟨HJS.o b' d b2 hd18 HJJ.o h,by rw [HTK.o];exact Pw HDD.o h⟩
   have HNO:Hid (∀ r,D9 F0 b' (Gj d) r→r.2≠0→r.1=b'∧Ka (D9 F0) b (ds.take (k+1)) b' n):=fun r h hc=>⟨sP h hc,by rw [HTK.o];exact Qi HDD.o h hc⟩
   have HFU:Hid (600≤b'.log.length→Ka (D9 F0) b ds b' n):=fun hf=>by
    have h:=Xl hf (ds.drop k) HDD.o
    rwa [List.take_append_drop] at h
   have hnd:n≤ds.length:=by have:=HLL.o;omega
   have HCD:Hid (∀ u,BW wr u→Calls prog 83 #[.pointer (some ⟨K,0,none⟩),.string ⟨(Gj d).toArray⟩] u (pM (E1 G A) B K F0 b' (Gj d) u)):=fun u h=>HDO.o b' q' u d hd18 HJJ.o (HKK.o.below h) (Gx _ _ HEW.o (h.mono HEW.o.big))
   have HIT:Hid (∀ u,BW wr u→Calls prog 127 #[.int .i64 (d:Int)] u fun e w'=>e=.returned (.string ⟨(Lib.decDigits d).toArray⟩)∧BW u w'):=fun u h=>Yd.dec d u hd18 (Gx _ _ HEW.o (h.mono HEW.o.big)).e0
   have HWD:Hid (∀ u,BW wr u→u.cell? ⟨0,8,none⟩=some (.string ⟨(Al Dm 8).toArray⟩)):=fun u h=>(Gx _ _ HEW.o (h.mono HEW.o.big)).e0.words 8 (by omega)
   obtain ⟨C1,C2,C3,r1,r2,r3,r4⟩:=nQ hd18;have HBW:Hid (B≤wr.heap.size):=HKK.o.lt;obtain ⟨L,hL⟩:∃ L:ByteArray,⟨(Gj d).toArray⟩=L:=⟨_,rfl⟩;obtain ⟨D,hD⟩:∃ L:ByteArray,⟨(Lib.decDigits d).toArray⟩=L:=⟨_,rfl⟩;obtain ⟨WB,hW⟩:∃ L:ByteArray,⟨(Al Dm 8).toArray⟩=L:=⟨_,rfl⟩;rw [hL] at r4 HCD;rw [hD] at r1 HIT;rw [hW] at r3 HWD;have q8:=HWD.o wr bR;clear hL hD hW hdk hkd;go_upto_region 5 with fail
   go_region_law (first
    | (go_simp;go_at_call 127;(refine Calls.mono (HIT.o _ (by go_grown)) ?_);rintro e u1 ⟨rfl,p1⟩;have k1:BW wr u1:=next (by go_grown) p1;have q8':=HWD.o u1 k1;clear p1)
    | (go_simp;go_at_call 83;(refine Calls.mono (HCD.o _ (by go_grown)) ?_);rintro e u2 ⟨⟨b2,c2⟩,q2,v,hr,rfl,hv,ks2,p2⟩;have HK2:Hid (KS B K 0 b2 q2 u2):=ks2;have HB2:Hid (Ce B w u2):=HBR.o.trans ((Ce.of (by go_grown) HBW.o).trans p2);have HR2:Hid (D9 F0 b' (Gj d) (b2,c2)):=hr;have HV2:Hid (rY (E1 G A) b' c2 v):=hv;clear ks2 p2 hr hv)
    | fail)
   all_goals
    have HE2:Hid (E1 G A u2):=HE.o _ HB2.o;have f2:=(HE2.o.pt It (List.mem_cons_self ..)).1;have hv:=HV2.o;clear HV2;unfold It at f2
    rcases hv with ⟨hc,rfl⟩ | ⟨hc,y,hy,rfl⟩
    ·subst hc
     obtain ⟨j2,d2⟩:=HNX.o b2 HR2.o;have HJ2:Hid (J b2):=j2;have HD2:Hid (Ka (D9 F0) b (ds.take (k+1)) b2 (n+1)):=d2;have HIS:Hid _:=qM (A 1) u2;clear j2 d2;go_wp2_with fail
     refine Calls.mono HIS.o ?_;rintro e u3 ⟨rfl,hu3⟩;subst hu3;go_wp2
     go_roundw
     case rel=>exact ⟨k+1,n+1,b2,q2,by go_num,by go_num,by omega,by omega,HD2.o,HJ2.o,HK2.o,HB2.o⟩
     case measure=>simp [intOf];omega
    ·obtain ⟨e2,d2⟩:=HNO.o _ HR2.o hc
     simp only at e2
     subst e2;have HD2:Hid (Ka (D9 F0) b (ds.take (k+1)) b2 n):=d2;clear d2
     by_cases hf:600≤b2.log.length
     ·have HIS:Hid _:=pG (c:=c2) (w:=u2) hf hy
      have HFF:Hid (600≤b2.log.length):=hf;clear hy hf hc;unfold It at HIS;go_wp2_with fail
      refine Calls.mono HIS.o ?_;rintro e u3 ⟨rfl,p3⟩;have HK3:Hid (KS B K 0 b2 q2 u3):=HK2.o.below p3;have HB3:Hid (Ce B w u3):=HB2.o.trans (.of p3 HK2.o.lt);have HEN:Hid (ExR B K J b ds w (.returned (.int .i64 (n:Int))) u3):=⟨n,b2,q2,rfl,hnd,HFU.o HFF.o,HJJ.o,HK3.o,HB3.o⟩;clear p3;go_wp2;go_ret;exact HEN.o
     ·have HIS:Hid _:=qA (c:=c2) HE2.o hf hy
      clear hy hf hc;unfold It at HIS;go_wp2_with fail
      refine Calls.mono HIS.o ?_;rintro e u3 ⟨rfl,p3⟩;have HK3:Hid (KS B K 0 b2 q2 u3):=HK2.o.below p3;have HB3:Hid (Ce B w u3):=HB2.o.trans (.of p3 HK2.o.lt);clear p3;go_wp2
      go_roundw
      case rel=>exact ⟨k+1,n,b2,q2,by go_num,by go_num,by omega,by omega,HD2.o,HJJ.o,HK3.o,HB3.o⟩
      case measure=>simp [intOf];omega
  ·have hke:k=zs.length:=by omega
   subst hke
   have hki:¬ (zs.length:Int)<(zs.length:Int):=by omega
   have hnd:n≤ds.length:=by have:=HLL.o;omega
   have HF:Hid (ExR B K J b ds w (.returned (.int .i64 (n:Int))) wr):=⟨n,b',q',rfl,hnd,by have h:=HDD.o;rwa [HLL.o,List.take_length] at h,HJJ.o,HKK.o,HBR.o⟩
   go_wp2;go_ret;exact HF.o
structure Gc (B:Nat) (b:Bk) (q:Bp) (u:World):Prop where
 off:u.ownsRow B 3 1 (.slice q.o b.off.length q.oc) b.off.length (b.off.map (Value.int .i64))
 az:u.ownsRow B 107 6 (.slice q.a b.az.length q.ac) b.az.length (Ah b.az)
 cs:u.ownsRow B 61 12 (.slice q.c b.cs.length q.cc) b.cs.length (Aj b.cs)
 ls:u.ownsRow B 113 3 (.slice q.l b.ls.length q.lc) b.ls.length (Ag b.ls)
 log:u.ownsRow B 9 1 (.slice q.g b.log.length q.gc) b.log.length (Am b.log)
theorem Gc.at {B:Nat} {b:Bk} {q:Bp} {u:World} (h:Gc B b q u):Aq u b q:=⟨Hq h.off,Fd h.az,F2 h.cs,Df h.ls,Ep h.log⟩
theorem Gc.low {B B':Nat} {b:Bk} {q:Bp} {u:World} (h:Gc B b q u) (hb:B'≤B):Gc B' b q u:=⟨Ez h.off hb,Ez h.az hb,Ez h.cs hb,Ez h.ls hb,Ez h.log hb⟩
theorem KS.own5 {B K:Nat} {st:Int} {b:Bk} {q:Bp} {u:World} (h:KS B K st b q u):Gc B b q u:=⟨h.off,h.az,h.cs,h.ls,h.log⟩
theorem Acd (b:Bk) (l:List UInt8) (b2:Bk) (hl:l.length<1048576) (h:JW b) (hd:D9 F0 b l (b2,0)) (hx:∃ r,Fg Fu b l r):JW b2:=by
 obtain ⟨r,hr⟩:=hx;have h1:=(W4 hd hr).1
 have h2:=zW h (by omega) hr
 rw [← h1] at h2;exact h2
theorem iM (b:Bk) (l:List UInt8) {r:Bk×Int} (h:D9 F0 b l r):∃ r',Fg Fu b l r':=by
 unfold D9 at h
 split at h
 ·exact ⟨(b,2),.inl ⟨‹_›,rfl⟩⟩
 ·rename_i hf
  obtain ⟨r0,h0,-⟩:=h
  have hs:∃ s,Fu b l s:=by
   unfold Fu Db
   split
   ·exact ⟨_,rfl⟩
   split
   ·split
    ·exact ⟨_,rfl⟩
    ·exact ⟨_,rfl⟩
   split
   ·rename_i hp
    split
    ·rename_i hn
     unfold D6 at h0
     simp only [Da,Bool.and_eq_true,decide_eq_true_eq] at hp
     have e0:=hp.1
     rw [if_neg (by rw [e0];decide),if_neg (by rw [e0];decide),if_pos e0] at h0
     unfold Fh at h0
     rw [if_pos ⟨hn,by rw [List.length_drop];omega⟩] at h0
     obtain ⟨x,hx,-⟩:=h0;obtain ⟨a,c,d,e,f,hws⟩:=M9 hp.2;rw [hws] at hx ⊢;exact ⟨_,x,hx,rfl⟩
    ·exact ⟨_,rfl⟩
   split
   ·split
    ·exact ⟨_,rfl⟩
    ·exact ⟨_,rfl⟩
   ·exact ⟨_,rfl⟩
  obtain ⟨s,hs⟩:=hs
  by_cases hc:s.2=0
  ·exact ⟨_,.inr ⟨by omega,s,hs,.inr ⟨hc,rfl⟩⟩⟩
  ·exact ⟨_,.inr ⟨by omega,s,hs,.inl ⟨hc,rfl⟩⟩⟩
theorem Yx {es:List En} : ∀ {ls gs:List Ln},Ch ls es=some gs→(gs=ls)∨At gs=true:=by
 induction es with
 | nil=>intro ls gs h;rw [Ch] at h;injection h with h;exact .inl h.symm
 | cons e r ih =>
  intro ls gs h;rw [Ch] at h
  split at h
  ·rename_i hp
   rcases ih h with rfl | h'
   ·exact .inr (N1 hp).2
   ·exact .inr h'
  ·cases h
theorem lN (ls:List Ln) (es:List En):Hv ls es=ls∨At (Hv ls es)=true:=by
 unfold Hv
 cases h:Ch ls es with
 | none=>exact .inl rfl
 | some gs=>exact Yx h
theorem Ww {ls:List Ln} (es:List En) (hb:∀ x ∈ ls,Hw x) (hl:ls.length≤1048576):(∀ x ∈ Hv ls es,Hw x)∧(Hv ls es).length≤1048576:=by
 rcases lN ls es with e | h
 ·rw [e];exact ⟨hb,hl⟩
 ·exact ⟨Vm h,by have:=(Dq h).2.1;omega⟩
theorem oD {b:Bk} {l:List UInt8} {r:Bk×Int} (hl:l.length≤1048576) (h:Ej b) (hr:Fu b l r) (hc:r.2=0):Ej r.1:=by
 obtain ⟨h1,h2,h3,h4,h5⟩:=h.sm;unfold Fu Db at hr
 split at hr
 ·rw [hr] at hc ⊢
  unfold Fr at hc ⊢
  split at hc
  ·rename_i hd
   rw [if_pos hd];have hw:=Ei hd.1
   have hp:∀ a ∈ E5 b.az (Ae (Al (Ab l) 1)),a ∈ b.az:=fun a ha=>by
    unfold E5 at ha
    split at ha
    ·exact (List.mem_filter.1 ha).1
    ·cases ha
   exact ⟨⟨h1,Nat.le_trans (Yp b.az _) h2,h3,h4,h5⟩,fun a ha=>h.ref a (hp a ha),fun a ha=>h.cur a (hp a ha),h.cc,h.lb,(by show (Lit.int .i64 (Ae (Al (Ab l) 1))).wf=true;exact Cq (by omega))⟩
  ·simp at hc
 split at hr
 ·rename_i ha
  split at hr
  ·rw [hr] at hc ⊢
   unfold Fq at hc ⊢
   split at hc
   ·rename_i hok
    rw [if_pos hok];have hok':addOk b.az ⟨Al (Ab l) 1,Ae (Al (Ab l) 2),Ae (Al (Ab l) 3),Ae (Al (Ab l) 4),b.today,false⟩=true:=hok;have hq:=hok'
    simp only [addOk,Bool.and_eq_true,decide_eq_true_eq] at hq
    have h5':(Ab l).length=5:=by simp [Bq] at ha;exact ha.2
    have hsh:=Ee l _ (F7 (rs:=Ab l) (k:=1) (by omega))
    refine ⟨⟨h1,?_,h3,h4,h5⟩,fun a hm=>?_,fun a hm=>?_,h.cc,h.lb,h.day⟩
    ·exact Nat.le_trans (jO b.az _) (by omega)
    ·have hm':a ∈ Hp b.az _:=hm
     rw [Nk hok'] at hm'
     rcases List.mem_append.1 hm' with hm2 | hm2
     ·exact h.ref a hm2
     ·simp at hm2;subst hm2;show (Al (Ab l) 1).length≤1048576;omega
    ·have hm':a ∈ Hp b.az _:=hm
     rw [Nk hok'] at hm'
     rcases List.mem_append.1 hm' with hm2 | hm2
     ·exact h.cur a hm2
     ·simp at hm2;subst hm2;exact lB (L0 hq.1).2.2.1
   ·simp at hc
  ·rw [hr] at hc;simp at hc
 split at hr
 ·split at hr
  ·obtain ⟨x,-,hr⟩:=hr
   rw [hr] at hc ⊢;unfold Jk at hc ⊢
   split at hc
   ·simp at hc
   rename_i g1
   rw [if_neg g1]
   split at hc
   ·simp at hc
   rename_i g2
   rw [if_neg g2]
   split at hc
   ·simp at hc
   rename_i g3
   rw [if_neg g3]
   split at hc
   ·simp at hc
   rename_i g4
   rw [if_neg g4]
   have hok':Ao (Ci (Ae (Al (Ab l) 1)) (Ae (Al (Ab l) 2)) (Ae (Al (Ab l) 3)) (Ae (Al (Ab l) 4)) b.today)=true:=by
    have h1:F0.stOk (Ae (Al (Ab l) 1)) (Ae (Al (Ab l) 2)) (Ae (Al (Ab l) 3)) (Ae (Al (Ab l) 4)) b.today=true:=by simpa using g3
    exact h1
   have e1:Jh (Ae (Al (Ab l) 1)) (Ae (Al (Ab l) 2)) (Ae (Al (Ab l) 3)) (Ae (Al (Ab l) 4)) b.today=Ci (Ae (Al (Ab l) 1)) (Ae (Al (Ab l) 2)) (Ae (Al (Ab l) 3)) (Ae (Al (Ab l) 4)) b.today:=if_pos hok';have hlb:=Ww (Ft (Ae (Al (Ab l) 1)) (Ae (Al (Ab l) 2)) (Ae (Al (Ab l) 3)) (Ae (Al (Ab l) 4)) b.today) h.lb h4
   refine ⟨⟨h1,?_,?_,hlb.2,h5⟩,fun a hm=>?_,fun a hm=>?_,fun c hm=>?_,hlb.1,h.day⟩
   ·show (M7 b.az x).length≤_
    rw [jC];exact h2
   ·show (b.cs++[_]).length≤_
    simp;omega
   ·obtain ⟨y,hy,e,e'⟩:=Sk (x:=x) (az:=b.az) hm
    rw [← e];exact h.ref y hy
   ·obtain ⟨y,hy,e,e'⟩:=Sk (x:=x) (az:=b.az) hm
    rw [← e'];exact h.cur y hy
   ·have hm':c ∈ b.cs++[Jh (Ae (Al (Ab l) 1)) (Ae (Al (Ab l) 2)) (Ae (Al (Ab l) 3)) (Ae (Al (Ab l) 4)) b.today]:=hm
    rcases List.mem_append.1 hm' with hm' | hm'
    ·exact h.cc c hm'
    ·simp at hm';rw [hm',e1];exact cC hok'
  ·rw [hr] at hc;simp at hc
 split at hr
 ·split at hr
  ·rw [hr] at hc ⊢
   unfold Ja at hc ⊢
   split at hc
   ·simp at hc
   rename_i g1
   rw [if_neg g1]
   split at hc
   ·rename_i g2
    have:=(Yd.code (A8 b.cs (Ae (Al (Ab l) 1)).toNat) ⟨Bz (Al (Ab l) 2),Ae (Al (Ab l) 3),Ae (Al (Ab l) 4)⟩ b.today b.off).1
    simp only at hc
    omega
   rename_i g2
   rw [if_neg g2]
   split at hc
   ·simp at hc
   rename_i g3
   rw [if_neg g3];have hv':doV (A8 b.cs (Ae (Al (Ab l) 1)).toNat) ⟨Bz (Al (Ab l) 2),Ae (Al (Ab l) 3),Ae (Al (Ab l) 4)⟩ b.today b.off=0:=Classical.not_not.1 g2;have hlb:=Ww (doE (A8 b.cs (Ae (Al (Ab l) 1)).toNat) ⟨Bz (Al (Ab l) 2),Ae (Al (Ab l) 3),Ae (Al (Ab l) 4)⟩ b.today b.off) h.lb h4
   refine ⟨⟨h1,h2,?_,hlb.2,h5⟩,h.ref,h.cur,fun c hm=>?_,hlb.1,h.day⟩
   ·show (b.cs.set _ _).length≤_
    simp;exact h3
   ·have hm':c ∈ b.cs.set (Ae (Al (Ab l) 1)).toNat (doC (A8 b.cs (Ae (Al (Ab l) 1)).toNat) ⟨Bz (Al (Ab l) 2),Ae (Al (Ab l) 3),Ae (Al (Ab l) 4)⟩ b.today b.off):=hm
    rcases List.mem_or_eq_of_mem_set hm' with hm' | hm'
    ·exact h.cc c hm'
    ·rw [hm',doC,if_pos hv'];exact cC (nG hv').2.2.2
  ·rw [hr] at hc;simp at hc
 ·rw [hr] at hc;simp at hc
theorem Wv {b:Bk} {l:List UInt8} {r:Bk×Int} (hl:l.length≤1048576) (h:Ej b) (hr:Fg Fu b l r):Ej r.1:=by
 rcases hr with ⟨-,rfl⟩ | ⟨hf,s,hs,⟨-,rfl⟩ | ⟨hc,rfl⟩⟩
 ·exact h
 ·exact h
 ·have j:=oD hl h hs hc
  obtain ⟨h1,h2,h3,h4,h5⟩:=j.sm
  exact ⟨⟨h1,h2,h3,h4,by show (b.log++[l]).length≤_;simp;omega⟩,j.ref,j.cur,j.cc,j.lb,j.day⟩
theorem rB {b:Bk} {l:List UInt8} {b2:Bk} (hl:l.length≤1048576) (h:Ej b) (hd:D9 F0 b l (b2,0)):Ej b2:=by
 obtain ⟨r,hr⟩:=iM b l hd;have h2:=Wv hl h hr;rw [← (W4 hd hr).1] at h2;exact h2
def Lg (b:Bk):List Nat:=(List.range b.cs.length).filter fun i=>Ds b.today (A8 b.cs i)
theorem bK (b:Bk):Bl (Ds b.today) b.cs b.cs.length=(Lg b).map fun i:Nat=>(i:Int):=rfl
theorem cH {b:Bk} {d:Nat} (h:d ∈ Lg b):d<b.cs.length:=List.mem_range.1 (List.mem_filter.1 h).1
def IxR (b:Bk) (w:World) (e:Ending) (w':World):Prop :=
 ∃ (n:Nat) (b':Bk) (q:Bp),e=.returned (.tuple #[C5 b' q,.int .i64 (n:Int)])∧Ka (D9 F0) b (Lg b) b' n∧Ej b'∧Gc w.heap.size b' q w'∧BW w w'
theorem Oj {G:Nat} {A:Nat→Addr} (b:Bk) (p:Bp) (w:World) (hx:Aq w b p) (hP:Ej b) (hg:∀ l ∈ b.log,l.length≤1048576) (hE:E1 G A w) :
  Calls prog 27 #[C5 b p] w (IxR b w):=by
 obtain ⟨X,hX⟩:∃ X,w.heap.size=X:=⟨_,rfl⟩;obtain ⟨R,hR⟩:∃ R,X+1=R:=⟨_,rfl⟩;obtain ⟨U,hU⟩:∃ U,U=(w.alloc (.cells (qcB b p) 31)).alloc (.cells qzB 31):=⟨_,rfl⟩
 have HBU:Hid (BW w U):=by rw [Hid,hU];go_grown
 have HZU:Hid (ZQ X b p U):=by rw [Hid,hU,← hX];exact (Z6.new w _ _ _ _ _ _ _).below (bR.alloc nL _)
 have HRU:Hid (Z0 R U):=by
  have h:=Z6.new (w.alloc (.cells (qcB b p) 31)) (.int .i64 0) (.slice none 0 0) (.slice none 0 0) (.slice none 0 0) (.slice none 0 0) (.slice none 0 0) 31
  rw [Hid,hU,← hR,← hX];simpa using h
 have HRL:Hid (R<U.heap.size):=HRU.o.lt;have HXL:Hid (X<U.heap.size):=HZU.o.lt;have HEU:Hid (E1 G A U):=Gx _ _ hE (HBU.o.mono hE.big);have HBK:Hid (Aq U b p):=hx.below HBU.o;have HOP:Hid (Calls prog 50 #[C5 b p] U (OpR b U)):=fF (kn1 G A) b p U HBK.o hP.sm hP.ref hg;have HPR:Hid (Ej b):=hP;have HXX:Hid _:=hX;have HRR:Hid _:=hR;have HUU:Hid _:=hU;unfold C5 at HOP ⊢;clear hx hP hg hE hX hR hU
 go_enter func27,ntmps27
 go_upto_region 1 with fail
 rw [← HUU.o,HXX.o,HRR.o];clear HUU;obtain ⟨x0,x1,x2,x3,x4,x5,-,-,-,-,-,-⟩:=HZU.o;go_wp2_with fail
 refine Calls.mono HOP.o ?_;rintro e w3 ⟨K,q,rfl,ks3,p3⟩;have HK3:Hid (KS U.heap.size K 0 b q w3):=ks3;have HB3:Hid (BW w w3):=next HBU.o p3;have HZ3:Hid (ZQ X b p w3):=HZU.o.below p3;have HR3:Hid (Z0 R w3):=HRU.o.below p3;have HE3:Hid (E1 G A w3):=Gx _ _ HEU.o (p3.mono HEU.o.big)
 have HDU:Hid (Calls prog 37 #[C5 b p] w3 (qN w3 ((Lg b).map fun i:Nat=>(i:Int)))):=Uw b p w3 (HBK.o.below p3) HPR.o.sm
 have HUW:Hid (U.heap.size≤w3.heap.size):=p3.size;unfold C5 at HDU;clear ks3 p3 HOP x0 x1 x2 x3 x4 x5 HBK HZU HRU;obtain ⟨x0,x1,x2,x3,x4,x5,-,-,-,-,-,-⟩:=HZ3.o;go_wp2_with fail
 refine Calls.mono HDU.o ?_;rintro e w4 ⟨a,k,rfl,o4,p4⟩;have HK4:Hid (KS U.heap.size K 0 b q w4):=HK3.o.below p4;have HB4:Hid (BW w w4):=next HB3.o p4;have HR4:Hid (Z0 R w4):=HR3.o.below p4;have HE4:Hid (E1 G A w4):=Gx _ _ HE3.o (p4.mono HE3.o.big)
 obtain ⟨zs,hzs⟩:∃ zs:List Int,(Lg b).map (fun i:Nat=>(i:Int))=zs:=⟨_,rfl⟩
 rw [hzs] at o4 ⊢
 have hzl:zs.length≤b.cs.length:=by rw [← hzs,← bK];exact Iz _ _ _
 have HEX:Hid (Calls prog 76 #[.pointer (some ⟨K,0,none⟩),.slice a zs.length k] w4 (ExR U.heap.size K Ej b (Lg b) w4)) :=
  lQ HEU.o.big (fun b h=>h) (fun b d b2 hd h hdo=>rB (by have:=Mk hd;omega) h hdo) b q w3.heap.size a k (Lg b) zs hzs.symm w4 HK4.o HE4.o HPR.o o4 (fun d hd=>by have:=cH hd;have:=HPR.o.sm.2.2.1;omega) (by have:=HPR.o.sm.2.2.1;omega)
 clear o4 p4 HDU x0 x1 x2 x3 x4 x5 HZ3 HR3 HK3 hzs hzl;go_wp2_with fail
 refine Calls.mono HEX.o ?_;rintro e w5 ⟨n,b',q',rfl,hn,hex,hj,ks5,p5⟩;have HK5:Hid (KS U.heap.size K 0 b' q' w5):=ks5;have HB5:Hid (BW w w5):=HB4.o.trans (p5.b.mono HBU.o.size);have HR5:Hid (Z0 R w5):=HR4.o.under p5.b HRL.o;have HX5:Hid (Ka (D9 F0) b (Lg b) b' n):=hex;have HJ5:Hid (Ej b'):=hj
 have HHO:Hid (Calls prog 52 #[.pointer (some ⟨K,0,none⟩)] w5 fun e w'=>e=.returned (C5 b' q')∧KS U.heap.size K 0 b' q' w'∧Below U.heap.size w5 w'):=eG b' q' w5 HK5.o
 unfold C5 at HHO;clear ks5 p5 hex hj hn HEX HR4 HK4;go_wp2_with fail
 refine Calls.mono HHO.o ?_;rintro e w6 ⟨rfl,ks6,p6⟩;have HK6:Hid (KS U.heap.size K 0 b' q' w6):=ks6;have HR6:Hid (Z0 R w6):=HR5.o.under p6 HRL.o;have HB6:Hid (BW w w6):=HB5.o.trans (p6.mono HBU.o.size);clear ks6 p6 HHO;obtain ⟨t0,t1,t2,t3,t4,t5,s0,s1,s2,s3,s4,s5⟩:=HR6.o;go_wp2
 refine bodyPost_ret (by simp [results,results27,go_sem,t0,t1,t2,t3,t4,t5];try rfl) rfl ?_
 have bel:=Ax (R:=R) (by have:=HXX.o;have:=HRR.o;omega) HB6.o
 have o6:=HK6.o.own5;exact ⟨n,b',q',rfl,HX5.o,HJ5.o,(Gc.mk (Ea o6.off HRL.o _ _ _ _ _ _) (Ea o6.az HRL.o _ _ _ _ _ _) (Ea o6.cs HRL.o _ _ _ _ _ _) (Ea o6.ls HRL.o _ _ _ _ _ _) (Ea o6.log HRL.o _ _ _ _ _ _)).low HBU.o.size,bel _ _ _ _ _ _⟩
theorem Ade (d:Nat):NoB (Lib.decDigits d):=fun c hc e=>by
 have:=(xH d).1 c hc
 rw [e] at this
 revert this;decide
theorem Adb (d:Nat):Lib.decDigits d≠[]:=by
 rw [Lib.decDigits]
 split <;> simp
theorem vP {d:Nat} (h:d<1000000):Ae (Lib.decDigits d)=(d:Int):=by
 have hl:=uE 6 d (by decide) (by omega)
 have hn:Dr (Lib.decDigits d)=(d:Int):=by
  rw [Sn (by omega) (wU (xH d).1),(xH d).2]
 rw [kY (Adb d) (by omega) (by rw [hn];omega) (by rw [hn];simp)]
 exact hn
theorem Ac8:Ae [48]=0:=by
 have h:=vP (d:=0) (by decide)
 have e:Lib.decDigits 0=[48]:=by rw [Lib.decDigits];rfl
 rw [e] at h;exact h
theorem Ac5 (d:Nat):Ab (Gj d)=[Nz,Lib.decDigits d,Al Dm 8,[48],[48]]:=by
 have e:Gj d=Nz++32::(Lib.decDigits d++32::(Al Dm 8++32::([48]++32::[48]))):=by
  have:Nz=[97,99,116]:=by decide
  rw [this];unfold Gj
  simp
 rw [e,L4 (L2 (by decide)),L4 (Ade d),L4 (L2 (by decide)),L4 (L2 (by decide))]
 rfl
theorem Adg (c:Cs) (a:Ac) (t:Int) (zs:List Int) (h:a.kind=8):0≤doV c a t zs:=by
 have h1:0≤B4 c a t zs:=by
  unfold B4
  rw [if_neg (by omega),if_neg (by omega),if_neg (by omega),if_neg (by omega),if_pos h]
  split <;> omega
 unfold doV
 split
 ·omega
 split
 ·omega
 split
 ·exact h1
 split <;> omega
theorem Ada {b:Bk} {d:Nat} {r:Bk×Int} (h:D9 F0 b (Gj d) r) (hc:r.2=0) (hd:d<1000000):r.1.today=b.today∧r.1.log=b.log++[Gj d]∧d<b.cs.length∧r.1.cs=b.cs.set d (Cx (A8 b.cs d)):=by
 unfold D9 at h
 split at h
 ·rw [h] at hc;simp at hc
 obtain ⟨r0,h0,rfl⟩:=h
 by_cases h2:r0.2=0
 ·rw [if_pos h2]
  have hlog:=Sw h0;rw [Ac5] at h0;unfold D6 at h0
  rw [if_neg (by show Nz≠Eo;decide),if_neg (by show Nz≠Dy;decide),if_neg (by show Nz≠I7;decide),if_pos (show Al [Nz,Lib.decDigits d,Al Dm 8,[48],[48]] 0=Nz from rfl)] at h0
  have e:Hx F0 b ([Nz,Lib.decDigits d,Al Dm 8,[48],[48]].drop 1)=Ja F0 b (d:Int) ⟨8,0,0⟩:=by
   have h3:Hx F0 b ([Nz,Lib.decDigits d,Al Dm 8,[48],[48]].drop 1)=Ja F0 b (Ae (Lib.decDigits d)) ⟨Bz (Al Dm 8),Ae [48],Ae [48]⟩:=if_pos ⟨rfl,by show 0≤Bz (Al Dm 8);decide,by
    show Ap [Lib.decDigits d,[48],[48]]=true
    simp [Ap,vP hd,Ac8]⟩
   rw [h3,vP hd,Ac8,show Bz (Al Dm 8)=8 from by decide]
  rw [e] at h0;unfold Ja at h0
  split at h0
  ·rw [h0] at h2;simp at h2
  rename_i hi
  split at h0
  ·rename_i hv
   rw [h0] at h2
   have:=Adg (A8 b.cs (d:Int).toNat) ⟨8,0,0⟩ b.today b.off rfl
   have h3:10+doV (A8 b.cs (d:Int).toNat) ⟨8,0,0⟩ b.today b.off=0:=h2
   omega
  rename_i hv
  split at h0
  ·rw [h0] at h2;simp at h2
  have hi':=Classical.not_not.1 hi;have hv':doV (A8 b.cs (d:Int).toNat) ⟨8,0,0⟩ b.today b.off=0:=Classical.not_not.1 hv
  have hC:F0.doC (A8 b.cs (d:Int).toNat) ⟨8,0,0⟩ b.today b.off=Cx (A8 b.cs d):=by
   show doC (A8 b.cs (d:Int).toNat) ⟨8,0,0⟩ b.today b.off=_
   unfold doC;rw [if_pos hv']
   rfl
  refine ⟨by rw [h0];rfl,by show r0.1.log++[Gj d]=_;rw [hlog],by omega,?_⟩
  rw [h0]
  show b.cs.set (d:Int).toNat _=_
  rw [hC]
  rfl
 ·rw [if_neg h2] at hc;exact absurd hc h2
theorem Adc (t:Int) (c:Cs):Ds t (Cx c)=false:=by
 have h:(Cx c).due = -1:=by
  unfold Cx
  split
  ·rfl
  split
  ·rfl
  split <;> rfl
 unfold Ds
 rw [h,To (by decide),Bool.and_false]
theorem vS:∀ (ds:List Nat) {b c:Bk} {n:Nat},(∀ d ∈ ds,d<1000000)→Ka (D9 F0) b ds c n→n≤ds.length∧c.log.length=b.log.length+n∧c.today=b.today∧c.cs.length=b.cs.length∧(n=ds.length→∀ i,i<b.cs.length→(i ∈ ds∨Ds b.today (A8 b.cs i)=false)→Ds b.today (A8 c.cs i)=false)
 | [],b,c,n,_,h=>by
  simp only [Ka] at h
  obtain ⟨rfl,rfl⟩:=h
  exact ⟨nL,rfl,rfl,rfl,fun _ i _ h=>by rcases h with h | h;cases h;exact h⟩
 | d::ds,b,c,n,hd,h=>by
  obtain ⟨r,hr,h⟩:=h
  rcases h with ⟨hc,m,rfl,h⟩ | ⟨hc,h⟩
  ·obtain ⟨e1,e2,e3,e4⟩:=Ada hr hc (hd d (List.mem_cons_self ..))
   obtain ⟨i1,i2,i3,i4,i5⟩:=vS ds (fun x hx=>hd x (List.mem_cons_of_mem _ hx)) h
   rw [e1] at i3 i5
   have hl:r.1.cs.length=b.cs.length:=by rw [e4];simp
   refine ⟨by simp;omega,by rw [i2,e2];simp;omega,i3,by rw [i4,hl],fun hn i hi hx=>?_⟩
   refine i5 (by simp at hn;omega) i (by omega) ?_
   by_cases hm:i ∈ ds
   ·exact .inl hm
   right
   by_cases hid:i=d
   ·subst hid
    have:A8 r.1.cs i=Cx (A8 b.cs i):=by rw [e4];simp [A8,List.getD_eq_getElem?_getD,hi]
    rw [this];exact Adc _ _
   ·have:A8 r.1.cs i=A8 b.cs i:=by
      rw [e4]
      simp only [A8,List.getD_eq_getElem?_getD,List.getElem?_set_ne (Ne.symm hid)]
    rw [this]
    rcases hx with hx | hx
    ·rcases List.mem_cons.1 hx with hx | hx
     ·exact absurd hx hid
     ·exact absurd hx hm
    ·exact hx
  ·obtain ⟨i1,i2,i3,i4,i5⟩:=vS ds (fun x hx=>hd x (List.mem_cons_of_mem _ hx)) h
   exact ⟨by simp;omega,i2,i3,i4,fun hn=>by simp at hn;omega⟩
theorem Ac4:∀ (ds:List Nat) {b c:Bk} {n:Nat},(∀ d ∈ ds,d<1000000)→JW b→Ka (D9 F0) b ds c n→JW c
 | [],b,c,n,_,hj,h=>by
  simp only [Ka] at h
  rw [h.1];exact hj
 | d::ds,b,c,n,hd,hj,h=>by
  obtain ⟨r,hr,h⟩:=h;have hd1:=hd d (List.mem_cons_self ..)
  rcases h with ⟨hc,m,rfl,h⟩ | ⟨hc,h⟩
  ·refine Ac4 ds (fun x hx=>hd x (List.mem_cons_of_mem _ hx)) ?_ h
   obtain ⟨b2,k⟩:=r;have hk:k=0:=hc;subst hk
   exact Acd b (Gj d) b2 (by have:=Mk (d:=d) (by omega);omega) hj hr (iM _ _ hr)
  ·exact Ac4 ds (fun x hx=>hd x (List.mem_cons_of_mem _ hx)) hj h
theorem Add {b c:Bk} {n:Nat} (hj:JW b) (h:Ka (D9 F0) b (Lg b) c n):JW c∧n≤(Lg b).length∧c.log.length=b.log.length+n∧(n=(Lg b).length→Lg c=[]):=by
 have hb:∀ d ∈ Lg b,d<1000000:=fun d hd=>by
  have h1:=cH hd;have h2:=hj.jc.cs;have h3:=hj.log
  omega
 obtain ⟨h1,h2,h3,h4,h5⟩:=vS _ hb h
 refine ⟨Ac4 _ hb hj h,h1,h2,fun hn=>?_⟩
 unfold Lg;rw [List.filter_eq_nil_iff];intro i hi
 have hi':i<b.cs.length:=by rw [← h4];exact List.mem_range.1 hi
 rw [h3,h5 hn i hi' ?_]
 ·decide
 ·cases hp:Ds b.today (A8 b.cs i)
  ·exact .inr rfl
  ·exact .inl (List.mem_filter.2 ⟨List.mem_range.2 hi',hp⟩)
theorem mS {ws:Be} {r r':Bk×Int} (h:Agr ws r r'):r.2=0 ↔ r'.2=0:=by
 rcases h.2 with e | ⟨e1,e2,_⟩
 ·rw [e]
 ·rw [e1,e2];decide
structure AS (R X:Nat) (b:Bk) (p:Bp) (w u:World):Prop where
 z:ZQ X b p u
 r:Z0 R u
 bk:Aq u b p
 oX:Wq p X
 oR:Wq p R
 hb:BW w u
 hR:w.heap.size=R
 hX:R<X
 fr:FrB p R
theorem Q4 {q:Bp} {n B:Nat} (h:FrB q n) (hB:B<n):Wq q B:=⟨Bb h.o hB,Bb h.a hB,Bb h.c hB,Bb h.l hB,Bb h.g hB⟩
theorem nZ {V u2:World} {t:TypeId} (bb:Below (V.alloc (.cells qzB t)).drew.heap.size (V.alloc (.cells qzB t)).drew u2) :
  Z6 V.heap.size (.int .i64 0) (.slice none 0 0) (.slice none 0 0) (.slice none 0 0) (.slice none 0 0) (.slice none 0 0) u2∧BW V u2 :=
 ⟨((Z6.new V _ _ _ _ _ _ t).below (bR.drew)).below bb,Below.trans (((Below.refl V.heap.size V).alloc nL _).drew) (bb.mono (by simp))⟩
theorem Ns:∀ {ds:List Nat} {b b1 b2:Bk} {n1 n2:Nat},Ka (D9 F0) b ds b1 n1→Ka (Fg Fu) b ds b2 n2→b1=b2∧n1=n2
 | [],b,b1,b2,n1,n2,h,h'=>by
  simp only [Ka] at h h'
  exact ⟨h.1.trans h'.1.symm,h.2.trans h'.2.symm⟩
 | d::ds,b,b1,b2,n1,n2,h,h'=>by
  obtain ⟨r,hr,h⟩:=h;obtain ⟨r',hr',h'⟩:=h';have ha:=W4 hr hr';have hz:=mS ha
  rcases h with ⟨hc,m,rfl,h⟩ | ⟨hc,h⟩
  ·rcases h' with ⟨hc',m',rfl,h'⟩ | ⟨hc',h'⟩
   ·rw [← ha.1] at h'
    obtain ⟨e1,e2⟩:=Ns h h'
    exact ⟨e1,by rw [e2]⟩
   ·exact absurd (hz.1 hc) hc'
  ·rcases h' with ⟨hc',m',rfl,h'⟩ | ⟨hc',h'⟩
   ·exact absurd (hz.2 hc') hc
   ·exact Ns h h'
structure ES (R X:Nat) (b:Bk) (p:Bp) (w u:World):Prop where
 z:ZQ X b p u
 r:Z0 R u
 bk:Aq u b p
 oR:Wq p R
 hb:BW w u
 hR:w.heap.size≤R
 hX:w.heap.size≤X
 ne:X≠R
theorem ES.below {R X:Nat} {b:Bk} {p:Bp} {w u u':World} (h:ES R X b p w u) (hb:BW u u'):ES R X b p w u':=⟨h.z.below hb,h.r.below hb,h.bk.below hb,h.oR,next h.hb hb,h.hR,h.hX,h.ne⟩
theorem ES.put {R X n:Nat} {b b2:Bk} {p q:Bp} {w u:World} (h:ES R X b p w u) (hk:Aq u b2 q) (hf:FrB q n) (hn:X<n) (hm:R<n) :
  ES R X b2 q w ((((((u.setCell ⟨X,0,none⟩ (.int .i64 b2.today)).setCell ⟨X,1,none⟩ (.slice q.o b2.off.length q.oc)).setCell ⟨X,2,none⟩ (.slice q.a b2.az.length q.ac)).setCell ⟨X,3,none⟩ (.slice q.c b2.cs.length q.cc)).setCell ⟨X,4,none⟩ (.slice q.l b2.ls.length q.lc)).setCell ⟨X,5,none⟩ (.slice q.g b2.log.length q.gc)) :=
 ⟨(((((h.z.set0 _).set1 _).set2 _).set3 _).set4 _).set5 _,h.r.far6 h.ne _ _ _ _ _ _,hk.put6 (Q4 hf hn) _ _ _ _ _ _,Q4 hf hm,Ax h.hX h.hb _ _ _ _ _ _,h.hR,h.hX,h.ne⟩
theorem fQ {u:World} {a:Option Addr} {zs:List Int} {R:Nat} (h:Aw u a zs) (n:Im a R) (x0 x1 x2 x3 x4 x5:Value) :
  Aw ((((((u.setCell ⟨R,0,none⟩ x0).setCell ⟨R,1,none⟩ x1).setCell ⟨R,2,none⟩ x2).setCell ⟨R,3,none⟩ x3).setCell ⟨R,4,none⟩ x4).setCell ⟨R,5,none⟩ x5) a zs:=by
 have s:∀ (v:World) (i:Nat) (x:Value),Aw v a zs→Aw (v.setCell ⟨R,i,none⟩ x) a zs:=fun v i x hv=>hv.far (An _ _ _ _) (fun Q hQ=>by cases hQ;exact n)
 exact s _ _ _ (s _ _ _ (s _ _ _ (s _ _ _ (s _ _ _ (s _ _ _ h)))))
theorem tE {d:Nat} (h:d<1000000000000000000):∃ C1:ByteArray,(∀ w,(Op.stringOp .add ⟨#[97,99,116,32]⟩ ⟨(Lib.decDigits d).toArray⟩).run prog w=.ok (.string C1) w)∧(∀ w,(Op.stringOp .add C1 ⟨#[32,101,120,112,105,114,101,32,48,32,48]⟩).run prog w=.ok (.string ⟨(Gj d).toArray⟩) w):=by
 have h1:=N0 h
 have e:Gj d=([97,99,116,32]++Lib.decDigits d)++[32,101,120,112,105,114,101,32,48,32,48]:=by
  have:Al Dm 8=[101,120,112,105,114,101]:=by decide
  unfold Gj;rw [this]
  simp
 rw [e]
 exact ⟨_,fun w=>Kr [97,99,116,32] _ (by simp;omega) w,fun w=>Kr _ [32,101,120,112,105,114,101,32,48,32,48] (by simp;omega) w⟩
def SxR (b:Bk) (w:World) (e:Ending) (w':World):Prop :=
 ∃ (n:Nat) (b':Bk) (q:Bp),e=.returned (.tuple #[C5 b' q,.int .i64 (n:Int)])∧Ka (Fg Fu) b (Lg b) b' n∧Aq w' b' q∧BW w w'
theorem J4 (b:Bk) (p:Bp) (w:World) (hx:Aq w b p) (hP:Ej b) :
  Calls prog 25 #[C5 b p] w (SxR b w):=by
 obtain ⟨X,hX⟩:∃ X,w.heap.size=X:=⟨_,rfl⟩;obtain ⟨R,hR⟩:∃ R,X+1=R:=⟨_,rfl⟩;obtain ⟨U,hU⟩:∃ U,U=(w.alloc (.cells (qcB b p) 31)).alloc (.cells qzB 31):=⟨_,rfl⟩
 have HBU:Hid (BW w U):=by rw [Hid,hU];go_grown
 have HZU:Hid (ZQ X b p U):=by rw [Hid,hU,← hX];exact (Z6.new w _ _ _ _ _ _ _).below (bR.alloc nL _)
 have HRU:Hid (Z0 R U):=by
  have h:=Z6.new (w.alloc (.cells (qcB b p) 31)) (.int .i64 0) (.slice none 0 0) (.slice none 0 0) (.slice none 0 0) (.slice none 0 0) (.slice none 0 0) 31
  rw [Hid,hU,← hR,← hX];simpa using h
 have HRL:Hid (R<U.heap.size):=HRU.o.lt;have HXL:Hid (X<U.heap.size):=HZU.o.lt;have HCP:Hid (Calls prog 71 #[C5 b p] U (CpR U b)):=Oq b p U (hx.below HBU.o) hP.sm;have HPR:Hid (Ej b):=hP;have HXX:Hid _:=hX;have HRR:Hid _:=hR;have HUU:Hid _:=hU;unfold C5 at HCP ⊢;clear hx hP hX hR hU
 go_enter func25,ntmps25
 go_upto_region 1 with fail
 rw [← HUU.o,HXX.o,HRR.o];clear HUU;obtain ⟨x0,x1,x2,x3,x4,x5,s0,s1,s2,s3,s4,s5⟩:=HZU.o;go_wp2_with fail
 refine Calls.mono HCP.o ?_;rintro e w1 ⟨⟨q1,base,rfl,hb1,ho1,hbs,hbz,hah,hfr⟩,p1⟩;have HF1:Hid (FrB q1 U.heap.size):=⟨hfr.1,hfr.2.1,hfr.2.2.1,hfr.2.2.2.1,hfr.2.2.2.2⟩;have HK1:Hid (Aq w1 b q1):=hb1;have HB1:Hid (BW w w1):=next HBU.o p1;have HZ1:Hid (ZQ X b p w1):=HZU.o.below p1;have HR1:Hid (Z0 R w1):=HRU.o.below p1;clear hb1 ho1 hbs hbz hah hfr p1 HCP x0 x1 x2 x3 x4 x5 s0 s1 s2 s3 s4 s5;obtain ⟨x0,x1,x2,x3,x4,x5,s0,s1,s2,s3,s4,s5⟩:=HZ1.o;unfold C5;go_upto_region 2 with fail
 obtain ⟨W2,hW2⟩:∃ W,W=(((((w1.setCell ⟨X,0,none⟩ (.int .i64 b.today)).setCell ⟨X,1,none⟩ (.slice q1.o b.off.length q1.oc)).setCell ⟨X,2,none⟩ (.slice q1.a b.az.length q1.ac)).setCell ⟨X,3,none⟩ (.slice q1.c b.cs.length q1.cc)).setCell ⟨X,4,none⟩ (.slice q1.l b.ls.length q1.lc)).setCell ⟨X,5,none⟩ (.slice q1.g b.log.length q1.gc):=⟨_,rfl⟩;rw [← hW2]
 have HAA:Hid (ES R X b q1 w W2):=by
  have h1:=HXX.o;have h2:=HRR.o;rw [Hid,hW2]
  exact ⟨(((((HZ1.o.set0 _).set1 _).set2 _).set3 _).set4 _).set5 _,HR1.o.far6 (by omega) _ _ _ _ _ _,HK1.o.put6 (Q4 HF1.o HXL.o) _ _ _ _ _ _,Q4 HF1.o HRL.o,Ax (by omega) HB1.o _ _ _ _ _ _,by omega,by omega,by omega⟩
 have HDU:Hid (Calls prog 38 #[C5 b q1] W2 (qN W2 ((Lg b).map fun i:Nat=>(i:Int)))):=T2 b q1 W2 HAA.o.bk HPR.o.sm
 have HXW:Hid (X<W2.heap.size):=HAA.o.z.lt;unfold C5 at HDU;clear hW2 x0 x1 x2 x3 x4 x5 s0 s1 s2 s3 s4 s5 HF1 HK1 HB1 HZ1 HR1 HZU HRU HBU;obtain ⟨x0,x1,x2,x3,x4,x5,-,-,-,-,-,-⟩:=HAA.o.z;go_wp2_with fail
 refine Calls.mono HDU.o ?_;rintro e w3 ⟨a,k,rfl,o3,p3⟩;have HA3:Hid (ES R X b q1 w w3):=HAA.o.below p3;have HOX:Hid (Im a X):=Bb (Cw o3) HXW.o
 obtain ⟨zs,hzs⟩:∃ zs:List Int,(Lg b).map (fun i:Nat=>(i:Int))=zs:=⟨_,rfl⟩
 rw [hzs] at o3 ⊢;have HI3:Hid (Aw w3 a zs):=Hq o3;obtain ⟨ds,hds⟩:∃ ds,Lg b=ds:=⟨_,rfl⟩
 have HLT:Hid (∀ d ∈ ds,d<1000000000000000000):=fun d hd=>by rw [← hds] at hd;have:=cH hd;have:=HPR.o.sm.2.2.1;omega
 have HDS:Hid (Lg b=ds):=hds
 have HZS:Hid (zs=ds.map fun i:Nat=>(i:Int)):=by rw [Hid,← hzs,hds]
 have HLL:Hid (zs.length=ds.length):=by rw [Hid,HZS.o,List.length_map]
 have hzn:zs.length≤1048576:=by
  have h1:=HPR.o.sm.2.2.1
  have h2:zs.length≤b.cs.length:=by rw [← hzs,← bK];exact Iz _ _ _
  omega
 have HD0:Hid (Ka (Fg Fu) b (ds.take 0) b 0):=⟨rfl,rfl⟩;clear o3 p3 HDU x0 x1 x2 x3 x4 x5 HAA hzs hds;go_wp2
 go_loopw [5,6] (fun s i wr=>∃ (j n:Nat) (b2:Bk) (p2:Bp),j≤zs.length∧n≤j∧s=.int .i64 (n:Int)∧i=.int .i64 (j:Int)∧Ka (Fg Fu) b (ds.take j) b2 n∧Ej b2∧ES R X b2 p2 w wr∧Aw wr a zs) (fun _ i _=>zs.length - (intOf i).toNat)
 case atStart=>exact ⟨0,0,b,q1,Nat.zero_le _,nL,rfl,rfl,HD0.o,HPR.o,HA3.o,HI3.o⟩
 case round =>
  obtain ⟨j,n,b1,p1,hj,hnj,rfl,rfl,hdid,hjw,has,hin⟩:=hrel;have HAA:Hid (ES R X b1 p1 w wr):=has;have HDD:Hid (Ka (Fg Fu) b (ds.take j) b1 n):=hdid;have HJJ:Hid (Ej b1):=hjw;have HIN:Hid (Aw wr a zs):=hin;clear has hdid hjw hin HA3 HI3 HD0
  by_cases hlt:j<zs.length
  ·have hji:(j:Int)<(zs.length:Int):=by omega
   have hkd:j<ds.length:=by rw [← HLL.o];exact hlt
   obtain ⟨d,hdk⟩:∃ d,ds[j]=d:=⟨_,rfl⟩
   have hd18:d<1000000000000000000:=HLT.o d (by rw [← hdk];exact List.getElem_mem hkd)
   obtain ⟨gb,off,rfl,hgb,hcell⟩:∃ gb off,a=some ⟨gb,off,none⟩∧gb<wr.heap.size∧wr.cell? ⟨gb,off+j,none⟩=some (.int .i64 (d:Int)):=by
    rcases HIN.o with h | ⟨gb,off,h1,h2,h3⟩
    ·rw [h] at hlt;simp at hlt
    ·refine ⟨gb,off,h1,h2,(h3 j hlt).trans ?_⟩
     have:zs.getD j 0=(d:Int):=by rw [HZS.o,← hdk];simp [hkd]
     rw [this]
   have HTK:Hid (ds.take (j+1)=ds.take j++[d]):=by rw [Hid,← hdk];exact List.take_succ_eq_append_getElem hkd
   have HDC:Hid (∀ u,Aq u b1 p1→Calls prog 31 #[.agg (qcB b1 p1),.string ⟨(Gj d).toArray⟩] u (BoF Fu b1 (Gj d) u)):=fun u h=>T5 lO b1 p1 (Gj d) u h ⟨HJJ.o.sm,HJJ.o.ref,HJJ.o.day⟩ (by have:=Mk hd18;omega)
   have HNX:Hid (∀ b2,Fg Fu b1 (Gj d) (b2,0)→Ej b2∧Ka (Fg Fu) b (ds.take (j+1)) b2 (n+1)):=fun b2 h=>⟨Wv (by have:=Mk hd18;omega) HJJ.o h,by rw [HTK.o];exact Pw HDD.o h⟩
   have HNO:Hid (∀ r,Fg Fu b1 (Gj d) r→r.2≠0→Ka (Fg Fu) b (ds.take (j+1)) b1 n):=fun r h hc=>by rw [HTK.o];exact Qi HDD.o h hc
   have HDE:Hid (∀ u,Calls prog 72 #[.int .i64 (d:Int)] u fun e w'=>e=.returned (.string ⟨(Lib.decDigits d).toArray⟩)∧w'=u):=fun u=>Tg.dec_up d u (by omega)
   obtain ⟨C1,r1,r2⟩:=tE hd18;obtain ⟨ln,hln⟩:∃ x,Gj d=x:=⟨_,rfl⟩;obtain ⟨D,hD⟩:∃ L:ByteArray,⟨(Lib.decDigits d).toArray⟩=L:=⟨_,rfl⟩;rw [hln] at r2 HDC HNX HNO;rw [hD] at r1 HDE;clear hln hD hdk hkd
   have HSS:Hid (∀ u,BW wr u→u.cell? ⟨X,0,none⟩=some (.int .i64 b1.today)∧u.cell? ⟨X,1,none⟩=some (.slice p1.o b1.off.length p1.oc)∧u.cell? ⟨X,2,none⟩=some (.slice p1.a b1.az.length p1.ac)∧u.cell? ⟨X,3,none⟩=some (.slice p1.c b1.cs.length p1.cc)∧u.cell? ⟨X,4,none⟩=some (.slice p1.l b1.ls.length p1.lc)∧u.cell? ⟨X,5,none⟩=some (.slice p1.g b1.log.length p1.gc)∧u.cell? ⟨gb,off+j,none⟩=some (.int .i64 (d:Int))):=fun u h=>by
    have z:=HAA.o.z.below h;exact ⟨z.c0,z.c1,z.c2,z.c3,z.c4,z.c5,(h.cell (p:=⟨gb,off+j,none⟩) hgb).trans hcell⟩
   have k0:BW wr wr:=bR;have HP1:Hid (Aq wr.drew b1 p1):=HAA.o.bk.below (bR.drew);have HP2:Hid (Aq (wr.alloc (.cells qzB 31)).drew b1 p1):=HAA.o.bk.below (((Below.refl wr.heap.size wr).alloc nL _).drew);clear hcell;go_upto_region 7 with fail
   go_cut [7,8] (fun v7 v8 wc=>∃ (Y:Nat) (b2:Bk) (q2:Bp) (code:Int),v7=.pointer (some ⟨Y,0,none⟩)∧v8=.int .i64 code∧Fg Fu b1 ln (b2,code)∧ZQ Y b2 q2 wc∧Aq wc b2 q2∧FrB q2 wr.heap.size∧BW wr wc)
   case first =>
    go_region_held3 (fun u=>u.cell? ⟨X,0,none⟩=some (.int .i64 b1.today)∧u.cell? ⟨X,1,none⟩=some (.slice p1.o b1.off.length p1.oc)∧u.cell? ⟨X,2,none⟩=some (.slice p1.a b1.az.length p1.ac)∧u.cell? ⟨X,3,none⟩=some (.slice p1.c b1.cs.length p1.cc)∧u.cell? ⟨X,4,none⟩=some (.slice p1.l b1.ls.length p1.lc)∧u.cell? ⟨X,5,none⟩=some (.slice p1.g b1.log.length p1.gc)∧u.cell? ⟨gb,off+j,none⟩=some (.int .i64 (d:Int))) (first | with_reducible exact HSS.o _ hb2 | with_reducible exact HSS.o _ k0 | with_reducible exact HSS.o _ k0.drew | with_reducible exact HSS.o _ (k0.alloc nL _) | with_reducible exact HSS.o _ ((k0.alloc nL _).drew) | with_reducible exact HSS.o _ (hb2.alloc hb2.size _) | with_reducible exact HSS.o _ (Ax nL hb2 _ _ _ _ _ _)) ((first
     | (go_at_call 72;(with_reducible refine Calls.mono (HDE.o _) ?_);rintro e u1 ⟨rfl,rfl⟩)
     | (go_at_call 31;(with_reducible refine Calls.mono (HDC.o wr.drew HP1.o) ?_);rintro e u2 ⟨⟨b2,code⟩,q2,hrel,rfl,hbk,bb,hfr⟩;have hb2:BW wr u2:=Below.trans ((Below.refl wr.heap.size wr).drew) bb;unfold C5;simp only)
     | (go_at_call 31;(with_reducible refine Calls.mono (HDC.o (wr.alloc (.cells qzB 31)).drew HP2.o) ?_);rintro e u2 ⟨⟨b2,code⟩,q2,hrel,rfl,hbk,bb,hfr⟩;obtain ⟨hzy,hb2⟩:=nZ bb;have HZY:Hid _:=hzy;obtain ⟨g0,g1,g2,g3,g4,g5,m0,m1,m2,m3,m4,m5⟩:=hzy;unfold C5;simp only)))
    all_goals
     go_wp2_with fail
     go_meet
     first
      | (have hf2:FrB q2 (wr.heap.size+1):=by simpa using hfr
         exact ⟨wr.heap.size,b2,q2,code,rfl,rfl,hrel,(((((HZY.o.set0 _).set1 _).set2 _).set3 _).set4 _).set5 _,hbk.put6 (Q4 hf2 (Nat.lt_succ_self _)) _ _ _ _ _ _,⟨Ey hf2.o (Nat.le_succ _),Ey hf2.a (Nat.le_succ _),Ey hf2.c (Nat.le_succ _),Ey hf2.l (Nat.le_succ _),Ey hf2.g (Nat.le_succ _)⟩,Ax nL hb2 _ _ _ _ _ _⟩)
      | exact ⟨u2.heap.size,b2,q2,code,rfl,rfl,hrel,Z6.new u2 _ _ _ _ _ _ _,hbk.below (bR.alloc nL _),⟨hfr.o,hfr.a,hfr.c,hfr.l,hfr.g⟩,hb2.alloc hb2.size _⟩
   case rest =>
    obtain ⟨V,hV⟩:∃ x,x=wc:=⟨_,rfl⟩;subst hV;obtain ⟨Y,b2,q2,code,rfl,rfl,hrel,hzy,hbk,hfr,hbV⟩:=hcut;have HAV:Hid (ES R X b1 p1 w V):=HAA.o.below hbV;have HIV:Hid (Aw V (some ⟨gb,off,none⟩) zs):=HIN.o.below hbV;have HXL:Hid (X<wr.heap.size):=HAA.o.z.lt;have HRL:Hid (R<wr.heap.size):=HAA.o.r.lt;obtain ⟨x0,x1,x2,x3,x4,x5,y0,y1,y2,y3,y4,y5⟩:=HAV.o.z;clear hbV HDC HSS HP1 HP2 k0
    by_cases hc:code=0
    ·subst hc
     obtain ⟨j2,d2⟩:=HNX.o b2 hrel;have HJ2:Hid (Ej b2):=j2;have HD2:Hid (Ka (Fg Fu) b (ds.take (j+1)) b2 (n+1)):=d2;have HA2:Hid _:=HAV.o.put hbk hfr HXL.o HRL.o;have HI2:Hid _:=fQ HIV.o HOX.o (.int .i64 b2.today) (.slice q2.o b2.off.length q2.oc) (.slice q2.a b2.az.length q2.ac) (.slice q2.c b2.cs.length q2.cc) (.slice q2.l b2.ls.length q2.lc) (.slice q2.g b2.log.length q2.gc);obtain ⟨n0,n1,n2,n3,n4,n5,-,-,-,-,-,-⟩:=hzy;clear j2 d2 hrel hbk hfr;go_wp2
     go_roundw
     case rel=>exact ⟨j+1,n+1,b2,q2,by omega,by omega,by go_num,by go_num,HD2.o,HJ2.o,HA2.o,HI2.o⟩
     case measure=>simp [intOf];omega
    ·have hne:(code == 0)=false:=by simpa using hc
     have HD2:Hid (Ka (Fg Fu) b (ds.take (j+1)) b1 n):=HNO.o _ hrel hc;clear hrel hc hzy hbk hfr;go_wp2
     go_roundw
     case rel=>exact ⟨j+1,n,b1,p1,by omega,by omega,by go_num,by go_num,HD2.o,HJJ.o,HAV.o,HIV.o⟩
     case measure=>simp [intOf];omega
  ·have hje:j=zs.length:=by omega
   subst hje
   have hji:¬ (zs.length:Int)<(zs.length:Int):=by omega
   have HF:Hid (Ka (Fg Fu) b (Lg b) b1 n):=by have h:=HDD.o;rw [HLL.o,List.take_length] at h;rw [Hid,HDS.o];exact h
   obtain ⟨x0,x1,x2,x3,x4,x5,-,-,-,-,-,-⟩:=HAA.o.z;obtain ⟨r0,r1,r2,r3,r4,r5,s0,s1,s2,s3,s4,s5⟩:=HAA.o.r;go_wp2
   refine bodyPost_ret (by simp [results,results25,go_sem,r0,r1,r2,r3,r4,r5];try rfl) rfl ?_
   exact ⟨n,b1,p1,rfl,HF.o,HAA.o.bk.put6 HAA.o.oR _ _ _ _ _ _,Ax HAA.o.hR HAA.o.hb _ _ _ _ _ _⟩
theorem Zo {H:Type} {enc:TypeId×Value→H} {P:Program} {w:World} {base:Nat} {sp:Nat→Bool} {held:Bool} {fuel:Nat} {t e:TypeId} {n:Nat} {cs:List Value} {zs:List (List UInt8)} {p:List MemPlace}
  (ht:P.underlying t=some (.array n e)) (he:P.underlying e=some .string) (hce:P.cellsOf e=1) (hct:P.cellsOf t=n)
  (h:DataW.trod enc P w base sp held fuel t cs=some (DataW.agg (zs.map fun z=>.lit (.string z)),p)):cs=zs.map fun z=>Value.string ⟨z.toArray⟩:=by
 cases fuel with
 | zero=>simp [DataW.trod] at h
 | succ fuel =>
  simp only [DataW.trod,ht,hce,hct,Nat.mul_one] at h
  split at h
  ·rename_i hl
   obtain ⟨xs,hm,hx⟩:=Option.map_eq_some_iff.1 h
   have hxs:xs.map (·.1)=zs.map fun z=>(DataW.lit (.string z):DataW H):=by
    have:=congrArg Prod.fst hx
    simpa using this
   have hxl:xs.length=n:=by simpa using Lib.mapM_length hm
   have hzl:zs.length=n:=by
    have:=congrArg List.length hxs
    simp at this
    omega
   apply List.ext_getElem?;intro i
   by_cases hi:i<n
   ·obtain ⟨b,hb,hf⟩:=Lib.mapM_at hm i i (by simp [hi])
    obtain ⟨z,hc,rfl,_⟩:=DataW.trod_string he hf
    have h1:cs[i]?=some (.string z):=by
     have:=congrArg (·[0]?) hc
     simpa [List.getElem?_take,List.getElem?_drop] using this
    have h2:(xs.map (·.1))[i]?=some (DataW.lit (.string z.data.toList):DataW H):=by simp [hb]
    rw [hxs] at h2
    simp only [List.getElem?_map,Option.map_eq_some_iff,DataW.lit.injEq,Lit.string.injEq] at h2
    obtain ⟨z',hz',e⟩:=h2;subst e
    simp [h1,hz']
   ·rw [List.getElem?_eq_none (by omega),List.getElem?_eq_none (by simp;omega)]
  ·cases h
theorem rO:(Rows.laid_loop_example_g00126_impl_actWords:DataW Unit)=DataW.agg (Dm.map fun z=>.lit (.string z)):=by kernel_rfl
theorem kE : prog.globalNamed "loop.example/g00126/impl.actWords" = some 0 := by kernel_rfl
theorem rM:(prog.globals[0]?).map (·.type)=some 156:=by kernel_rfl
theorem gI {rest : List (String × DataW Unit)} {w : World} (h : laidMet prog (("loop.example/g00126/impl.actWords", Rows.laid_loop_example_g00126_impl_actWords) :: rest) w) : ∀ k, k < 10 → w.cell? ⟨0, k, none⟩ = some (.string ⟨(Al Dm k).toArray⟩) := by
 rw [rO] at h;obtain ⟨ps,⟨g',t',cs,fuel,p,q,hg',ht',hvar,hd,_,_⟩,_⟩:=h;obtain rfl:=Option.some.inj (kE.symm.trans hg');obtain rfl:=Option.some.inj (rM.symm.trans ht')
 have hc:=Zo underlying156 underlying9 (by kernel_rfl) (by kernel_rfl) hd
 obtain ⟨l⟩:=cs
 simp only at hc
 subst hc;intro k hk;rw [World.var?_cell kE hvar k]
 have:k=0∨k=1∨k=2∨k=3∨k=4∨k=5∨k=6∨k=7∨k=8∨k=9:=by omega
 rcases this with rfl | rfl | rfl | rfl | rfl | rfl | rfl | rfl | rfl | rfl <;> rfl
theorem pO : "*" ++ "errors.errorString" = "*errors.errorString" := by decide
theorem bD (u : TypeId) (h : prog.typeName? 3 u = some "*errors.errorString") : u = 372 :=
 typeName_ptr_named (nm := "errors.errorString") (by rw [pO]; kernel_rfl) (by kernel_rfl) (by decide) u (by rw [pO]; exact h)
theorem Se:prog.cellsOf 390=1:=by kernel_rfl
theorem Tn:prog.cellsOf 9=1:=by kernel_rfl
theorem Hz {n : String} {text : List UInt8} {r : List (String × DataW Unit)} {W : World} {g : Nat} (h : laidMet prog ((n, .iface "*errors.errorString" (.ptr (.agg [.lit (.string text)]))) :: r) W) (hg : prog.globalNamed n = some g) (ht : (prog.globals[g]?).map (·.type) = some 104) :
  ∃ t a,W.cell? ⟨g,0,none⟩=some (.iface t (.pointer (some a))):=by
 obtain ⟨a,_,hr,_⟩:=laid_sentinel h hg ht underlying104 bD underlying372 underlying390 rfl rfl underlying9 Se Tn
 exact ⟨_,a,by rw [World.var?_cell hg hr 0];rfl⟩
theorem sK:(Rows.laid_internal_strconv_uint64pow10:DataW Unit)=Lib.tabData .u64 Lib.pow10Tab:=by kernel_rfl
theorem iX {w : World} {r : List (String × DataW Unit)} (h1 : laidMet prog (("internal/strconv.uint64pow10", Rows.laid_internal_strconv_uint64pow10) :: r) w) : Lib.TabIs prog w "internal/strconv.uint64pow10" .u64 Lib.pow10Tab := by
 rw [sK] at h1
 exact Lib.tabIs_of_head (g:=13) (t:=316) (by kernel_rfl) (by kernel_rfl) underlying316 underlying282 (by kernel_rfl) (by kernel_rfl) h1
theorem eO {w:World} (h:Di w):17≤w.heap.size:=by
 have hg : prog.globalNamed "loop.example/g00126/impl.stepDays" = some 16 := by kernel_rfl
 unfold Di Lib.TabIs World.var? at h
 simp only [hg,Option.bind_some] at h
 rcases Nat.lt_or_ge 16 w.heap.size with h' | h'
 ·omega
 ·rw [Array.getElem?_eq_none h'] at h;simp at h
theorem pH {rest r2 : List (String × DataW Unit)} {w : World} (hp : laidMet prog (("internal/strconv.uint64pow10", Rows.laid_internal_strconv_uint64pow10) :: r2) w) (h : laidMet prog (("loop.example/g00126/impl.stepDays", Rows.laid_loop_example_g00126_impl_stepDays) :: ("loop.example/g00126/impl.errLine", Rows.laid_loop_example_g00126_impl_errLine) :: ("loop.example/g00126/impl.errLogFull", Rows.laid_loop_example_g00126_impl_errLogFull) :: ("loop.example/g00126/impl.errCasesFull", Rows.laid_loop_example_g00126_impl_errCasesFull) :: ("loop.example/g00126/impl.errAuth", Rows.laid_loop_example_g00126_impl_errAuth) :: ("loop.example/g00126/impl.errDay", Rows.laid_loop_example_g00126_impl_errDay) :: ("loop.example/g00126/impl.errCase", Rows.laid_loop_example_g00126_impl_errCase) :: ("loop.example/g00126/impl.errMoney", Rows.laid_loop_example_g00126_impl_errMoney) :: ("loop.example/g00126/impl.errAct", Rows.laid_loop_example_g00126_impl_errAct) :: ("loop.example/g00126/impl.actWords", Rows.laid_loop_example_g00126_impl_actWords) :: rest) w) (hsh : w.ShapedOpen prog) : E0 w := by
 have hst:=gF h
 have kerrLine:=Hz (g:=3) (h.tail) (by kernel_rfl) (by kernel_rfl)
 have kerrLogFull:=Hz (g:=1) (h.tail.tail) (by kernel_rfl) (by kernel_rfl)
 have kerrCasesFull:=Hz (g:=6) (h.tail.tail.tail) (by kernel_rfl) (by kernel_rfl)
 have kerrAuth:=Hz (g:=5) (h.tail.tail.tail.tail) (by kernel_rfl) (by kernel_rfl)
 have kerrDay:=Hz (g:=4) (h.tail.tail.tail.tail.tail) (by kernel_rfl) (by kernel_rfl)
 have kerrCase:=Hz (g:=7) (h.tail.tail.tail.tail.tail.tail) (by kernel_rfl) (by kernel_rfl)
 have kerrMoney:=Hz (g:=8) (h.tail.tail.tail.tail.tail.tail.tail) (by kernel_rfl) (by kernel_rfl)
 have kerrAct:=Hz (g:=9) (h.tail.tail.tail.tail.tail.tail.tail.tail) (by kernel_rfl) (by kernel_rfl)
 exact ⟨eO hst,hst,iX hp,cell_of_shapedOpen_int (zero:=#[.int .i64 0]) (t:=3) hsh (of_decide_eq_true (by kernel_rfl)) (by kernel_rfl) rfl (by kernel_rfl) (by kernel_rfl) underlying3,kerrLogFull,kerrLine,kerrDay,kerrAuth,kerrCasesFull,kerrCase,kerrMoney,kerrAct,gI h.tail.tail.tail.tail.tail.tail.tail.tail.tail⟩
def bL (P:Program) (ns:List String):Bool:=ns.all fun n=>((P.globalNamed n).bind fun g=>(P.globals[g]?).map fun x=>P.readableRec x.type && decide (x.type<P.types.size)) == some true
theorem Sl {H:Type} {enc:TypeId×Value→H} {W W':World} (hb:BW W W'):∀ (ns:List String) (gs:List (DataW H)) (q:List MemPlace),bL prog ns=true→DataW.TrodVars enc prog W (fun _=>true) ns gs q→DataW.TrodVars enc prog W' (fun b=>decide (b<W.heap.size)) ns gs q
 | [],[],q,_,h=>h
 | n::ns,d::ds,ps,hr,h=>by
  obtain ⟨g,t,cs,fuel,p,q,hg,ht,hv,hd,hrest,hps⟩:=h
  simp only [bL,List.all_cons,Bool.and_eq_true] at hr
  obtain ⟨h1,h2⟩:=hr;obtain ⟨x,hx,hxt⟩:=Option.map_eq_some_iff.1 ht;rw [hg] at h1
  simp only [Option.bind_some,hx,Option.map_some] at h1
  have h3:(prog.readableRec x.type && decide (x.type<prog.types.size))=true:=by simpa using h1
  rw [hxt] at h3
  simp only [Bool.and_eq_true,decide_eq_true_eq] at h3
  have hlt:∀ y ∈ p,y.block<W.heap.size:=DataW.trod_lt fuel _ _ _ hd
  obtain ⟨f',hd'⟩:=Below.trod Uc h3.1 h3.2 (v:=.agg cs) (⟨fuel,hd⟩:DataW.Trod enc prog W 0 (fun _=>true) true t (.agg cs) d p) hb hlt
  refine ⟨g,t,cs,f',p,q,hg,ht,?_,hd',Sl hb ns ds q h2 hrest,hps⟩;exact iJ hv hb
theorem T6 {H:Type} {enc:TypeId×Value→H} {w:World} {sp:Nat→Bool} {n1 n2 n3 n4 n5 n6 n7 n8 n9 n10:String} {gs:List (DataW H)} {ps:List MemPlace} (h:DataW.TrodVars enc prog w sp [n1,n2,n3,n4,n5,n6,n7,n8,n9,n10] gs ps) :
  ∃ y1 y2 y3 y4 y5 y6 y7 y8 y9 y10,gs=[y1,y2,y3,y4,y5,y6,y7,y8,y9,y10]:=by
 have len:∀ (ns:List String) (gs:List (DataW H)) (ps:List MemPlace),DataW.TrodVars enc prog w sp ns gs ps→gs.length=ns.length:=by
  intro ns
  induction ns with
  | nil=>intro gs ps h;cases gs with
   | nil=>rfl
   | cons a b=>simp [DataW.TrodVars] at h
  | cons n ns ih=>intro gs ps h;cases gs with
   | nil=>simp [DataW.TrodVars] at h
   | cons a b =>
    obtain ⟨g,t,cs,fuel,p,q,_,_,_,_,hrest,_⟩:=h
    simp [ih _ _ hrest]
 have hl:=len _ _ _ h
 match gs,hl with
 | [y1,y2,y3,y4,y5,y6,y7,y8,y9,y10],_=>exact ⟨y1,y2,y3,y4,y5,y6,y7,y8,y9,y10,rfl⟩
end Kb
end Go.Proofs.YtomiclakhjncbaaGreatDoor
