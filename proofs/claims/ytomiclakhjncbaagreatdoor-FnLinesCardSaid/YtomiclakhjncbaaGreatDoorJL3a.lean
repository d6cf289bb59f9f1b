import Derived.Test.YtomiclakhjncbaaGreatDoorJL0a
import Derived.Test.YtomiclakhjncbaaGreatDoorKLHpDown
import Derived.Test.YtomiclakhjncbaaGreatDoorJL2a
import Derived.Test.YtomiclakhjncbaaGreatDoorJL1a
import Derived.Test.YtomiclakhjncbaaGreatDoorKLSLed2
namespace Go.Proofs.YtomiclakhjncbaaGreatDoor
open Go.RowKit Go.Proofs.Tryz
set_option maxRecDepth 100000
set_option maxHeartbeats 12800000
theorem hZ {q:Option (Nat×Obj)} {w u:World} {H:List Cd} {g cap:Nat} (h:HP q w H (some ⟨g,0,none⟩) cap u) (hk:0<H.length) :
  Calls prog 401 #[.slice (some ⟨g,0,none⟩) H.length cap,.int .i64 0,.int .i64 0] u fun e u'=>e=.returned (.tuple #[])∧HP q w (Cu H 0 0) (some ⟨g,0,none⟩) cap u':=by
 obtain ⟨k0,k1⟩:=h.at hk;have f0:u.frozen? ⟨g,0,none⟩=false:=h.own.frozenAt _;have f1:u.frozen? ⟨g,1,none⟩=false:=h.own.frozenAt _
 have HR:Hid (HP q w (Cu H 0 0) (some ⟨g,0,none⟩) cap ((((u.setCell ⟨g,0,none⟩ (.int .i64 (Bc H 0).1)).setCell ⟨g,1,none⟩ (.int .i64 (Bc H 0).2)).setCell ⟨g,0,none⟩ (.int .i64 (Bc H 0).1)).setCell ⟨g,1,none⟩ (.int .i64 (Bc H 0).2))) :=
  (h.setAt hk (Bc H 0)).setAt (by rw [List.length_set];exact hk) (Bc H 0)
 obtain ⟨⟨a,b⟩,hab⟩:∃ x,Bc H 0=x:=⟨_,rfl⟩;rw [hab] at HR k0 k1
 simp only [Nat.zero_mul,Nat.zero_add] at k0 k1 HR
 have hk':(0:Int)<(H.length:Int):=by omega
 clear h hab
 go_enter func401,ntmps401
 go_region_with (fail)
 all_goals
  go_wp2;go_end0;exact ⟨rfl,HR.o.below (bR.drew)⟩
theorem gZ {w u:World} {H:List Cd} {ao:Option Addr} {cap:Nat} (h:HP none w H ao cap u) (hh:F1 H) (s p:Int) (hn:H.length≤900) :
  Calls prog 281 #[iC w,.iface 294 (.agg #[.int .i64 s,.int .i64 p])] u fun e u'=>e=.returned (.tuple #[])∧∃ g c G,HP none w G (some ⟨g,0,none⟩) c u'∧F1 G∧Fv (H++[(s,p)]) G:=by
 obtain ⟨L,hL⟩:∃ L,H++[(s,p)]=L:=⟨_,rfl⟩
 have HPM:Hid (Calls prog 403 #[.pointer (some ⟨w.heap.size,0,none⟩),.iface 294 (.agg #[.int .i64 s,.int .i64 p])] u fun e u'=>e=.returned (.tuple #[])∧∃ g c,HP none w L (some ⟨g,0,none⟩) c u'):=by rw [← hL];exact eV h s p (by omega)
 have HN:Hid (Qr (H++[(s,p)]) H.length):=eK hh (s,p);have hmp:=mQ (.pointer (some ⟨w.heap.size,0,none⟩)) u
 have hl:(L.length:Int) - 1=(H.length:Int):=by rw [← hL];simp
 have HLT:Hid (H.length<L.length∧L.length≤1000):=by rw [Hid,← hL];simp;omega
 have hLn:L.length≤1000:=HLT.o.2;rw [hL] at HN ⊢;clear h hh hL;unfold iC
 go_enter func281,ntmps281
 go_wp2_with fail
 refine Calls.mono HPM.o ?_;rintro e u2 ⟨rfl,g,c,hp2⟩;have HP2:Hid (HP none w L (some ⟨g,0,none⟩) c u2):=hp2;have hml:=bC hp2.box;clear hp2 hmp;go_wp2_with fail
 refine (Mv _ _ _ _).mono ?_;rintro e u3 ⟨rfl,hu3⟩;subst hu3;go_wp2_with fail
 refine (qI HP2.o H.length HLT.o.1 HLT.o.2 HN.o).mono ?_;rintro e u4 ⟨rfl,G,hp4,hG,hS⟩;have HP4:Hid (HP none w G (some ⟨g,0,none⟩) c u4):=hp4;have HG:Hid _:=hG;have HS:Hid _:=hS;clear hp4 hG hS hml;go_wp2;go_end0;exact ⟨rfl,g,c,G,HP4.o,HG.o,HS.o⟩
theorem iF {q:Option (Nat×Obj)} {w u:World} {H:List Cd} {g cap:Nat} (h:HP q w H (some ⟨g,0,none⟩) cap u) (m:Nat) (hm:H.length=m+1) (hn:H.length≤900) :
  Calls prog 283 #[iC w] u fun e u'=>e=.returned (.iface 294 (.agg #[.int .i64 (Bc H 0).1,.int .i64 (Bc H 0).2]))∧BW w u'∧∀ x o,q=some (x,o)→u'.heap[x]?=some o:=by
 have HH:Hid (HP q w H (some ⟨g,0,none⟩) cap u):=h;have hml:=bC h.box;have hms:=Iv h.box
 have HSW:Hid (Calls prog 401 #[.slice (some ⟨g,0,none⟩) H.length cap,.int .i64 0,.int .i64 m] u fun e u'=>e=.returned (.tuple #[])∧HP q w (Cu H 0 m) (some ⟨g,0,none⟩) cap u'):=by
  by_cases h0:m=0
  ·subst h0
   exact hZ h (by omega)
  ·exact Ke h 0 m (by omega) (by omega)
 have HSL:Hid ((Cu H 0 m).length=m+1∧Bc (Cu H 0 m) m=Bc H 0):=⟨by rw [Hc];exact hm,by rw [Fi (by omega) (by omega),La]⟩
 have hl:(H.length:Int) - 1=(m:Int):=by omega
 have HMB:Hid (m+1≤900):=by rw [Hid];omega
 obtain ⟨⟨a,b⟩,hab⟩:∃ x,Bc H 0=x:=⟨_,rfl⟩;rw [hab] at HSL ⊢
 simp only
 clear h hm hab;unfold iC
 go_enter func283,ntmps283
 go_wp2_with fail
 refine (Mv _ _ _ _).mono ?_;rintro e u3 ⟨rfl,hu3⟩;subst hu3;go_wp2_with fail
 refine Calls.mono HSW.o ?_;rintro e u4 ⟨rfl,hp4⟩;have HP4:Hid (HP q w (Cu H 0 m) (some ⟨g,0,none⟩) cap u4):=hp4;clear hp4 hml hms HSW;go_wp2_with fail
 refine (mJ HP4.o m HSL.o.1 (by have:=HSL.o.1;have:=HMB.o;omega)).mono ?_
 rintro e u5 ⟨⟨z,rfl⟩,G,hp5,hg5,hc5⟩;have HP5:Hid (HP q w G (some ⟨g,0,none⟩) cap u5):=hp5;have HG5:Hid (G.length=m+1∧Bc G m=(a,b)):=⟨hg5.trans HSL.o.1,hc5.trans HSL.o.2⟩;have hmp:=nV (.pointer (some ⟨w.heap.size,0,none⟩)) u5
 have HPO:Hid (Calls prog 402 #[.pointer (some ⟨w.heap.size,0,none⟩)] u5 fun e u'=>e=.returned (.iface 294 (.agg #[.int .i64 a,.int .i64 b]))∧BW w u'∧∀ x o,q=some (x,o)→u'.heap[x]?=some o):=by
  have:=kA HP5.o m HG5.o.1 (by have:=HG5.o.1;have:=HMB.o;omega)
  rw [HG5.o.2] at this;exact this
 clear hp5 hg5 hc5;go_wp2_with fail
 refine Calls.mono HPO.o ?_;rintro e u6 ⟨rfl,b6⟩;have HB6:Hid _:=b6;clear b6 hmp;go_wp2;go_ret;exact ⟨rfl,HB6.o⟩
theorem dN {w u:World} {H:List Cd} {ao:Option Addr} {cap:Nat} (h:HP none w H ao cap u) (hh:F1 H) (s p:Int) (hn:H.length≤900) :
  Calls prog 252 #[.pointer (some ⟨w.heap.size,0,none⟩),.int .i64 s,.int .i64 p] u fun e u'=>e=.returned (.tuple #[])∧∃ g c G,HP none w G (some ⟨g,0,none⟩) c u'∧F1 G∧Fv (H++[(s,p)]) G:=by
 have HPU:Hid (Calls prog 281 #[iC w,.iface 294 (.agg #[.int .i64 s,.int .i64 p])] u fun e u'=>e=.returned (.tuple #[])∧∃ g c G,HP none w G (some ⟨g,0,none⟩) c u'∧F1 G∧Fv (H++[(s,p)]) G):=gZ h hh s p hn
 unfold iC at HPU;clear h hh
 go_enter func252,ntmps252
 go_wp2_with fail
 refine Calls.mono HPU.o ?_;rintro e u4 ⟨rfl,hx⟩;have HX:Hid _:=hx;clear hx;go_wp2;go_end0;exact ⟨rfl,HX.o⟩
theorem HP.name {w u:World} {H:List Cd} {ao:Option Addr} {cap:Nat} (h:HP none w H ao cap u) (o:Obj):HP (some (u.heap.size,o)) w H ao cap (u.alloc o):=by
 have b:Below u.heap.size u (u.alloc o):=bR.alloc nL _;obtain ⟨h1,h2,h3,h4,_⟩:=h.below b
 refine ⟨h1,h2,h3,h4,fun x p e=>?_⟩
 injection e with e
 injection e with e1 e2
 subst e1 e2
 exact ⟨Array.getElem?_push_size,h.lt,fun y hy=>by have:=(h.own.lt y hy).2;omega⟩
theorem Vj {w u:World} {H:List Cd} {ao:Option Addr} {cap:Nat} (h:HP none w H ao cap u) (hn:H.length≤900) (h0:0<H.length) :
  Calls prog 253 #[.pointer (some ⟨w.heap.size,0,none⟩)] u fun e u'=>e=.returned (.tuple #[.agg #[.int .i64 (Bc H 0).1,.int .i64 (Bc H 0).2],.bool true])∧BW w u':=by
 obtain ⟨g,rfl,-,-⟩:=h.row h0
 obtain ⟨m,hm⟩:∃ m,H.length=m+1:=⟨H.length - 1,by omega⟩
 have hp:=h.name (.cells #[.int .i64 0,.int .i64 0] 294);have HU:Hid (w.heap.size<u.heap.size):=h.lt;obtain ⟨W,hW⟩:∃ W,u.alloc (.cells #[.int .i64 0,.int .i64 0] 294)=W:=⟨_,rfl⟩;rw [hW] at hp;have hbox:=hp.box
 have HPO:Hid (Calls prog 283 #[iC w] W fun e u'=>e=.returned (.iface 294 (.agg #[.int .i64 (Bc H 0).1,.int .i64 (Bc H 0).2]))∧BW w u'∧∀ x o,some (u.heap.size,Obj.cells #[.int .i64 0,.int .i64 0] 294)=some (x,o)→u'.heap[x]?=some o):=iF hp m hm hn
 unfold iC at HPO;have HW:Hid _:=hW
 have hne:((H.length:Int) == 0)=false:=beq_eq_false_iff_ne.2 (by omega)
 obtain ⟨⟨a,b⟩,hab⟩:∃ x,Bc H 0=x:=⟨_,rfl⟩;rw [hab] at HPO ⊢
 simp only at HPO ⊢
 have ta:=tH a b;clear hp h hW hab hm
 go_enter func253,ntmps253
 go_upto_region 1 with fail
 rw [HW.o];go_wp2_with fail
 refine (Mv _ _ _ _).mono ?_;rintro e u3 ⟨rfl,hu3⟩;subst hu3;go_wp2_with fail
 refine Calls.mono HPO.o ?_;rintro e u4 ⟨rfl,b4,hk4⟩;have hk:=hk4 _ _ rfl;have lk:u.heap.size<u4.heap.size:=(Array.getElem?_eq_some_iff.1 hk).1
 have c0:u4.cell? ⟨u.heap.size,0,none⟩=some (.int .i64 0):=by simp [World.cell?,hk]
 have c1:u4.cell? ⟨u.heap.size,1,none⟩=some (.int .i64 0):=by simp [World.cell?,hk]
 have z0:u4.frozen? ⟨u.heap.size,0,none⟩=false:=by simp [World.frozen?,hk]
 have z1:u4.frozen? ⟨u.heap.size,1,none⟩=false:=by simp [World.frozen?,hk]
 have HB4:Hid (BW w u4):=b4;clear b4 hk4 hk hbox;go_upto_region 4 with fail
 obtain ⟨V,hV⟩:∃ V,u4.alloc (.cells #[.int .i64 a,.int .i64 b] 294)=V:=⟨_,rfl⟩;have bV:BW u4 V:=hV ▸ bR.alloc nL _
 have d0:V.cell? ⟨u4.heap.size,0,none⟩=some (.int .i64 a):=by rw [← hV];simp
 have d1:V.cell? ⟨u4.heap.size,1,none⟩=some (.int .i64 b):=by rw [← hV];simp
 have e0:=(bV.cell (p:=⟨u.heap.size,0,none⟩) lk).trans c0;have e1:=(bV.cell (p:=⟨u.heap.size,1,none⟩) lk).trans c1;have e2:=(bV.frozen (p:=⟨u.heap.size,0,none⟩) lk).trans z0;have e3:=(bV.frozen (p:=⟨u.heap.size,1,none⟩) lk).trans z1;have HBV:Hid (BW w V):=HB4.o.trans (bV.mono HB4.o.size)
 have hnn:¬ u4.heap.size=u.heap.size:=by omega
 have hnn2:¬ u.heap.size=u4.heap.size:=by omega
 rw [hV];clear hV bV c0 c1 z0 z1;go_wp2
 refine bodyPost_ret (by simp [results,results253,go_sem,e0,e1];try rfl) rfl ?_
 exact ⟨rfl,(HBV.o.setCell (Nat.le_of_lt HU.o) _).setCell (Nat.le_of_lt HU.o) _⟩
theorem Zg {w u:World} {H:List Cd} {ao:Option Addr} {cap:Nat} (h:HP none w H ao cap u) (h0:H.length=0) :
  Calls prog 253 #[.pointer (some ⟨w.heap.size,0,none⟩)] u fun e u'=>e=.returned (.tuple #[.agg #[.int .i64 0,.int .i64 0],.bool false])∧BW w u':=by
 have hp:=h.name (.cells #[.int .i64 0,.int .i64 0] 294);have HU:Hid (w.heap.size<u.heap.size):=h.lt;obtain ⟨W,hW⟩:∃ W,u.alloc (.cells #[.int .i64 0,.int .i64 0] 294)=W:=⟨_,rfl⟩
 have c0:W.cell? ⟨u.heap.size,0,none⟩=some (.int .i64 0):=by rw [← hW];simp
 have c1:W.cell? ⟨u.heap.size,1,none⟩=some (.int .i64 0):=by rw [← hW];simp
 have z0:W.frozen? ⟨u.heap.size,0,none⟩=false:=by rw [← hW];simp [go_sem]
 have z1:W.frozen? ⟨u.heap.size,1,none⟩=false:=by rw [← hW];simp [go_sem]
 rw [hW] at hp;have hbox:=hp.box;rw [h0] at hbox;have HB:Hid (BW w W):=hp.bel;have HW:Hid _:=hW;clear hp h hW h0
 go_enter func253,ntmps253
 go_upto_region 1 with fail
 rw [HW.o];go_wp2_with fail
 refine (Mv _ _ _ _).mono ?_;rintro e u3 ⟨rfl,hu3⟩;subst hu3;go_wp2
 refine bodyPost_ret (by simp [results,results253,go_sem,c0,c1];try rfl) rfl ?_
 exact ⟨rfl,(HB.o.setCell (Nat.le_of_lt HU.o) _).setCell (Nat.le_of_lt HU.o) _⟩
theorem dP (ao:Option Addr) (cap:Nat) (az:List Au) (iss cur am day:Int) (w:World) (hz:Ar w ao az) (hn:az.length≤1048576) (hd:∀ a ∈ az,a.ref.length≤1099511627776) (hc:∀ a ∈ az,Bf a.cur) (w3:(Lit.int .i64 am).wf=true) (w4:(Lit.int .i64 day).wf=true) :
  Calls prog 209 #[.slice ao az.length cap,.int .i64 iss,.int .i64 cur,.int .i64 am,.int .i64 day] w fun e w'=>∃ x,e=.returned (.int .i64 x)∧Gm az iss cur am day x∧BW w w':=by
 by_cases hb:100<az.length
 ·have hb':(100:Int)<(az.length:Int):=by omega
  go_enter func209,ntmps209
  go_wp2;go_ret;exact ⟨_,rfl,.inr ⟨hb,rfl⟩,bR⟩
 have hb':(az.length:Int)≤100:=by omega
 have HSC:Hid (∀ k,k<az.length→∀ u,Calls prog 251 #[Fe (Ak az k),.int .i64 iss,.int .i64 cur,.int .i64 am,.int .i64 day] u fun e w'=>e=.returned (.int .i64 (scA az iss cur am day k))∧BW u w'):=fun k hk u=>aV _ iss cur am day u (hd _ (J8 hk)) (hc _ (J8 hk)) w3 w4
 have HP0:Hid (HP none w [] none 0 (w.alloc (.cells #[.slice none 0 0] 291))) :=
  ⟨bR.alloc nL _,by simp,by simp [go_sem],World.ownsRow_nil _ _ _ _,fun _ _ e=>by cases e⟩
 obtain ⟨sc,hsc⟩:∃ f,scA az iss cur am day=f:=⟨_,rfl⟩
 have HBA:Hid (∀ x,Io sc az.length x→Gm az iss cur am day x):=fun x hx=>.inl ⟨by omega,by rw [hsc];exact hx⟩
 rw [hsc] at HSC;clear hsc hd hc w3 w4
 go_enter func209,ntmps209
 go_wp2
 go_loopw [12,13,14,22] (fun _ _ _ i wr=>∃ (k:Nat) (H:List Cd) (a:Option Addr) (c:Nat),k≤az.length∧i=.int .i64 k∧Gu sc k H∧HP none w H a c wr) (fun _ _ _ i _=>az.length - (intOf i).toNat)
 case atStart=>exact ⟨0,[],none,0,Nat.zero_le _,rfl,Gu.start sc,HP0.o⟩
 case round =>
  obtain ⟨k,H,ao2,cc,hk,rfl,hcd,hp⟩:=hrel;have HCD:Hid (Gu sc k H):=hcd;have HPR:Hid (HP none w H ao2 cc wr):=hp
  have HLE:Hid (H.length≤900):=by have:=hcd.le;rw [Hid];omega
  clear hcd hp HP0
  by_cases hlt:k<az.length
  ·rcases hz with h0 | ⟨b,off,rfl,hbz,hcell⟩
   ·rw [h0] at hlt;simp at hlt
   have hbr:BW w wr:=HPR.o.bel;have HCL:Hid (∀ i,i<az.length→w.cell? ⟨b,off+i*6,none⟩=some (.string ⟨(Ak az i).ref.toArray⟩)∧w.cell? ⟨b,off+i*6+1,none⟩=some (.int .i64 (Ak az i).iss)∧w.cell? ⟨b,off+i*6+2,none⟩=some (.int .i64 (Ak az i).cur)∧w.cell? ⟨b,off+i*6+3,none⟩=some (.int .i64 (Ak az i).am)∧w.cell? ⟨b,off+i*6+4,none⟩=some (.int .i64 (Ak az i).day)∧w.cell? ⟨b,off+i*6+5,none⟩=some (.bool (Ak az i).used)):=hcell;have x0:wr.cell? ⟨b,off+k*6,none⟩=some (.string ⟨(Ak az k).ref.toArray⟩):=(hbr.cell (p:=⟨b,off+k*6,none⟩) hbz).trans (HCL.o k hlt).1;have x1:wr.cell? ⟨b,off+k*6+1,none⟩=some (.int .i64 (Ak az k).iss):=(hbr.cell (p:=⟨b,off+k*6+1,none⟩) hbz).trans (HCL.o k hlt).2.1;have x2:wr.cell? ⟨b,off+k*6+2,none⟩=some (.int .i64 (Ak az k).cur):=(hbr.cell (p:=⟨b,off+k*6+2,none⟩) hbz).trans (HCL.o k hlt).2.2.1;have x3:wr.cell? ⟨b,off+k*6+3,none⟩=some (.int .i64 (Ak az k).am):=(hbr.cell (p:=⟨b,off+k*6+3,none⟩) hbz).trans (HCL.o k hlt).2.2.2.1;have x4:wr.cell? ⟨b,off+k*6+4,none⟩=some (.int .i64 (Ak az k).day):=(hbr.cell (p:=⟨b,off+k*6+4,none⟩) hbz).trans (HCL.o k hlt).2.2.2.2.1;have x5:wr.cell? ⟨b,off+k*6+5,none⟩=some (.bool (Ak az k).used):=(hbr.cell (p:=⟨b,off+k*6+5,none⟩) hbz).trans (HCL.o k hlt).2.2.2.2.2
   have hki:(k:Int)<(az.length:Int):=by omega
   have HSK:Hid (∀ u,Calls prog 251 #[Fe (Ak az k),.int .i64 iss,.int .i64 cur,.int .i64 am,.int .i64 day] u fun e w'=>e=.returned (.int .i64 (sc k))∧BW u w'):=HSC.o k hlt
   obtain ⟨⟨r,i,c,m,d,u⟩,hf⟩:∃ a,Ak az k=a:=⟨_,rfl⟩;rw [hf] at x0 x1 x2 x3 x4 x5 HSK;unfold Fe at HSK
   simp only at x0 x1 x2 x3 x4 x5 HSK
   clear hf hcell hbr;go_upto_region 7 with fail
   clear x0 x1 x2 x3 x4 x5;obtain ⟨W,hW⟩:∃ W,wr.alloc (.cells #[.string ⟨r.toArray⟩,.int .i64 i,.int .i64 c,.int .i64 m,.int .i64 d,.bool u] 107)=W:=⟨_,rfl⟩;have bW:BW wr W:=hW ▸ bR.alloc nL _;have BX:Jo wr.heap.size ⟨r,i,c,m,d,u⟩ W:=hW ▸ Jo.new wr ⟨r,i,c,m,d,u⟩ _;rw [hW];clear hW;have HPW:Hid (HP none w H ao2 cc W):=HPR.o.below bW;obtain ⟨q0,q1,q2,q3,q4,q5⟩:=BX
   simp only at q0 q1 q2 q3 q4 q5
   clear bW HPR;go_wp2_with fail
   refine (HSK.o _).mono ?_;rintro e u2 ⟨rfl,b2⟩;have HP2:Hid (HP none w H ao2 cc u2):=HPW.o.below b2;clear b2 q0 q1 q2 q3 q4 q5 HPW HSK
   by_cases hs:0≤sc k
   ·have HAD:Hid (Calls prog 252 #[.pointer (some ⟨w.heap.size,0,none⟩),.int .i64 (sc k),.int .i64 k] u2 fun e u'=>e=.returned (.tuple #[])∧∃ g c G,HP none w G (some ⟨g,0,none⟩) c u'∧F1 G∧Fv (H++[(sc k,(k:Int))]) G):=dN HP2.o HCD.o.heap (sc k) k HLE.o
    have HPU:Hid (∀ G,F1 G→Fv (H++[(sc k,(k:Int))]) G→Gu sc (k+1) G):=fun G h1 h2=>HCD.o.push hs h1 h2
    generalize sc k=s at hs HAD HPU
    go_wp2_with fail
    refine Calls.mono HAD.o ?_;rintro e u3 ⟨rfl,g3,c3,G,hp3,hG,hS⟩;have HP3:Hid (HP none w G (some ⟨g3,0,none⟩) c3 u3):=hp3;have HC3:Hid (Gu sc (k+1) G):=HPU.o G hG hS;clear hp3 hG hS;go_wp2
    go_roundw
    case rel=>exact ⟨k+1,G,_,_,by omega,by go_num,HC3.o,HP3.o⟩
    case measure=>simp [intOf];omega
   ·have HC3:Hid (Gu sc (k+1) H):=HCD.o.skip (by omega)
    generalize sc k=s at hs
    go_wp2
    go_roundw
    case rel=>exact ⟨k+1,H,_,_,by omega,by go_num,HC3.o,HP2.o⟩
    case measure=>simp [intOf];omega
  ·have hke:k=az.length:=by omega
   subst hke
   by_cases h0:0<H.length
   ·have HNY:Hid (Calls prog 253 #[.pointer (some ⟨w.heap.size,0,none⟩)] wr fun e u'=>e=.returned (.tuple #[.agg #[.int .i64 (Bc H 0).1,.int .i64 (Bc H 0).2],.bool true])∧BW w u'):=Vj HPR.o HLE.o h0
    have HBR:Hid (Gm az iss cur am day (Bc H 0).2):=HBA.o _ (eB HCD.o h0);obtain ⟨⟨s,p⟩,hsp⟩:∃ x,Bc H 0=x:=⟨_,rfl⟩;rw [hsp] at HNY HBR
    simp only at HNY HBR
    clear hsp h0 hz;go_wp2_with fail
    refine Calls.mono HNY.o ?_;rintro e u3 ⟨rfl,b3⟩;have HB3:Hid _:=b3;clear b3;go_wp2;go_ret;exact ⟨_,rfl,HBR.o,HB3.o.alloc HB3.o.size _⟩
   ·have HNN:Hid (Calls prog 253 #[.pointer (some ⟨w.heap.size,0,none⟩)] wr fun e u'=>e=.returned (.tuple #[.agg #[.int .i64 0,.int .i64 0],.bool false])∧BW w u'):=Zg HPR.o (by omega)
    have HBR:Hid (Gm az iss cur am day (-1)):=HBA.o _ (fB HCD.o (by omega))
    clear h0 hz;go_wp2_with fail
    refine Calls.mono HNN.o ?_;rintro e u3 ⟨rfl,b3⟩;have HB3:Hid _:=b3;clear b3;go_wp2;go_ret;exact ⟨_,rfl,HBR.o,HB3.o.alloc HB3.o.size _⟩
theorem Zm (w:World) (q:Nat) (os:Array Obj):Below w.heap.size w (Go.Sort.grow (w.drewN q) os) :=
 ⟨rfl,rfl,rfl,by simp [Go.Sort.grow,World.drewN],fun k hk=>by simp [Go.Sort.grow,World.drewN,Array.getElem?_append,hk]⟩
theorem Kt {a c m:Int} {v:Bool} (h:G7 (a,c,m)=v) (hc:(Lit.int .i64 c).wf=true) (w:World) :
  Calls prog 93 #[.agg #[.int .i64 a,.int .i64 c,.int .i64 m]] w fun e w'=>e=.returned (.bool v)∧BW w w':=by rw [← h];exact aY a c m w hc
theorem Pb {a b c x y z v:Int} (h:Qh (a,b,c) (x,y,z)=v) (w:World) :
  Calls prog 94 #[.agg #[.int .i64 a,.int .i64 b,.int .i64 c],.agg #[.int .i64 x,.int .i64 y,.int .i64 z]] w fun e w'=>e=.returned (.int .i64 v)∧BW w w' :=
 (Nr a b c x y z w).mono fun e w' ⟨he,q,os,hw⟩=>⟨by rw [he,h],by rw [hw];exact Zm w q os⟩
theorem nU {ls:List Ln} (h:Az none ls=true) (hl:ls.length≤400):At ls=mW ls:=by
 have he:Wo ls=mW ls:=by
  rw [Bool.eq_iff_iff,hH fun x hx=>(Ig (Dv h x hx)).2.1,mW,List.all_eq_true]
  simp
 simp [At,h,hl,he]
theorem Ij (ao:Option Addr) (cap:Nat) (ls:List Ln) (w:World) (hz:Ai w ao ls) (hn:ls.length≤1099511627776) (hwf:∀ x ∈ ls,Hw x) :
  Calls prog 39 #[.agg #[.slice ao ls.length cap]] w fun e w'=>e=.returned (.bool (At ls))∧BW w w':=by
 obtain ⟨W,hW⟩:∃ W,W=w.alloc (.cells #[.slice ao ls.length cap] 29):=⟨_,rfl⟩
 have bW:BW w W:=by rw [hW];go_grown
 have hWs:w.heap.size<W.heap.size:=by rw [hW];simp
 have k0:W.cell? ⟨w.heap.size,0,none⟩=some (.slice ao ls.length cap):=by rw [hW];simp
 have HK:Hid (W.cell? ⟨w.heap.size,0,none⟩=some (.slice ao ls.length cap)):=k0;have HZ:Hid (Ai W ao ls):=hz.below bW;have HWF:Hid (∀ x ∈ ls,Hw x):=hwf;clear hz hwf
 by_cases h4:(400:Int)<(ls.length:Int)
 ·have HE:Hid (At ls=false):=by
    have:¬ ls.length≤400:=by omega
    simp [Hid,At,this]
  go_enter func39,ntmps39
  go_wp2;go_ret;rw [← hW];exact ⟨Aa HE.o.symm,bW⟩
 have hl4:ls.length≤400:=by omega
 go_enter func39,ntmps39
 go_wp2;rw [← hW];clear hW
 go_loopw [12] (fun i wr=>∃ k:Nat,k≤ls.length∧i=.int .i64 k∧Az none ls=Az (Fc ls k) (ls.drop k)∧BW W wr) (fun i _=>ls.length - (intOf i).toNat)
 case atStart=>exact ⟨0,Nat.zero_le _,rfl,rfl,bR⟩
 case round =>
  obtain ⟨k,hk,rfl,hok,hbr⟩:=hrel;have HOK:Hid _:=hok;have hbs:=hbr.size;have hws:w.heap.size<wr.heap.size:=Nat.lt_of_lt_of_le hWs hbs;clear hok k0
  by_cases hlt:k<ls.length
  ·have hki:(k:Int)<(ls.length:Int):=by omega
   obtain ⟨b,off,rfl,hb2,c1,c2,c3⟩:=(HZ.o.below hbr).at hlt;have hst:=Mq ls k hlt;have hwk:=HWF.o _ (Ex hlt);obtain ⟨p,hp⟩:∃ p,Fc ls k=p:=⟨_,rfl⟩;have HP:Hid _:=hp;rw [hp] at hst HOK;obtain ⟨⟨x,y,z⟩,hx⟩:∃ x,Cg ls k=x:=⟨_,rfl⟩;rw [hx] at c1 c2 c3 hst hwk
   simp only at c1 c2 c3
   have HWK:Hid ((Lit.int .i64 y).wf=true):=hwk.2.1;have HST:Hid _:=HOK.o.trans hst;obtain ⟨V,hV⟩:∃ V,V=wr.alloc (.cells #[.int .i64 x,.int .i64 y,.int .i64 z] 113):=⟨_,rfl⟩
   have bV:BW W V:=by rw [hV];exact hbr.alloc hbs _
   have hVs:V.heap.size=wr.heap.size+1:=by rw [hV];simp
   have v0:V.cell? ⟨wr.heap.size,0,none⟩=some (.int .i64 x):=by rw [hV];simp
   have v1:V.cell? ⟨wr.heap.size,1,none⟩=some (.int .i64 y):=by rw [hV];simp
   have v2:V.cell? ⟨wr.heap.size,2,none⟩=some (.int .i64 z):=by rw [hV];simp
   have l0:=(bV.cell (p:=⟨w.heap.size,0,none⟩) hWs).trans HK.o;have HBV:Hid (BW W V):=bV;have HBW:Hid (BW w W):=bW;have hVw:W.heap.size≤V.heap.size:=bV.size;have hne:=K0 V;have g0:=As v0;have g1:=As v1;have g2:=As v2;have g3:=As l0;have HLV:Hid (Ai V (some ⟨b,off,none⟩) ls):=HZ.o.below bV;go_upto_region 6 with fail
   rw [← hV];clear hV hst hx hp HOK hwk bV bW hbr c1 c2 c3
   cases h1:G7 (x,y,z)
   ·have HE:Hid (At ls=false):=by
      unfold At
      rw [Hid,HST.o,h1];rfl
    have H1:Hid _:=h1;clear h1 HST
    refine B6 (by kernel_rfl) (by kernel_rfl) ?_
    repeat (go_big_quiet_step (exact F8 (Kt H1.o HWK.o _)))
    refine wpQuiet_nil ?_;rintro _ ⟨⟨u1,q1⟩,hu1⟩;subst hu1;go_wp2;go_ret;exact ⟨Aa HE.o.symm,HBW.o.trans ((HBV.o.trans (q1.mono hVw)).mono HBW.o.size)⟩
   have H1:Hid _:=h1
   have HST2:Hid (Az none ls=(Ni p (x,y,z) && Az (Fc ls (k+1)) (ls.drop (k+1)))):=by rw [Hid,HST.o,h1];rfl
   clear h1 HST
   cases k with
   | zero =>
    have HN:Hid (Az none ls=Az (Fc ls (0+1)) (ls.drop (0+1))):=by
     have hp0:p=none:=by rw [← HP.o];rfl
     rw [Hid,HST2.o,hp0];rfl
    clear HST2 HP
    refine B6 (by kernel_rfl) (by kernel_rfl) ?_
    repeat (go_big_quiet_step (exact F8 (Kt H1.o HWK.o _)))
    refine wpQuiet_nil ?_;rintro _ ⟨⟨u1,q1⟩,hu1⟩;subst hu1;go_wp2
    go_roundw
    case rel=>exact ⟨1,by omega,by go_num,HN.o,HBV.o.trans (q1.mono hVw)⟩
    case measure=>simp [intOf];omega
   | succ k =>
    have hpe:p=some (Cg ls k):=by rw [← HP.o];simp [Fc]
    obtain ⟨b',off',hao,hb',e1,e2,e3⟩:=HLV.o.at (k:=k) (by omega)
    obtain ⟨rfl,rfl⟩:b=b'∧off=off':=by simpa using hao
    obtain ⟨⟨x',y',z'⟩,hx'⟩:∃ x,Cg ls k=x:=⟨_,rfl⟩;rw [hx'] at e1 e2 e3 hpe
    simp only at e1 e2 e3
    subst hpe;have HLT:Hid (Az none ls=(E3 (x',y',z') (x,y,z) && Az (Fc ls (k+1+1)) (ls.drop (k+1+1)))):=HST2.o
    have hk1:((k+1:Nat):Int) - 1=(k:Int):=by omega
    have hk2:(0:Int)<((k+1:Nat):Int):=by omega
    have hkl:(k:Int)<(ls.length:Int):=by omega
    have g4:=As e1;have g5:=As e2;have g6:=As e3
    have hkz:decide (0<k+1)=true:=by simp
    obtain ⟨v,hv⟩:∃ v,Qh (x',y',z') (x,y,z)=v:=⟨_,rfl⟩;have hiff:=cY (x',y',z') (x,y,z);rw [hv] at hiff;have HV:Hid _:=hv;have HIF:Hid _:=hiff;clear HST2 HP hx' hao HLV hv hiff
    by_cases h2:0≤v
    ·have hdn:decide (0≤v)=true:=by simpa using h2
     have HE:Hid (At ls=false):=by
      have:E3 (x',y',z') (x,y,z)=false:=by
       cases h:E3 (x',y',z') (x,y,z)
       ·rfl
       ·have:=HIF.o.2 h;omega
      unfold At
      rw [Hid,HLT.o,this];rfl
     clear HLT HIF
     refine B6 (by kernel_rfl) (by kernel_rfl) ?_
     repeat (go_big_quiet_step (first | exact F8 (Kt H1.o HWK.o _) | exact F8 (Pb HV.o _)))
     refine wpQuiet_nil ?_;rintro _ ⟨⟨u1,q1⟩,hu1⟩;subst hu1;go_wp2;go_ret;exact ⟨Aa HE.o.symm,HBW.o.trans ((HBV.o.trans (q1.mono hVw)).mono HBW.o.size)⟩
    ·have hdn:decide (0≤v)=false:=by simpa using h2
     have HN:Hid (Az none ls=Az (Fc ls (k+1+1)) (ls.drop (k+1+1))):=by
      rw [Hid,HLT.o,HIF.o.1 (by omega)];rfl
     clear HLT HIF
     refine B6 (by kernel_rfl) (by kernel_rfl) ?_
     repeat (go_big_quiet_step (first | exact F8 (Kt H1.o HWK.o _) | exact F8 (Pb HV.o _)))
     refine wpQuiet_nil ?_;rintro _ ⟨⟨u1,q1⟩,hu1⟩;subst hu1;go_wp2
     go_roundw
     case rel=>exact ⟨k+1+1,by omega,by go_num,HN.o,HBV.o.trans (q1.mono hVw)⟩
     case measure=>simp [intOf];omega
  ·have hke:k=ls.length:=by omega
   subst hke
   have hki:¬ (ls.length:Int)<(ls.length:Int):=by omega
   have hall:Az none ls=true:=by rw [HOK.o,Pf]
   have HE:Hid (At ls=mW ls):=nU hall hl4
   have HBD:Hid (∀ x ∈ ls,-1000000000000≤x.2.2∧x.2.2≤1000000000000):=fun x hx=>(Ig (Dv hall x hx)).2.2.1
   have l0:=(hbr.cell (p:=⟨w.heap.size,0,none⟩) hWs).trans HK.o;have q0:=next bW hbr;have HZR:Hid (Ai wr ao ls):=HZ.o.below hbr;clear HOK hall hbr bW;go_wp2_with fail
   refine (iW _ _ _ _ HZR.o hl4 HBD.o (fun x hx=>(HWF.o x hx).2.1)).mono ?_
   rintro e u1 ⟨rfl,b1⟩;have q1:=next q0 b1;obtain ⟨V,hV⟩:∃ V,mW ls=V:=⟨_,rfl⟩;rw [hV] at HE ⊢;clear b1 q0 hV;go_wp2;go_ret;exact ⟨Aa HE.o.symm,q1⟩
end Go.Proofs.YtomiclakhjncbaaGreatDoor
