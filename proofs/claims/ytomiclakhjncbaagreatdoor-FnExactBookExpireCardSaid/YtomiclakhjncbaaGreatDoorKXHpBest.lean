import Derived.Test.YtomiclakhjncbaaGreatDoorJX0a
import Derived.Test.YtomiclakhjncbaaGreatDoorKXHpDown
namespace Go.Proofs.YtomiclakhjncbaaGreatDoor
open Go.RowKit Go.Proofs.Tryz
set_option maxRecDepth 100000
set_option maxHeartbeats 12800000
theorem hZ {q:Option (Nat×Obj)} {w u:World} {H:List Cd} {g cap:Nat} (h:HP q w H (some ⟨g,0,none⟩) cap u) (hk:0<H.length) :
  Calls prog 401 #[.slice (some ⟨g,0,none⟩) H.length cap,.int .i64 0,.int .i64 0] u fun e u'=>e=.returned (.tuple #[])∧HP q w (Cu H 0 0) (some ⟨g,0,none⟩) cap u':=by
 obtain ⟨k0,k1⟩:=h.at hk;have f0:u.frozen? ⟨g,0,none⟩=false:=h.own.frozenAt _;have f1:u.frozen? ⟨g,1,none⟩=false:=h.own.frozenAt _
 have HR:Hid (HP q w (Cu H 0 0) (some ⟨g,0,none⟩) cap ((((u.setCell ⟨g,0,none⟩ (.int .i64 (Bc H 0).1)).setCell ⟨g,1,none⟩ (.int .i64 (Bc H 0).2)).setCell ⟨g,0,none⟩ (.int .i64 (Bc H 0).1)).setCell ⟨g,1,none⟩ (.int .i64 (Bc H 0).2))) :=
  (h.setAt hk (Bc H 0)).setAt (by rw [List.length_set];exact hk) (Bc H 0)
 obtain ⟨⟨a,b⟩,hab⟩:∃ x,Bc H 0=x:=⟨_,rfl⟩;rw [hab] at HR k0 k1
 simp only [Nat.zero_mul,Nat.zero_add] at k0 k1 HR
 have hk':(0:Int)<(H.length:Int):=by omega
 clear h hab
 go_enter func401,ntmps401
 go_region_with (fail)
 all_goals
  go_wp2;go_end0;exact ⟨rfl,HR.o.below (bR.drew)⟩
theorem gZ {w u:World} {H:List Cd} {ao:Option Addr} {cap:Nat} (h:HP none w H ao cap u) (hh:F1 H) (s p:Int) (hn:H.length≤900) :
  Calls prog 281 #[iC w,.iface 294 (.agg #[.int .i64 s,.int .i64 p])] u fun e u'=>e=.returned (.tuple #[])∧∃ g c G,HP none w G (some ⟨g,0,none⟩) c u'∧F1 G∧Fv (H++[(s,p)]) G:=by
 obtain ⟨L,hL⟩:∃ L,H++[(s,p)]=L:=⟨_,rfl⟩
 have HPM:Hid (Calls prog 403 #[.pointer (some ⟨w.heap.size,0,none⟩),.iface 294 (.agg #[.int .i64 s,.int .i64 p])] u fun e u'=>e=.returned (.tuple #[])∧∃ g c,HP none w L (some ⟨g,0,none⟩) c u'):=by rw [← hL];exact eV h s p (by omega)
 have HN:Hid (Qr (H++[(s,p)]) H.length):=eK hh (s,p);have hmp:=mQ (.pointer (some ⟨w.heap.size,0,none⟩)) u
 have hl:(L.length:Int) - 1=(H.length:Int):=by rw [← hL];simp
 have HLT:Hid (H.length<L.length∧L.length≤1000):=by rw [Hid,← hL];simp;omega
 have hLn:L.length≤1000:=HLT.o.2;rw [hL] at HN ⊢;clear h hh hL;unfold iC
 go_enter func281,ntmps281
 go_wp2_with fail
 refine Calls.mono HPM.o ?_;rintro e u2 ⟨rfl,g,c,hp2⟩;have HP2:Hid (HP none w L (some ⟨g,0,none⟩) c u2):=hp2;have hml:=bC hp2.box;clear hp2 hmp;go_wp2_with fail
 refine (Mv _ _ _ _).mono ?_;rintro e u3 ⟨rfl,hu3⟩;subst hu3;go_wp2_with fail
 refine (qI HP2.o H.length HLT.o.1 HLT.o.2 HN.o).mono ?_;rintro e u4 ⟨rfl,G,hp4,hG,hS⟩;have HP4:Hid (HP none w G (some ⟨g,0,none⟩) c u4):=hp4;have HG:Hid _:=hG;have HS:Hid _:=hS;clear hp4 hG hS hml;go_wp2;go_end0;exact ⟨rfl,g,c,G,HP4.o,HG.o,HS.o⟩
theorem iF {q:Option (Nat×Obj)} {w u:World} {H:List Cd} {g cap:Nat} (h:HP q w H (some ⟨g,0,none⟩) cap u) (m:Nat) (hm:H.length=m+1) (hn:H.length≤900) :
  Calls prog 283 #[iC w] u fun e u'=>e=.returned (.iface 294 (.agg #[.int .i64 (Bc H 0).1,.int .i64 (Bc H 0).2]))∧BW w u'∧∀ x o,q=some (x,o)→u'.heap[x]?=some o:=by
 have HH:Hid (HP q w H (some ⟨g,0,none⟩) cap u):=h;have hml:=bC h.box;have hms:=Iv h.box
 have HSW:Hid (Calls prog 401 #[.slice (some ⟨g,0,none⟩) H.length cap,.int .i64 0,.int .i64 m] u fun e u'=>e=.returned (.tuple #[])∧HP q w (Cu H 0 m) (some ⟨g,0,none⟩) cap u'):=by
  by_cases h0:m=0
  ·subst h0
   exact hZ h (by omega)
  ·exact Ke h 0 m (by omega) (by omega)
 have HSL:Hid ((Cu H 0 m).length=m+1∧Bc (Cu H 0 m) m=Bc H 0):=⟨by rw [Hc];exact hm,by rw [Fi (by omega) (by omega),La]⟩
 have hl:(H.length:Int) - 1=(m:Int):=by omega
 have HMB:Hid (m+1≤900):=by rw [Hid];omega
 obtain ⟨⟨a,b⟩,hab⟩:∃ x,Bc H 0=x:=⟨_,rfl⟩;rw [hab] at HSL ⊢
 simp only
 clear h hm hab;unfold iC
 go_enter func283,ntmps283
 go_wp2_with fail
 refine (Mv _ _ _ _).mono ?_;rintro e u3 ⟨rfl,hu3⟩;subst hu3;go_wp2_with fail
 refine Calls.mono HSW.o ?_;rintro e u4 ⟨rfl,hp4⟩;have HP4:Hid (HP q w (Cu H 0 m) (some ⟨g,0,none⟩) cap u4):=hp4;clear hp4 hml hms HSW;go_wp2_with fail
 refine (mJ HP4.o m HSL.o.1 (by have:=HSL.o.1;have:=HMB.o;omega)).mono ?_
 rintro e u5 ⟨⟨z,rfl⟩,G,hp5,hg5,hc5⟩;have HP5:Hid (HP q w G (some ⟨g,0,none⟩) cap u5):=hp5;have HG5:Hid (G.length=m+1∧Bc G m=(a,b)):=⟨hg5.trans HSL.o.1,hc5.trans HSL.o.2⟩;have hmp:=nV (.pointer (some ⟨w.heap.size,0,none⟩)) u5
 have HPO:Hid (Calls prog 402 #[.pointer (some ⟨w.heap.size,0,none⟩)] u5 fun e u'=>e=.returned (.iface 294 (.agg #[.int .i64 a,.int .i64 b]))∧BW w u'∧∀ x o,q=some (x,o)→u'.heap[x]?=some o):=by
  have:=kA HP5.o m HG5.o.1 (by have:=HG5.o.1;have:=HMB.o;omega)
  rw [HG5.o.2] at this;exact this
 clear hp5 hg5 hc5;go_wp2_with fail
 refine Calls.mono HPO.o ?_;rintro e u6 ⟨rfl,b6⟩;have HB6:Hid _:=b6;clear b6 hmp;go_wp2;go_ret;exact ⟨rfl,HB6.o⟩
theorem dN {w u:World} {H:List Cd} {ao:Option Addr} {cap:Nat} (h:HP none w H ao cap u) (hh:F1 H) (s p:Int) (hn:H.length≤900) :
  Calls prog 252 #[.pointer (some ⟨w.heap.size,0,none⟩),.int .i64 s,.int .i64 p] u fun e u'=>e=.returned (.tuple #[])∧∃ g c G,HP none w G (some ⟨g,0,none⟩) c u'∧F1 G∧Fv (H++[(s,p)]) G:=by
 have HPU:Hid (Calls prog 281 #[iC w,.iface 294 (.agg #[.int .i64 s,.int .i64 p])] u fun e u'=>e=.returned (.tuple #[])∧∃ g c G,HP none w G (some ⟨g,0,none⟩) c u'∧F1 G∧Fv (H++[(s,p)]) G):=gZ h hh s p hn
 unfold iC at HPU;clear h hh
 go_enter func252,ntmps252
 go_wp2_with fail
 refine Calls.mono HPU.o ?_;rintro e u4 ⟨rfl,hx⟩;have HX:Hid _:=hx;clear hx;go_wp2;go_end0;exact ⟨rfl,HX.o⟩
theorem HP.name {w u:World} {H:List Cd} {ao:Option Addr} {cap:Nat} (h:HP none w H ao cap u) (o:Obj):HP (some (u.heap.size,o)) w H ao cap (u.alloc o):=by
 have b:Below u.heap.size u (u.alloc o):=bR.alloc nL _;obtain ⟨h1,h2,h3,h4,_⟩:=h.below b
 refine ⟨h1,h2,h3,h4,fun x p e=>?_⟩
 injection e with e
 injection e with e1 e2
 subst e1 e2
 exact ⟨Array.getElem?_push_size,h.lt,fun y hy=>by have:=(h.own.lt y hy).2;omega⟩
theorem Vj {w u:World} {H:List Cd} {ao:Option Addr} {cap:Nat} (h:HP none w H ao cap u) (hn:H.length≤900) (h0:0<H.length) :
  Calls prog 253 #[.pointer (some ⟨w.heap.size,0,none⟩)] u fun e u'=>e=.returned (.tuple #[.agg #[.int .i64 (Bc H 0).1,.int .i64 (Bc H 0).2],.bool true])∧BW w u':=by
 obtain ⟨g,rfl,-,-⟩:=h.row h0
 obtain ⟨m,hm⟩:∃ m,H.length=m+1:=⟨H.length - 1,by omega⟩
 have hp:=h.name (.cells #[.int .i64 0,.int .i64 0] 294);have HU:Hid (w.heap.size<u.heap.size):=h.lt;obtain ⟨W,hW⟩:∃ W,u.alloc (.cells #[.int .i64 0,.int .i64 0] 294)=W:=⟨_,rfl⟩;rw [hW] at hp;have hbox:=hp.box
 have HPO:Hid (Calls prog 283 #[iC w] W fun e u'=>e=.returned (.iface 294 (.agg #[.int .i64 (Bc H 0).1,.int .i64 (Bc H 0).2]))∧BW w u'∧∀ x o,some (u.heap.size,Obj.cells #[.int .i64 0,.int .i64 0] 294)=some (x,o)→u'.heap[x]?=some o):=iF hp m hm hn
 unfold iC at HPO;have HW:Hid _:=hW
 have hne:((H.length:Int) == 0)=false:=beq_eq_false_iff_ne.2 (by omega)
 obtain ⟨⟨a,b⟩,hab⟩:∃ x,Bc H 0=x:=⟨_,rfl⟩;rw [hab] at HPO ⊢
 simp only at HPO ⊢
 have ta:=tH a b;clear hp h hW hab hm
 go_enter func253,ntmps253
 go_upto_region 1 with fail
 rw [HW.o];go_wp2_with fail
 refine (Mv _ _ _ _).mono ?_;rintro e u3 ⟨rfl,hu3⟩;subst hu3;go_wp2_with fail
 refine Calls.mono HPO.o ?_;rintro e u4 ⟨rfl,b4,hk4⟩;have hk:=hk4 _ _ rfl;have lk:u.heap.size<u4.heap.size:=(Array.getElem?_eq_some_iff.1 hk).1
 have c0:u4.cell? ⟨u.heap.size,0,none⟩=some (.int .i64 0):=by simp [World.cell?,hk]
 have c1:u4.cell? ⟨u.heap.size,1,none⟩=some (.int .i64 0):=by simp [World.cell?,hk]
 have z0:u4.frozen? ⟨u.heap.size,0,none⟩=false:=by simp [World.frozen?,hk]
 have z1:u4.frozen? ⟨u.heap.size,1,none⟩=false:=by simp [World.frozen?,hk]
 have HB4:Hid (BW w u4):=b4;clear b4 hk4 hk hbox;go_upto_region 4 with fail
 obtain ⟨V,hV⟩:∃ V,u4.alloc (.cells #[.int .i64 a,.int .i64 b] 294)=V:=⟨_,rfl⟩;have bV:BW u4 V:=hV ▸ bR.alloc nL _
 have d0:V.cell? ⟨u4.heap.size,0,none⟩=some (.int .i64 a):=by rw [← hV];simp
 have d1:V.cell? ⟨u4.heap.size,1,none⟩=some (.int .i64 b):=by rw [← hV];simp
 have e0:=(bV.cell (p:=⟨u.heap.size,0,none⟩) lk).trans c0;have e1:=(bV.cell (p:=⟨u.heap.size,1,none⟩) lk).trans c1;have e2:=(bV.frozen (p:=⟨u.heap.size,0,none⟩) lk).trans z0;have e3:=(bV.frozen (p:=⟨u.heap.size,1,none⟩) lk).trans z1;have HBV:Hid (BW w V):=HB4.o.trans (bV.mono HB4.o.size)
 have hnn:¬ u4.heap.size=u.heap.size:=by omega
 have hnn2:¬ u.heap.size=u4.heap.size:=by omega
 rw [hV];clear hV bV c0 c1 z0 z1;go_wp2
 refine bodyPost_ret (by simp [results,results253,go_sem,e0,e1];try rfl) rfl ?_
 exact ⟨rfl,(HBV.o.setCell (Nat.le_of_lt HU.o) _).setCell (Nat.le_of_lt HU.o) _⟩
theorem Zg {w u:World} {H:List Cd} {ao:Option Addr} {cap:Nat} (h:HP none w H ao cap u) (h0:H.length=0) :
  Calls prog 253 #[.pointer (some ⟨w.heap.size,0,none⟩)] u fun e u'=>e=.returned (.tuple #[.agg #[.int .i64 0,.int .i64 0],.bool false])∧BW w u':=by
 have hp:=h.name (.cells #[.int .i64 0,.int .i64 0] 294);have HU:Hid (w.heap.size<u.heap.size):=h.lt;obtain ⟨W,hW⟩:∃ W,u.alloc (.cells #[.int .i64 0,.int .i64 0] 294)=W:=⟨_,rfl⟩
 have c0:W.cell? ⟨u.heap.size,0,none⟩=some (.int .i64 0):=by rw [← hW];simp
 have c1:W.cell? ⟨u.heap.size,1,none⟩=some (.int .i64 0):=by rw [← hW];simp
 have z0:W.frozen? ⟨u.heap.size,0,none⟩=false:=by rw [← hW];simp [go_sem]
 have z1:W.frozen? ⟨u.heap.size,1,none⟩=false:=by rw [← hW];simp [go_sem]
 rw [hW] at hp;have hbox:=hp.box;rw [h0] at hbox;have HB:Hid (BW w W):=hp.bel;have HW:Hid _:=hW;clear hp h hW h0
 go_enter func253,ntmps253
 go_upto_region 1 with fail
 rw [HW.o];go_wp2_with fail
 refine (Mv _ _ _ _).mono ?_;rintro e u3 ⟨rfl,hu3⟩;subst hu3;go_wp2
 refine bodyPost_ret (by simp [results,results253,go_sem,c0,c1];try rfl) rfl ?_
 exact ⟨rfl,(HB.o.setCell (Nat.le_of_lt HU.o) _).setCell (Nat.le_of_lt HU.o) _⟩
end Go.Proofs.YtomiclakhjncbaaGreatDoor
