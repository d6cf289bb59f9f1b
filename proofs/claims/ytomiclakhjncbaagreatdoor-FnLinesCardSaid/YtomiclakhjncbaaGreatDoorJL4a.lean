import Derived.Test.YtomiclakhjncbaaGreatDoorJL0a
import Derived.Test.YtomiclakhjncbaaGreatDoorKLSAddL
import Derived.Deep.RegionLaw
import Derived.Deep.AppendLies
import Derived.Lib.AppendZeros
import Derived.Test.YtomiclakhjncbaaGreatDoorJL2a
import Derived.Test.YtomiclakhjncbaaGreatDoorJL1a
import Derived.Test.YtomiclakhjncbaaGreatDoorKLBkNumW
import Derived.Test.YtomiclakhjncbaaGreatDoorKLCStart
import Derived.Test.YtomiclakhjncbaaGreatDoorKLOff
import Derived.Deep.DeepCutAuto
import Derived.Deep.RegionHeld3
import Derived.Deep.RegionWith
import Derived.WalkKit
import Derived.Test.YtomiclakhjncbaaGreatDoorJL3a
namespace Go.Proofs.YtomiclakhjncbaaGreatDoor
open Go.RowKit Go.Proofs.Tryz
set_option maxRecDepth 100000
set_option maxHeartbeats 12800000
theorem Y5 {w:World} {a:Addr} {ls:List Ln} (h:Ai w (some a) ls):∀ j u,(Ag ls)[j]?=some u→w.cell? (a.add j)=some u:=by
 intro j u hj
 have hlt:j<ls.length*3:=by
  rw [← Cn];exact (List.getElem?_eq_some_iff.1 hj).1
 rcases h with rfl | ⟨b',off',hq,hb,hc⟩
 ·simp at hlt
 ·obtain rfl:a=⟨b',off',none⟩:=by simpa using hq
  have e:((⟨b',off',none⟩:Addr).add j)=⟨b',off'+j,none⟩:=by unfold Addr.add;split <;> simp_all
  have hk:=hc (j / 3) (by omega)
  have hf:=Hj ls (j / 3) (by omega)
  rw [e]
  rcases (show j % 3=0∨j % 3=1∨j % 3=2 by omega) with m | m | m
  ·have hj':j=j / 3*3:=by omega
   rw [hj',hf.1] at hj
   rw [hj',hk.1];exact hj
  ·have hj':j=j / 3*3+1:=by omega
   rw [hj',hf.2.1] at hj
   rw [hj',← Nat.add_assoc,hk.2.1];exact hj
  ·have hj':j=j / 3*3+2:=by omega
   rw [hj',hf.2.2] at hj
   rw [hj',← Nat.add_assoc,hk.2.2];exact hj
theorem Oa (w:World) (base:Nat) (ty:TypeId) (v:Value) (n:Nat) (cs:List Value) (hown:w.ownsRow base 113 3 v n cs) (ao:Option Addr) (c:Nat) (ls:List Ln) (hz:Ai w ao ls)
  (hn:n+ls.length≤4000000) (hbase:base≤w.heap.size) :
  ∃ v' w',(Builtin.append_ #[27,27] ty #[v,.slice ao ls.length c]).run prog w=.ok v' w'∧w'.ownsRow base 113 3 v' (n+ls.length) (cs++Ag ls)∧w.grownBy w' v.ownBlock:=by
 obtain ⟨i0,hi,hz0,hz1,hz2⟩:=info_parts bY
 cases ao with
 | none =>
  have hf:ls=[]:=by
   rcases hz with h | ⟨b,off,h,_⟩
   ·exact h
   ·cases h
  subst hf
  refine ⟨v,w,?_,by simpa [Ag] using hown,⟨rfl,rfl,rfl,nL,fun _ _ _=>rfl⟩⟩
  have hu:=underlying27
  rcases hown.2 with ⟨rfl,rfl⟩ | ⟨g,cap,cur,rfl,hbg,hg,hnc,hcm,hcs,htake⟩
  ·simp [Builtin.append_,run_underlying hu,sizeOf,typeInfo,hi,Builtin.lenOf,Builtin.firstCells]
  ·simp [Builtin.append_,run_underlying hu,sizeOf,typeInfo,hi,Builtin.lenOf,Builtin.firstCells,loadCells,hnc,storeCells]
 | some a =>
  obtain ⟨v',w',h1,h2,h3,_,_⟩:=run_append_own_at (P:=prog) w base 27 ty 113 i0 _ 3 24 underlying27 hi hz0 hz1 hz2 rfl (by decide) v n cs hown a ls.length c (Ag ls) (Cn ls) (Y5 hz) (Z5 ls) (by unfold maxLen;omega) (by omega) hbase
  exact ⟨v',w',h1,h2,h3⟩
theorem Gp {ops:Array Oper} {rest:List Oper} {o:Oper} {a:Act} {Q:Exit→Act→World→Prop} (w:World) (hgd:o.guard=none) (s x:Operand)
  (ho:o.op=.call { callee:=.builtin .append,args:=#[s,x],argTypes:=#[27,27] }) (base:Nat) (v:Value) (n:Nat) (cs:List Value) (hs:a.eval s=v) (hown:w.ownsRow base 113 3 v n cs)
  (ao:Option Addr) (c:Nat) (ls:List Ln) (hx:a.eval x=.slice ao ls.length c) (hz:Ai w ao ls) (hn:n+ls.length≤4000000) (hbase:base≤w.heap.size)
  (h:∀ v' w',w'.ownsRow base 113 3 v' (n+ls.length) (cs++Ag ls)→w.grownBy w' v.ownBlock→wpList prog ops Q rest (a.put o.dst v') w'):wpList prog ops Q (o::rest) a w:=by
 obtain ⟨v',w',hr,h1,h2⟩:=Oa w base o.type v n cs hown ao c ls hz hn hbase;exact Lib.wpList_append_run w hgd s x _ _ ho _ _ hs hx v' w' hr (h v' w' h1 h2)
def rG (w:World) (ls:List Ln) (e:Ending) (w':World):Prop :=
 ∃ ao cap,e=.returned (.agg #[.slice ao ls.length cap])∧w'.ownsRow w.heap.size 113 3 (.slice ao ls.length cap) ls.length (Ag ls)∧BW w w'
theorem Hh (ao:Option Addr) (cap:Nat) (ls:List Ln) (w:World) (hz:Ai w ao ls) (hn:ls.length≤1048577) :
  Calls prog 123 #[.agg #[.slice ao ls.length cap]] w (rG w ls):=by
 obtain ⟨W,hW⟩:∃ W,W=((w.alloc (.cells #[.slice ao ls.length cap] 29)).alloc (.cells #[.slice none 0 0] 29)).alloc (.cells #[] 113):=⟨_,rfl⟩
 have hWs:W.heap.size=w.heap.size+3:=by rw [hW];simp
 have bW:BW w W:=by rw [hW];go_grown
 have HOE:Hid (W.ownsRow (w.heap.size+2) 113 3 (.slice (some ⟨w.heap.size+1+1,0,none⟩) 0 0) 0 (Ag [])):=by
  have h:=World.ownsRow_lit (base:=w.heap.size+2) (e:=113) (size:=3) ((w.alloc (.cells #[.slice ao ls.length cap] 29)).alloc (.cells #[.slice none 0 0] 29)) #[] 0 (by simp) (by unfold maxLen;omega) rfl
  rw [Hid,hW];simpa [Ag] using h
 have HZ:Hid (Ai W ao ls):=hz.below bW
 have c1:W.cell? ⟨w.heap.size+1,0,none⟩=some (.slice none 0 0):=by rw [hW];simp [go_sem]
 have c0:W.cell? ⟨w.heap.size,0,none⟩=some (.slice ao ls.length cap):=by rw [hW];simp [go_sem]
 have z1:W.frozen? ⟨w.heap.size+1,0,none⟩=false:=by rw [hW];simp [go_sem]
 have HWE:Hid _:=hW;have HWZ:Hid _:=hWs;clear hz
 go_enter func123,ntmps123
 have HSTEP:Hid (∀ v2 w2,w2.ownsRow (w.heap.size+2) 113 3 v2 (0+ls.length) (Ag []++Ag ls)→W.grownBy w2 (Value.slice (some ⟨w.heap.size+1+1,0,none⟩) 0 0).ownBlock→∃ a2 k2,v2=.slice a2 ls.length k2∧w2.ownsRow (w.heap.size+2) 113 3 (.slice a2 ls.length k2) ls.length (Ag ls) ∧
   w2.cell? ⟨w.heap.size+1,0,none⟩=some (.slice none 0 0)∧w2.frozen? ⟨w.heap.size+1,0,none⟩=false∧BW w w2):=by
  intro v2 w2 o2 g2
  rw [Nat.zero_add,show Ag []++Ag ls=Ag ls from rfl] at o2
  obtain ⟨a2,k2,hv2,-,-⟩:=Ef o2;subst hv2
  have hne:some (w.heap.size+1)≠(Value.slice (some ⟨w.heap.size+1+1,0,none⟩) 0 0).ownBlock:=by simp [Value.ownBlock]
  exact ⟨a2,k2,rfl,o2,(g2.cell_far ⟨w.heap.size+1,0,none⟩ (by show w.heap.size+1<W.heap.size;omega) hne).trans c1,(g2.frozen_far ⟨w.heap.size+1,0,none⟩ (by show w.heap.size+1<W.heap.size;omega) hne).trans z1,bW.grown g2 bW.size (fun j hj=>by
   have:w.heap.size+1+1=j:=by simpa [Value.ownBlock] using hj
   omega)⟩
 clear c1 z1
 go_wp2_with (at_builtin;rw [← HWE.o];refine Gp _ rfl (.tmp 3) (.tmp 5) rfl (w.heap.size+2) _ 0 _ rfl HOE.o ao cap ls rfl HZ.o (by omega) (by have:=HWZ.o;omega) ?_;intro v2 w2 o2 g2;obtain ⟨a2,k2,hv2,o3,d1,e1,b2⟩:=HSTEP.o v2 w2 o2 g2;subst hv2;have HO3:Hid (w2.ownsRow (w.heap.size+2) 113 3 (.slice a2 ls.length k2) ls.length (Ag ls)):=o3;have HB2:Hid (BW w w2):=b2;clear o2 g2 o3 b2)
 refine bodyPost_ret (by simp [results,results123,go_sem,d1];try rfl) rfl ?_
 refine ⟨a2,k2,rfl,?_,HB2.o.setCell (by show w.heap.size≤w.heap.size+1;omega) _⟩
 exact Bi (A5 HO3.o _ _ (fun g hg=>by have:=(HO3.o.lt g hg).1;simp only;omega)) (by omega)
theorem Hb {w:World} {base n sz:Nat} {t:TypeId} {v:Value} {xs:List Value} (h:w.ownsRow base t sz v n xs):∃ ao cap,v=.slice ao n cap:=by
 rcases h.2 with ⟨rfl,rfl⟩ | ⟨g,c,cur,rfl,_⟩
 ·exact ⟨none,0,rfl⟩
 ·exact ⟨_,c,rfl⟩
theorem Jz {u w2:World} {o:Obj} {g:Nat} (hg:g=u.heap.size) (h:(u.alloc o).grownBy w2 (some g)):BW u w2 :=
 (((Below.refl u.heap.size u).alloc nL o)).grown h (by simp) (fun k hk=>by cases hk;omega)
def Dt (a:Option Addr) (n:Nat):Prop:=∀ x,a=some x→x.block<n
def Cm (a:Option Addr) (n:Nat):Prop:=∀ x,a=some x→n≤x.block
theorem G8 {w:World} {base n cap sz m:Nat} {t:TypeId} {a:Option Addr} {xs:List Value} (h:w.ownsRow base t sz (.slice a n cap) n xs) (hm:w.heap.size≤m):Dt a m:=by
 intro x hx;subst hx
 have:=(h.lt x.block rfl).2
 omega
theorem Cw {w:World} {base n cap sz:Nat} {t:TypeId} {a:Option Addr} {xs:List Value} (h:w.ownsRow base t sz (.slice a n cap) n xs):Cm a base:=by
 intro x hx;subst hx;exact (h.lt x.block rfl).1
structure CpR (w:World) (b:Bk) (e:Ending) (w':World):Prop where
 res:∃ q base,e=.returned (C5 b q)∧Aq w' b q∧w'.ownsRow base 9 1 (.slice q.g b.log.length q.gc) b.log.length (Am b.log)∧w.heap.size≤base∧base≤w'.heap.size∧(Dt q.o base∧Dt q.a base∧Dt q.c base∧Dt q.l base)∧(Cm q.o w.heap.size∧Cm q.a w.heap.size∧Cm q.c w.heap.size∧Cm q.l w.heap.size∧Cm q.g w.heap.size)
 bel:BW w w'
theorem Oq (b:Bk) (p:Bp) (w:World) (hx:Aq w b p) (hn:D0 b) :
  Calls prog 71 #[C5 b p] w (CpR w b):=by
 have HX:Hid (∀ u,BW w u→Aq u b p):=fun u h=>hx.below h
 have HN:Hid (D0 b):=hn;clear hx hn;obtain ⟨td,fo,az,cs,ls,lg⟩:=b;obtain ⟨o,oc,a,ac,c,cc,l,lc,g,gc⟩:=p;unfold C5
 simp only
 obtain ⟨u0,hu0⟩:∃ u,u=(w.alloc (.cells #[.int .i64 td,.slice o fo.length oc,.slice a az.length ac,.slice c cs.length cc,.slice l ls.length lc,.slice g lg.length gc] 31)).alloc (.cells #[.int .i64 0,.slice none 0 0,.slice none 0 0,.slice none 0 0,.slice none 0 0,.slice none 0 0] 31):=⟨_,rfl⟩
 have HB0:Hid (BW w u0):=by rw [Hid,hu0];go_grown
 have HS0:Hid (w.heap.size+1+1≤u0.heap.size):=by rw [Hid,hu0];simp
 have HZ0:Hid (Z6 w.heap.size (.int .i64 td) (.slice o fo.length oc) (.slice a az.length ac) (.slice c cs.length cc) (.slice l ls.length lc) (.slice g lg.length gc) u0):=by
  rw [Hid,hu0];exact (Z6.new w (.int .i64 td) (.slice o fo.length oc) (.slice a az.length ac) (.slice c cs.length cc) (.slice l ls.length lc) (.slice g lg.length gc) 31).below (bR.alloc nL _)
 have HR0:Hid (Z6 (w.heap.size+1) (.int .i64 0) (.slice none 0 0) (.slice none 0 0) (.slice none 0 0) (.slice none 0 0) (.slice none 0 0) u0):=by
  have h:=Z6.new (w.alloc (.cells #[.int .i64 td,.slice o fo.length oc,.slice a az.length ac,.slice c cs.length cc,.slice l ls.length lc,.slice g lg.length gc] 31)) (.int .i64 0) (.slice none 0 0) (.slice none 0 0) (.slice none 0 0) (.slice none 0 0) (.slice none 0 0) 31
  rw [Hid,hu0];simpa using h
 have HU0:Hid _:=hu0;clear hu0
 go_enter func71,ntmps71
 go_upto_region 1 with fail
 rw [← HU0.o];clear HU0
 have n1:fo.length≤1048576:=by have:=HN.o.1;simpa using this
 have x1:=(HZ0.o.below (bR.alloc nL (.cells #[] 3))).c1
 have HE1:Hid ((u0.alloc (.cells #[] 3)).ownsRow (w.heap.size+1+1) 3 1 (.slice (some ⟨u0.heap.size,0,none⟩) 0 0) 0 []):=by
  have h:=World.ownsRow_lit (base:=w.heap.size+1+1) (e:=3) (size:=1) u0 #[] 0 HS0.o (by unfold maxLen;omega) rfl
  rw [Hid];simpa using h
 have HI1:Hid _:=(HX.o _ (HB0.o.alloc HB0.o.size (.cells #[] 3))).off
 simp only at HI1
 have HP1:Hid (∀ v2 w2,w2.ownsRow (w.heap.size+1+1) 3 1 v2 (0+fo.length) ([]++(fo.map (Value.int .i64)))→(u0.alloc (.cells #[] 3)).grownBy w2 (some u0.heap.size)→∃ a9 k9,v2=.slice a9 fo.length k9∧w2.ownsRow (w.heap.size+1+1) 3 1 (.slice a9 fo.length k9) fo.length (fo.map (Value.int .i64))∧Z6 w.heap.size (.int .i64 td) (.slice o fo.length oc) (.slice a az.length ac) (.slice c cs.length cc) (.slice l ls.length lc) (.slice g lg.length gc) w2∧BW u0 w2):=by
  intro v2 w2 o2 g2;rw [Nat.zero_add,List.nil_append] at o2;obtain ⟨a9,k9,hv⟩:=Hb o2;subst hv;have b2:=Jz rfl g2;exact ⟨a9,k9,rfl,o2,HZ0.o.below b2,b2⟩
 go_upto_region 2 with (at_builtin;refine Gf _ rfl (.tmp 3) (.tmp 5) rfl (w.heap.size+1+1) _ 0 [] rfl HE1.o o oc fo rfl HI1.o (by omega) (by have:=HS0.o;simp;omega) ?_;intro v2 w2 o2 g2;obtain ⟨b1,k1,hv2,r1,zz,bb⟩:=HP1.o v2 w2 o2 g2;subst hv2;have y1:=zz.c1;have f1:=zz.z1;have HRW1:Hid _:=r1;have HZW1:Hid _:=zz;have HBB1:Hid _:=bb;clear o2 g2 zz bb r1)
 clear HE1 HI1 HP1 x1;obtain ⟨u1,hu1⟩:∃ u,u=w2.setCell ⟨w.heap.size,1,none⟩ (.slice b1 fo.length k1):=⟨_,rfl⟩
 have HZ1:Hid (Z6 w.heap.size (.int .i64 td) (.slice b1 fo.length k1) (.slice a az.length ac) (.slice c cs.length cc) (.slice l ls.length lc) (.slice g lg.length gc) u1):=by rw [Hid,hu1];exact HZW1.o.set1 _
 have HR1:Hid (Z6 (w.heap.size+1) (.int .i64 0) (.slice none 0 0) (.slice none 0 0) (.slice none 0 0) (.slice none 0 0) (.slice none 0 0) u1):=by rw [Hid,hu1];exact (HR0.o.below HBB1.o).far (by omega)
 have HB1:Hid (BW w u1):=by rw [Hid,hu1];exact (next HB0.o HBB1.o).setCell nL _
 have HS1:Hid (w.heap.size+1+1≤u1.heap.size):=by rw [Hid,hu1];have:=HBB1.o.size;have:=HS0.o;simp;omega
 have HO1_1:Hid (u1.ownsRow (w.heap.size+1+1) 3 1 (.slice b1 fo.length k1) fo.length (fo.map (Value.int .i64))):=by rw [Hid,hu1];exact Ad (HRW1.o) (by omega)
 rw [← hu1];clear hu1 y1 f1 HZW1 HRW1 HBB1 HZ0 HR0 HB0 HS0 n1
 have n2:az.length≤1048576:=by have:=HN.o.2.1;simpa using this
 have x2:=(HZ1.o.below (bR.alloc nL (.cells #[] 107))).c2
 have HE2:Hid ((u1.alloc (.cells #[] 107)).ownsRow (w.heap.size+1+1) 107 6 (.slice (some ⟨u1.heap.size,0,none⟩) 0 0) 0 []):=by
  have h:=World.ownsRow_lit (base:=w.heap.size+1+1) (e:=107) (size:=6) u1 #[] 0 HS1.o (by unfold maxLen;omega) rfl
  rw [Hid];simpa using h
 have HI2:Hid _:=(HX.o _ (HB1.o.alloc HB1.o.size (.cells #[] 107))).az
 simp only at HI2
 have HP2:Hid (∀ v2 w2,w2.ownsRow (w.heap.size+1+1) 107 6 v2 (0+az.length) ([]++(Ah az))→(u1.alloc (.cells #[] 107)).grownBy w2 (some u1.heap.size)→∃ a9 k9,v2=.slice a9 az.length k9∧w2.ownsRow (w.heap.size+1+1) 107 6 (.slice a9 az.length k9) az.length (Ah az)∧Z6 w.heap.size (.int .i64 td) (.slice b1 fo.length k1) (.slice a az.length ac) (.slice c cs.length cc) (.slice l ls.length lc) (.slice g lg.length gc) w2∧BW u1 w2):=by
  intro v2 w2 o2 g2;rw [Nat.zero_add,List.nil_append] at o2;obtain ⟨a9,k9,hv⟩:=Hb o2;subst hv;have b2:=Jz rfl g2;exact ⟨a9,k9,rfl,o2,HZ1.o.below b2,b2⟩
 go_upto_region 3 with (at_builtin;refine Bu _ rfl (.tmp 8) (.tmp 10) rfl (w.heap.size+1+1) _ 0 [] rfl HE2.o a ac az rfl HI2.o (by omega) (by have:=HS1.o;simp;omega) ?_;intro v2 w2 o2 g2 _;obtain ⟨b2,k2,hv2,r2,zz,bb⟩:=HP2.o v2 w2 o2 g2;subst hv2;have y2:=zz.c2;have f2:=zz.z2;have HRW2:Hid _:=r2;have HZW2:Hid _:=zz;have HBB2:Hid _:=bb;clear o2 g2 zz bb r2)
 clear HE2 HI2 HP2 x2;obtain ⟨u2,hu2⟩:∃ u,u=w2.setCell ⟨w.heap.size,2,none⟩ (.slice b2 az.length k2):=⟨_,rfl⟩
 have HZ2:Hid (Z6 w.heap.size (.int .i64 td) (.slice b1 fo.length k1) (.slice b2 az.length k2) (.slice c cs.length cc) (.slice l ls.length lc) (.slice g lg.length gc) u2):=by rw [Hid,hu2];exact HZW2.o.set2 _
 have HR2:Hid (Z6 (w.heap.size+1) (.int .i64 0) (.slice none 0 0) (.slice none 0 0) (.slice none 0 0) (.slice none 0 0) (.slice none 0 0) u2):=by rw [Hid,hu2];exact (HR1.o.below HBB2.o).far (by omega)
 have HB2:Hid (BW w u2):=by rw [Hid,hu2];exact (next HB1.o HBB2.o).setCell nL _
 have HS2:Hid (w.heap.size+1+1≤u2.heap.size):=by rw [Hid,hu2];have:=HBB2.o.size;have:=HS1.o;simp;omega
 have HO1_2:Hid (u2.ownsRow (w.heap.size+1+1) 3 1 (.slice b1 fo.length k1) fo.length (fo.map (Value.int .i64))):=by rw [Hid,hu2];exact Ad (Av HO1_1.o HBB2.o) (by omega)
 have HO2_2:Hid (u2.ownsRow (w.heap.size+1+1) 107 6 (.slice b2 az.length k2) az.length (Ah az)):=by rw [Hid,hu2];exact Ad (HRW2.o) (by omega)
 rw [← hu2];clear hu2 y2 f2 HZW2 HRW2 HBB2 HZ1 HR1 HB1 HS1 n2 HO1_1
 have n3:cs.length≤1048576:=by have:=HN.o.2.2.1;simpa using this
 have x3:=(HZ2.o.below (bR.alloc nL (.cells #[] 61))).c3
 have HE3:Hid ((u2.alloc (.cells #[] 61)).ownsRow (w.heap.size+1+1) 61 12 (.slice (some ⟨u2.heap.size,0,none⟩) 0 0) 0 []):=by
  have h:=World.ownsRow_lit (base:=w.heap.size+1+1) (e:=61) (size:=12) u2 #[] 0 HS2.o (by unfold maxLen;omega) rfl
  rw [Hid];simpa using h
 have HI3:Hid _:=(HX.o _ (HB2.o.alloc HB2.o.size (.cells #[] 61))).cs
 simp only at HI3
 have HP3:Hid (∀ v2 w2,w2.ownsRow (w.heap.size+1+1) 61 12 v2 (0+cs.length) ([]++(Aj cs))→(u2.alloc (.cells #[] 61)).grownBy w2 (some u2.heap.size)→∃ a9 k9,v2=.slice a9 cs.length k9∧w2.ownsRow (w.heap.size+1+1) 61 12 (.slice a9 cs.length k9) cs.length (Aj cs)∧Z6 w.heap.size (.int .i64 td) (.slice b1 fo.length k1) (.slice b2 az.length k2) (.slice c cs.length cc) (.slice l ls.length lc) (.slice g lg.length gc) w2∧BW u2 w2):=by
  intro v2 w2 o2 g2;rw [Nat.zero_add,List.nil_append] at o2;obtain ⟨a9,k9,hv⟩:=Hb o2;subst hv;have b2:=Jz rfl g2;exact ⟨a9,k9,rfl,o2,HZ2.o.below b2,b2⟩
 go_upto_region 4 with (at_builtin;refine Eh _ rfl (.tmp 13) (.tmp 15) rfl (w.heap.size+1+1) _ 0 [] rfl HE3.o c cc cs rfl HI3.o (by omega) (by have:=HS2.o;simp;omega) ?_;intro v2 w2 o2 g2 _;obtain ⟨b3,k3,hv2,r3,zz,bb⟩:=HP3.o v2 w2 o2 g2;subst hv2;have y3:=zz.c3;have f3:=zz.z3;have HRW3:Hid _:=r3;have HZW3:Hid _:=zz;have HBB3:Hid _:=bb;clear o2 g2 zz bb r3)
 clear HE3 HI3 HP3 x3;obtain ⟨u3,hu3⟩:∃ u,u=w2.setCell ⟨w.heap.size,3,none⟩ (.slice b3 cs.length k3):=⟨_,rfl⟩
 have HZ3:Hid (Z6 w.heap.size (.int .i64 td) (.slice b1 fo.length k1) (.slice b2 az.length k2) (.slice b3 cs.length k3) (.slice l ls.length lc) (.slice g lg.length gc) u3):=by rw [Hid,hu3];exact HZW3.o.set3 _
 have HR3:Hid (Z6 (w.heap.size+1) (.int .i64 0) (.slice none 0 0) (.slice none 0 0) (.slice none 0 0) (.slice none 0 0) (.slice none 0 0) u3):=by rw [Hid,hu3];exact (HR2.o.below HBB3.o).far (by omega)
 have HB3:Hid (BW w u3):=by rw [Hid,hu3];exact (next HB2.o HBB3.o).setCell nL _
 have HS3:Hid (w.heap.size+1+1≤u3.heap.size):=by rw [Hid,hu3];have:=HBB3.o.size;have:=HS2.o;simp;omega
 have HO1_3:Hid (u3.ownsRow (w.heap.size+1+1) 3 1 (.slice b1 fo.length k1) fo.length (fo.map (Value.int .i64))):=by rw [Hid,hu3];exact Ad (Av HO1_2.o HBB3.o) (by omega)
 have HO2_3:Hid (u3.ownsRow (w.heap.size+1+1) 107 6 (.slice b2 az.length k2) az.length (Ah az)):=by rw [Hid,hu3];exact Ad (Av HO2_2.o HBB3.o) (by omega)
 have HO3_3:Hid (u3.ownsRow (w.heap.size+1+1) 61 12 (.slice b3 cs.length k3) cs.length (Aj cs)):=by rw [Hid,hu3];exact Ad (HRW3.o) (by omega)
 rw [← hu3];clear hu3 y3 f3 HZW3 HRW3 HBB3 HZ2 HR2 HB2 HS2 n3 HO1_2 HO2_2
 have n4:ls.length≤1048576:=by have:=HN.o.2.2.2.1;simpa using this
 have x4:=HZ3.o.c4;have zf4:=HZ3.o.z4;go_wp2_with fail
 refine (Hh _ _ ls _ (HX.o _ HB3.o).ls (by omega)).mono ?_
 rintro e w2 ⟨b4,k4,rfl,o4,bb⟩;have HRW4:Hid (w2.ownsRow (w.heap.size+1+1) 113 3 (.slice b4 ls.length k4) ls.length (Ag ls)):=Bi o4 HS3.o;have HZW4:Hid (Z6 w.heap.size (.int .i64 td) (.slice b1 fo.length k1) (.slice b2 az.length k2) (.slice b3 cs.length k3) (.slice l ls.length lc) (.slice g lg.length gc) w2):=HZ3.o.below bb;have HBB4:Hid _:=bb;have y4:=HZW4.o.c4;have f4:=HZW4.o.z4;clear bb o4 x4 zf4;go_upto_region 5 with fail
 obtain ⟨u4,hu4⟩:∃ u,u=w2.setCell ⟨w.heap.size,4,none⟩ (.slice b4 ls.length k4):=⟨_,rfl⟩
 have HZ4:Hid (Z6 w.heap.size (.int .i64 td) (.slice b1 fo.length k1) (.slice b2 az.length k2) (.slice b3 cs.length k3) (.slice b4 ls.length k4) (.slice g lg.length gc) u4):=by rw [Hid,hu4];exact HZW4.o.set4 _
 have HR4:Hid (Z6 (w.heap.size+1) (.int .i64 0) (.slice none 0 0) (.slice none 0 0) (.slice none 0 0) (.slice none 0 0) (.slice none 0 0) u4):=by rw [Hid,hu4];exact (HR3.o.below HBB4.o).far (by omega)
 have HB4:Hid (BW w u4):=by rw [Hid,hu4];exact (next HB3.o HBB4.o).setCell nL _
 have HS4:Hid (w.heap.size+1+1≤u4.heap.size):=by rw [Hid,hu4];have:=HBB4.o.size;have:=HS3.o;simp;omega
 have HO1_4:Hid (u4.ownsRow (w.heap.size+1+1) 3 1 (.slice b1 fo.length k1) fo.length (fo.map (Value.int .i64))):=by rw [Hid,hu4];exact Ad (Av HO1_3.o HBB4.o) (by omega)
 have HO2_4:Hid (u4.ownsRow (w.heap.size+1+1) 107 6 (.slice b2 az.length k2) az.length (Ah az)):=by rw [Hid,hu4];exact Ad (Av HO2_3.o HBB4.o) (by omega)
 have HO3_4:Hid (u4.ownsRow (w.heap.size+1+1) 61 12 (.slice b3 cs.length k3) cs.length (Aj cs)):=by rw [Hid,hu4];exact Ad (Av HO3_3.o HBB4.o) (by omega)
 have HO4_4:Hid (u4.ownsRow (w.heap.size+1+1) 113 3 (.slice b4 ls.length k4) ls.length (Ag ls)):=by rw [Hid,hu4];exact Ad (HRW4.o) (by omega)
 rw [← hu4];clear hu4 y4 f4 HZW4 HRW4 HBB4 HZ3 HR3 HB3 HS3 n4 HO1_3 HO2_3 HO3_3
 have n5:lg.length≤1048576:=by have:=HN.o.2.2.2.2;simpa using this
 have x5:=(HZ4.o.below (bR.alloc nL (.cells #[] 9))).c5;obtain ⟨BS5,hBS⟩:∃ n,n=u4.heap.size:=⟨_,rfl⟩
 have HBS:Hid (w.heap.size+1+1≤BS5∧BS5≤u4.heap.size):=by rw [Hid,hBS];exact ⟨HS4.o,nL⟩
 have HAH:Hid (Dt b1 BS5∧Dt b2 BS5∧Dt b3 BS5∧Dt b4 BS5):=by
  rw [Hid,hBS];exact ⟨G8 HO1_4.o nL,G8 HO2_4.o nL,G8 HO3_4.o nL,G8 HO4_4.o nL⟩
 clear hBS
 have HE5:Hid ((u4.alloc (.cells #[] 9)).ownsRow BS5 9 1 (.slice (some ⟨u4.heap.size,0,none⟩) 0 0) 0 []):=by
  have h:=World.ownsRow_lit (base:=BS5) (e:=9) (size:=1) u4 #[] 0 HBS.o.2 (by unfold maxLen;omega) rfl
  rw [Hid];simpa using h
 have HI5:Hid _:=(HX.o _ (HB4.o.alloc HB4.o.size (.cells #[] 9))).log
 simp only at HI5
 have HP5:Hid (∀ v2 w2,w2.ownsRow BS5 9 1 v2 (0+lg.length) ([]++(Am lg))→(u4.alloc (.cells #[] 9)).grownBy w2 (some u4.heap.size)→∃ a9 k9,v2=.slice a9 lg.length k9∧w2.ownsRow BS5 9 1 (.slice a9 lg.length k9) lg.length (Am lg)∧Z6 w.heap.size (.int .i64 td) (.slice b1 fo.length k1) (.slice b2 az.length k2) (.slice b3 cs.length k3) (.slice b4 ls.length k4) (.slice g lg.length gc) w2∧BW u4 w2):=by
  intro v2 w2 o2 g2;rw [Nat.zero_add,List.nil_append] at o2;obtain ⟨a9,k9,hv⟩:=Hb o2;subst hv;have b2:=Jz rfl g2;exact ⟨a9,k9,rfl,o2,HZ4.o.below b2,b2⟩
 go_upto_region 6 with (at_builtin;refine Kh _ rfl (.tmp 22) (.tmp 24) rfl BS5 _ 0 [] rfl HE5.o g gc lg rfl HI5.o (by omega) (by have:=HBS.o;simp;omega) ?_;intro v2 w2 o2 g2;obtain ⟨b5,k5,hv2,r5,zz,bb⟩:=HP5.o v2 w2 o2 g2;subst hv2;have y5:=zz.c5;have f5:=zz.z5;have HRW5:Hid _:=r5;have HZW5:Hid _:=zz;have HBB5:Hid _:=bb;clear o2 g2 zz bb r5)
 clear HE5 HI5 HP5 x5;obtain ⟨u5,hu5⟩:∃ u,u=w2.setCell ⟨w.heap.size,5,none⟩ (.slice b5 lg.length k5):=⟨_,rfl⟩
 have HZ5:Hid (Z6 w.heap.size (.int .i64 td) (.slice b1 fo.length k1) (.slice b2 az.length k2) (.slice b3 cs.length k3) (.slice b4 ls.length k4) (.slice b5 lg.length k5) u5):=by rw [Hid,hu5];exact HZW5.o.set5 _
 have HR5:Hid (Z6 (w.heap.size+1) (.int .i64 0) (.slice none 0 0) (.slice none 0 0) (.slice none 0 0) (.slice none 0 0) (.slice none 0 0) u5):=by rw [Hid,hu5];exact (HR4.o.below HBB5.o).far (by omega)
 have HB5S:Hid (BS5≤u5.heap.size):=by rw [Hid,hu5];have:=HBB5.o.size;have:=HBS.o;simp;omega
 have HB5:Hid (BW w u5):=by rw [Hid,hu5];exact (next HB4.o HBB5.o).setCell nL _
 have HS5:Hid (w.heap.size+1+1≤u5.heap.size):=by rw [Hid,hu5];have:=HBB5.o.size;have:=HS4.o;simp;omega
 have HO1_5:Hid (u5.ownsRow (w.heap.size+1+1) 3 1 (.slice b1 fo.length k1) fo.length (fo.map (Value.int .i64))):=by rw [Hid,hu5];exact Ad (Av HO1_4.o HBB5.o) (by omega)
 have HO2_5:Hid (u5.ownsRow (w.heap.size+1+1) 107 6 (.slice b2 az.length k2) az.length (Ah az)):=by rw [Hid,hu5];exact Ad (Av HO2_4.o HBB5.o) (by omega)
 have HO3_5:Hid (u5.ownsRow (w.heap.size+1+1) 61 12 (.slice b3 cs.length k3) cs.length (Aj cs)):=by rw [Hid,hu5];exact Ad (Av HO3_4.o HBB5.o) (by omega)
 have HO4_5:Hid (u5.ownsRow (w.heap.size+1+1) 113 3 (.slice b4 ls.length k4) ls.length (Ag ls)):=by rw [Hid,hu5];exact Ad (Av HO4_4.o HBB5.o) (by omega)
 have HO5_5:Hid (u5.ownsRow BS5 9 1 (.slice b5 lg.length k5) lg.length (Am lg)):=by rw [Hid,hu5];exact Ad (HRW5.o) (by have:=HBS.o;omega)
 rw [← hu5];clear hu5 y5 f5 HZW5 HRW5 HBB5 HZ4 HR4 HB4 HS4 n5 HO1_4 HO2_4 HO3_4 HO4_4;have HBZ:Hid (BS5≤u5.heap.size):=HB5S.o;obtain ⟨t0,t1,t2,t3,t4,t5,-,-,-,-,-,-⟩:=HZ5.o;obtain ⟨q0,q1,q2,q3,q4,q5,p0,p1,p2,p3,p4,p5⟩:=HR5.o;go_wp2
 refine bodyPost_ret (by simp [results,results71,go_sem,q0,q1,q2,q3,q4,q5];try rfl) rfl ?_
 have bel:∀ (i:Nat) (x:Value) (u:World),BW w u→Below w.heap.size w (u.setCell ⟨w.heap.size+1,i,none⟩ x):=fun i x u h=>h.setCell (show w.heap.size≤w.heap.size+1 by omega) x
 have hbs:=HBS.o
 refine ⟨⟨⟨b1,k1,b2,k2,b3,k3,b4,k4,b5,k5⟩,BS5,rfl,⟨Hq (Ad (Ad (Ad (Ad (Ad (Ad (HO1_5.o) (by omega)) (by omega)) (by omega)) (by omega)) (by omega)) (by omega)),Fd (Ad (Ad (Ad (Ad (Ad (Ad (HO2_5.o) (by omega)) (by omega)) (by omega)) (by omega)) (by omega)) (by omega)),F2 (Ad (Ad (Ad (Ad (Ad (Ad (HO3_5.o) (by omega)) (by omega)) (by omega)) (by omega)) (by omega)) (by omega)),Df (Ad (Ad (Ad (Ad (Ad (Ad (HO4_5.o) (by omega)) (by omega)) (by omega)) (by omega)) (by omega)) (by omega)),Ep (Ad (Ad (Ad (Ad (Ad (Ad (HO5_5.o) (by omega)) (by omega)) (by omega)) (by omega)) (by omega)) (by omega))⟩,(Ad (Ad (Ad (Ad (Ad (Ad (HO5_5.o) (by omega)) (by omega)) (by omega)) (by omega)) (by omega)) (by omega)),by omega,by simpa using HBZ.o,HAH.o,⟨Cw (Bi HO1_5.o (show w.heap.size≤_ by omega)),Cw (Bi HO2_5.o (show w.heap.size≤_ by omega)),Cw (Bi HO3_5.o (show w.heap.size≤_ by omega)),Cw (Bi HO4_5.o (show w.heap.size≤_ by omega)),Cw (Bi HO5_5.o (show w.heap.size≤_ by omega))⟩⟩,bel _ _ _ (bel _ _ _ (bel _ _ _ (bel _ _ _ (bel _ _ _ (bel _ _ _ HB5.o)))))⟩
def Im (a:Option Addr) (B:Nat):Prop:=∀ x,a=some x→x.block≠B
theorem An (u:World) (B i:Nat) (x:Value):u.grownBy (u.setCell ⟨B,i,none⟩ x) (some B):=⟨rfl,rfl,rfl,by simp,fun j _ hj=>Below.heap_setCell _ _ _ _ (fun e=>hj (by rw [e]))⟩
theorem Mi {b off:Nat} {a:Option Addr} {row:Option Nat} (ha:a=some ⟨b,off,none⟩) (h:∀ B,row=some B→Im a B):some b≠row:=fun e=>h b e.symm _ ha rfl
theorem Aw.far {u u':World} {a:Option Addr} {zs:List Int} {row:Option Nat} (h:Aw u a zs) (g:u.grownBy u' row) (hne:∀ B,row=some B→Im a B):Aw u' a zs:=by
 rcases h with h | ⟨b,off,h1,h2,h3⟩
 ·exact .inl h
 ·exact .inr ⟨b,off,h1,Nat.lt_of_lt_of_le h2 g.size,fun i hi=>(g.cell_far ⟨b,off+i,none⟩ h2 (Mi h1 hne)).trans (h3 i hi)⟩
theorem Bh.far {u u':World} {a:Option Addr} {rs:Be} {row:Option Nat} (h:Bh u a rs) (g:u.grownBy u' row) (hne:∀ B,row=some B→Im a B):Bh u' a rs:=by
 rcases h with h | ⟨b,off,h1,h2,h3⟩
 ·exact .inl h
 ·exact .inr ⟨b,off,h1,Nat.lt_of_lt_of_le h2 g.size,fun i hi=>(g.cell_far ⟨b,off+i,none⟩ h2 (Mi h1 hne)).trans (h3 i hi)⟩
theorem Ar.far {u u':World} {a:Option Addr} {az:List Au} {row:Option Nat} (h:Ar u a az) (g:u.grownBy u' row) (hne:∀ B,row=some B→Im a B):Ar u' a az:=by
 rcases h with h | ⟨b,off,h1,h2,h3⟩
 ·exact .inl h
 ·have hs:=Mi h1 hne
  exact .inr ⟨b,off,h1,Nat.lt_of_lt_of_le h2 g.size,fun i hi=>⟨(g.cell_far ⟨b,off+i*6,none⟩ h2 hs).trans (h3 i hi).1,(g.cell_far ⟨b,off+i*6+1,none⟩ h2 hs).trans (h3 i hi).2.1,(g.cell_far ⟨b,off+i*6+2,none⟩ h2 hs).trans (h3 i hi).2.2.1,(g.cell_far ⟨b,off+i*6+3,none⟩ h2 hs).trans (h3 i hi).2.2.2.1,(g.cell_far ⟨b,off+i*6+4,none⟩ h2 hs).trans (h3 i hi).2.2.2.2.1,(g.cell_far ⟨b,off+i*6+5,none⟩ h2 hs).trans (h3 i hi).2.2.2.2.2⟩⟩
theorem A0.far {u u':World} {a:Option Addr} {cs:List Cs} {row:Option Nat} (h:A0 u a cs) (g:u.grownBy u' row) (hne:∀ B,row=some B→Im a B):A0 u' a cs:=by
 rcases h with h | ⟨b,off,h1,h2,h3⟩
 ·exact .inl h
 ·exact .inr ⟨b,off,h1,Nat.lt_of_lt_of_le h2 g.size,fun i hi=>(h3 i hi).grown g (Mi h1 hne)⟩
theorem Ai.far {u u':World} {a:Option Addr} {ls:List Ln} {row:Option Nat} (h:Ai u a ls) (g:u.grownBy u' row) (hne:∀ B,row=some B→Im a B):Ai u' a ls:=by
 rcases h with h | ⟨b,off,h1,h2,h3⟩
 ·exact .inl h
 ·have hs:=Mi h1 hne
  exact .inr ⟨b,off,h1,Nat.lt_of_lt_of_le h2 g.size,fun i hi=>⟨(g.cell_far ⟨b,off+i*3,none⟩ h2 hs).trans (h3 i hi).1,(g.cell_far ⟨b,off+i*3+1,none⟩ h2 hs).trans (h3 i hi).2.1,(g.cell_far ⟨b,off+i*3+2,none⟩ h2 hs).trans (h3 i hi).2.2⟩⟩
structure Wq (q:Bp) (B:Nat):Prop where
 o:Im q.o B
 a:Im q.a B
 c:Im q.c B
 l:Im q.l B
 g:Im q.g B
theorem Aq.set {u:World} {b:Bk} {q:Bp} {B i:Nat} {x:Value} (h:Aq u b q) (n:Wq q B):Aq (u.setCell ⟨B,i,none⟩ x) b q :=
 ⟨h.off.far (An u B i x) (fun B' e=>by cases e;exact n.o),h.az.far (An u B i x) (fun B' e=>by cases e;exact n.a),h.cs.far (An u B i x) (fun B' e=>by cases e;exact n.c),h.ls.far (An u B i x) (fun B' e=>by cases e;exact n.l),h.log.far (An u B i x) (fun B' e=>by cases e;exact n.g)⟩
theorem Aq.put6 {u:World} {b:Bk} {q:Bp} {B:Nat} (h:Aq u b q) (n:Wq q B) (x0 x1 x2 x3 x4 x5:Value) :
  Aq ((((((u.setCell ⟨B,0,none⟩ x0).setCell ⟨B,1,none⟩ x1).setCell ⟨B,2,none⟩ x2).setCell ⟨B,3,none⟩ x3).setCell ⟨B,4,none⟩ x4).setCell ⟨B,5,none⟩ x5) b q :=
 (((((h.set n).set n).set n).set n).set n).set n
theorem Bb {a:Option Addr} {n B:Nat} (h:Cm a n) (hB:B<n):Im a B:=fun x hx e=>by have:=h x hx;omega
theorem Td {a:Option Addr} {n B:Nat} (h:Dt a n) (hB:n≤B):Im a B:=fun x hx e=>by have:=h x hx;omega
structure Vb (p:Bp) (n:Nat):Prop where
 o:Dt p.o n
 a:Dt p.a n
 c:Dt p.c n
 l:Dt p.l n
 g:Dt p.g n
theorem Dt.mono {a:Option Addr} {n m:Nat} (h:Dt a n) (hm:n≤m):Dt a m:=fun x hx=>by have:=h x hx;omega
theorem Kf {a a1:Option Addr} {n m B:Nat} (h:a=a1∨Cm a m) (h1:Dt a1 n) (hb:n≤B) (hB:B<m):Im a B:=by
 rcases h with rfl | h
 ·exact Td h1 hb
 ·exact Bb h hB
theorem nX {p q:Bp} {n m B:Nat} (h:Vb p n) (hg:q.g=p.g) (hp:q.o=p.o∧(q.a=p.a∨Cm q.a m)∧(q.c=p.c∨Cm q.c m)∧(q.l=p.l∨Cm q.l m)) (hb:n≤B) (hB:B<m):Wq q B :=
 ⟨Kf (m:=m) (.inl hp.1) h.o hb hB,Kf hp.2.1 h.a hb hB,Kf hp.2.2.1 h.c hb hB,Kf hp.2.2.2 h.l hb hB,Kf (m:=m) (.inl hg) h.g hb hB⟩
theorem Z6.put6 {B:Nat} {v0 v1 v2 v3 v4 v5:Value} {u:World} (h:Z6 B v0 v1 v2 v3 v4 v5 u) (x0 x1 x2 x3 x4 x5:Value) :
  Z6 B x0 x1 x2 x3 x4 x5 ((((((u.setCell ⟨B,0,none⟩ x0).setCell ⟨B,1,none⟩ x1).setCell ⟨B,2,none⟩ x2).setCell ⟨B,3,none⟩ x3).setCell ⟨B,4,none⟩ x4).setCell ⟨B,5,none⟩ x5) :=
 (((((h.set0 x0).set1 x1).set2 x2).set3 x3).set4 x4).set5 x5
theorem Z6.far6 {B B':Nat} {v0 v1 v2 v3 v4 v5:Value} {u:World} (h:Z6 B v0 v1 v2 v3 v4 v5 u) (hne:B'≠B) (x0 x1 x2 x3 x4 x5:Value) :
  Z6 B v0 v1 v2 v3 v4 v5 ((((((u.setCell ⟨B',0,none⟩ x0).setCell ⟨B',1,none⟩ x1).setCell ⟨B',2,none⟩ x2).setCell ⟨B',3,none⟩ x3).setCell ⟨B',4,none⟩ x4).setCell ⟨B',5,none⟩ x5) :=
 (((((h.far hne).far hne).far hne).far hne).far hne).far hne
structure Ff where
 prune:List Au→Int→List Au
 use:List Au→Int→List Au
 useOk:List Au→Int→Bool
 add:List Au→Au→List Au
 addOk:List Au→Au→Bool
 best:List Au→Int→Int→Int→Int→Int→Prop
 stC:Int→Int→Int→Int→Int→Cs
 stE:Int→Int→Int→Int→Int→List En
 stOk:Int→Int→Int→Int→Int→Bool
 doC:Cs→Ac→Int→List Int→Cs
 doE:Cs→Ac→Int→List Int→List En
 doV:Cs→Ac→Int→List Int→Int
 all:List Ln→List En→List Ln
 allOk:List Ln→List En→Bool
structure Nc (F:Ff):Prop where
 prune:∀ (ao:Option Addr) (cap:Nat) (az:List Au) (t:Int) (w:World),Ar w ao az→az.length≤1048576→Calls prog 178 #[.slice ao az.length cap,.int .i64 t] w (pA w (F.prune az t))
 use:∀ (ao:Option Addr) (cap:Nat) (az:List Au) (i:Int) (w:World),Ar w ao az→az.length≤1048576→Calls prog 183 #[.slice ao az.length cap,.int .i64 i] w (Pi w (F.use az i) (F.useOk az i))
 add:∀ (ao:Option Addr) (cap:Nat) (az:List Au) (a:Au) (w:World),Ar w ao az→az.length≤1048576→a.ref.length≤1048576→Calls prog 143 #[.slice ao az.length cap,Fe a] w (Pi w (F.add az a) (F.addOk az a))
 best:∀ (ao:Option Addr) (cap:Nat) (az:List Au) (iss cur am day:Int) (w:World),Ar w ao az→az.length≤1048576→(∀ a ∈ az,a.ref.length≤1048576)→(Lit.int .i64 am).wf=true→(Lit.int .i64 day).wf=true →
  Calls prog 180 #[.slice ao az.length cap,.int .i64 iss,.int .i64 cur,.int .i64 am,.int .i64 day] w fun e w'=>∃ x,e=.returned (.int .i64 x)∧F.best az iss cur am day x∧BW w w'
 start:∀ (iss acq cur am day:Int) (w:World),Calls prog 181 #[.int .i64 iss,.int .i64 acq,.int .i64 cur,.int .i64 am,.int .i64 day] w fun e w'=>∃ ao cap,e=.returned (.tuple #[cv (F.stC iss acq cur am day),.slice ao (F.stE iss acq cur am day).length cap,.bool (F.stOk iss acq cur am day)])∧w'.ownsRow w.heap.size 269 4 (.slice ao (F.stE iss acq cur am day).length cap) (F.stE iss acq cur am day).length (Ba (F.stE iss acq cur am day))∧BW w w'
 small:∀ iss acq cur am day,(F.stE iss acq cur am day).length≤1048576
 act:∀ (c:Cs) (a:Ac) (t:Int) (ao:Option Addr) (cp:Nat) (zs:List Int) (w:World),Aw w ao zs→zs.length≤1048576→Calls prog 184 #[cv c,av a,.int .i64 t,.slice ao zs.length cp] w fun e w'=>∃ ao cap,e=.returned (.tuple #[cv (F.doC c a t zs),.slice ao (F.doE c a t zs).length cap,.int .i64 (F.doV c a t zs)])∧w'.ownsRow w.heap.size 269 4 (.slice ao (F.doE c a t zs).length cap) (F.doE c a t zs).length (Ba (F.doE c a t zs))∧BW w w'
 few:∀ c a t zs,(F.doE c a t zs).length≤1048576
 code:∀ c a t zs,0≤F.doV c a t zs∧F.doV c a t zs≤1000
 post:∀ (ao:Option Addr) (cap:Nat) (ls:List Ln) (eo:Option Addr) (ec:Nat) (es:List En) (w:World),Ai w ao ls→ls.length≤1048576→C8 w eo es→es.length≤1048576 →
  Calls prog 182 #[.agg #[.slice ao ls.length cap],.slice eo es.length ec] w fun e w'=>∃ ao cap,e=.returned (.tuple #[.agg #[.slice ao (F.all ls es).length cap],.bool (F.allOk ls es)])∧w'.ownsRow w.heap.size 113 3 (.slice ao (F.all ls es).length cap) (F.all ls es).length (Ag (F.all ls es))∧BW w w'
def U8 (w:World) (p:Bp) (b':Bk) (code:Int) (e:Ending) (w':World):Prop :=
 ∃ q,e=.returned (.tuple #[C5 b' q,.int .i64 code])∧Aq w' b' q∧q.g=p.g∧q.gc=p.gc∧(q.o=p.o∧(q.a=p.a∨Cm q.a w.heap.size)∧(q.c=p.c∨Cm q.c w.heap.size)∧(q.l=p.l∨Cm q.l w.heap.size))∧BW w w'
theorem Ax {w u:World} {R:Nat} (hR:w.heap.size≤R) (h:BW w u) (x0 x1 x2 x3 x4 x5:Value) :
  Below w.heap.size w ((((((u.setCell ⟨R,0,none⟩ x0).setCell ⟨R,1,none⟩ x1).setCell ⟨R,2,none⟩ x2).setCell ⟨R,3,none⟩ x3).setCell ⟨R,4,none⟩ x4).setCell ⟨R,5,none⟩ x5) :=
 (((((h.setCell (p:=⟨R,0,none⟩) hR _).setCell (p:=⟨R,1,none⟩) hR _).setCell (p:=⟨R,2,none⟩) hR _).setCell (p:=⟨R,3,none⟩) hR _).setCell (p:=⟨R,4,none⟩) hR _).setCell (p:=⟨R,5,none⟩) hR _
theorem Ea {u:World} {base n size R:Nat} {t:TypeId} {v:Value} {xs:List Value} (o:u.ownsRow base t size v n xs) (hB:R<base) (x0 x1 x2 x3 x4 x5:Value) :
  ((((((u.setCell ⟨R,0,none⟩ x0).setCell ⟨R,1,none⟩ x1).setCell ⟨R,2,none⟩ x2).setCell ⟨R,3,none⟩ x3).setCell ⟨R,4,none⟩ x4).setCell ⟨R,5,none⟩ x5).ownsRow base t size v n xs :=
 Ad (Ad (Ad (Ad (Ad (Ad o hB) hB) hB) hB) hB) hB
theorem N6 {u:World} {base n size X:Nat} {t:TypeId} {v:Value} {xs:List Value} (c:Cs) (o:u.ownsRow base t size v n xs) (hB:X<base):(Cz u X c).ownsRow base t size v n xs :=
 Ad (Ad (Ad (Ad (Ad (Ad (Ad (Ad (Ad (Ad (Ad (Ad o hB) hB) hB) hB) hB) hB) hB) hB) hB) hB) hB) hB
theorem Qf {u u2:World} {t:TypeId} (bb:Below (u.alloc (.cells #[.int .i64 0,.int .i64 0,.int .i64 0,.int .i64 0,.int .i64 0,.int .i64 0,.int .i64 0,.int .i64 0,.int .i64 0,.bool false,.int .i64 0,.int .i64 0] t)).drew.heap.size (u.alloc (.cells #[.int .i64 0,.int .i64 0,.int .i64 0,.int .i64 0,.int .i64 0,.int .i64 0,.int .i64 0,.int .i64 0,.int .i64 0,.bool false,.int .i64 0,.int .i64 0] t)).drew u2) :
  CB u.heap.size 0 ⟨0,0,0,0,0,0,0,0,0,false,0,0⟩ u2∧FZ u.heap.size 0 u2∧Below (u.heap.size+1) (u.alloc (.cells #[.int .i64 0,.int .i64 0,.int .i64 0,.int .i64 0,.int .i64 0,.int .i64 0,.int .i64 0,.int .i64 0,.int .i64 0,.bool false,.int .i64 0,.int .i64 0] t)) u2:=by
 have h1:=(CB.new u ⟨0,0,0,0,0,0,0,0,0,false,0,0⟩ t).below (bR.drew)
 have h2:=(FZ.new u #[.int .i64 0,.int .i64 0,.int .i64 0,.int .i64 0,.int .i64 0,.int .i64 0,.int .i64 0,.int .i64 0,.int .i64 0,.bool false,.int .i64 0,.int .i64 0] t).below (by simp) (bR.drew)
 refine ⟨h1.below bb,h2.below (by simp) bb,?_⟩
 exact ((Below.refl (u.heap.size+1) _).drew).trans (bb.mono (by simp))
def Fr (F:Ff) (b:Bk) (n:Int):Bk×Int:=if Dn n=true∧b.today<n then (⟨n,b.off,F.prune b.az n,b.cs,b.ls,b.log⟩,0) else (b,4)
theorem bH (F:Ff) (b:Bk) {n:Int} (h:Dn n=false):Fr F b n=(b,4):=if_neg (by rw [h];simp)
theorem cS (F:Ff) {b:Bk} {n:Int} (h:¬ b.today<n):Fr F b n=(b,4):=if_neg (fun e=>h e.2)
theorem cA (F:Ff) {b:Bk} {n:Int} (h:Dn n=true) (g:b.today<n):Fr F b n=(⟨n,b.off,F.prune b.az n,b.cs,b.ls,b.log⟩,0):=if_pos ⟨h,g⟩
def Gs (u:World) (g k:Nat) (D:Cs):World:=((((((((((((u.setCell ⟨g,k*12,none⟩ (.int .i64 D.iss)).setCell ⟨g,k*12+1,none⟩ (.int .i64 D.acq)).setCell ⟨g,k*12+2,none⟩ (.int .i64 D.cur)).setCell ⟨g,k*12+3,none⟩ (.int .i64 D.am)).setCell ⟨g,k*12+4,none⟩ (.int .i64 D.st)).setCell ⟨g,k*12+5,none⟩ (.int .i64 D.rsn)).setCell ⟨g,k*12+6,none⟩ (.int .i64 D.cl)).setCell ⟨g,k*12+7,none⟩ (.int .i64 D.bk)).setCell ⟨g,k*12+8,none⟩ (.int .i64 D.fee)).setCell ⟨g,k*12+9,none⟩ (.bool D.cop)).setCell ⟨g,k*12+10,none⟩ (.int .i64 D.sta)).setCell ⟨g,k*12+11,none⟩ (.int .i64 D.due))
theorem Pa {w u:World} {g n:Nat} (k:Nat) (D:Cs) (b:Below n w u) (hn:n≤g):Below n w (Gs u g k D) :=
 (((((((((((b.setCell hn _).setCell hn _).setCell hn _).setCell hn _).setCell hn _).setCell hn _).setCell hn _).setCell hn _).setCell hn _).setCell hn _).setCell hn _).setCell hn _
theorem Od {u:World} {base g cap:Nat} {t:TypeId} {cs:List Cs} {k:Nat} (D:Cs) (hk:k<cs.length) (ho:u.ownsRow base t 12 (.slice (some ⟨g,0,none⟩) cs.length cap) cs.length (Aj cs)) :
  (Gs u g k D).ownsRow base t 12 (.slice (some ⟨g,0,none⟩) cs.length cap) cs.length (Aj (cs.set k D)):=by
 have R:=((((((((((((ho.stored (k*12) (.int .i64 D.iss)).1.stored (k*12+1) (.int .i64 D.acq)).1.stored (k*12+2) (.int .i64 D.cur)).1.stored (k*12+3) (.int .i64 D.am)).1.stored (k*12+4) (.int .i64 D.st)).1.stored (k*12+5) (.int .i64 D.rsn)).1.stored (k*12+6) (.int .i64 D.cl)).1.stored (k*12+7) (.int .i64 D.bk)).1.stored (k*12+8) (.int .i64 D.fee)).1.stored (k*12+9) (.bool D.cop)).1.stored (k*12+10) (.int .i64 D.sta)).1.stored (k*12+11) (.int .i64 D.due)).1;rw [Pc cs D k hk] at R;exact R
theorem Vg {u u':World} {a:Option Addr} {ls:List Ln} {B:Nat} (h:Ai u a ls) (ha:Dt a B) (hb:Below B u u'):Ai u' a ls:=by
 rcases h with h | ⟨b,off,rfl,h2,h3⟩
 ·exact .inl h
 ·have hl:b<B:=ha _ rfl
  exact .inr ⟨b,off,rfl,Nat.lt_of_lt_of_le h2 hb.size,fun i hi=>by
   obtain ⟨c1,c2,c3⟩:=h3 i hi;exact ⟨(hb.cell (p:=⟨b,_,none⟩) hl).trans c1,(hb.cell (p:=⟨b,_,none⟩) hl).trans c2,(hb.cell (p:=⟨b,_,none⟩) hl).trans c3⟩⟩
theorem Hf {u:World} {base n cap sz:Nat} {t:TypeId} {a:Option Addr} {xs:List Value} (h:u.ownsRow base t sz (.slice a n cap) n xs) (hn:0<n):∃ g,a=some ⟨g,0,none⟩∧base≤g∧g<u.heap.size:=by
 rcases h.2 with ⟨_,h0⟩ | ⟨g,c,cur,hv,hr⟩
 ·omega
 ·obtain ⟨rfl,rfl⟩:a=some ⟨g,0,none⟩∧cap=c:=by simpa using hv
  exact ⟨g,rfl,(h.lt g rfl).1,(h.lt g rfl).2⟩
theorem Rc {u:World} {a:Option Addr} {ls:List Ln} {R:Nat} (h:Ai u a ls) (n:Im a R) (x0 x1 x2 x3 x4 x5:Value) :
  Ai ((((((u.setCell ⟨R,0,none⟩ x0).setCell ⟨R,1,none⟩ x1).setCell ⟨R,2,none⟩ x2).setCell ⟨R,3,none⟩ x3).setCell ⟨R,4,none⟩ x4).setCell ⟨R,5,none⟩ x5) a ls:=by
 have s:∀ (v:World) (i:Nat) (x:Value),Ai v a ls→Ai (v.setCell ⟨R,i,none⟩ x) a ls:=fun v i x hv=>hv.far (An _ _ _ _) (fun Q hQ=>by cases hQ;exact n)
 exact s _ _ _ (s _ _ _ (s _ _ _ (s _ _ _ (s _ _ _ (s _ _ _ h)))))
theorem sC {D:Cs} : cv D=.agg #[.int .i64 D.iss,.int .i64 D.acq,.int .i64 D.cur,.int .i64 D.am,.int .i64 D.st,.int .i64 D.rsn,.int .i64 D.cl,.int .i64 D.bk,.int .i64 D.fee,.bool D.cop,.int .i64 D.sta,.int .i64 D.due]:=rfl
def Ja (F:Ff) (b:Bk) (i:Int) (x:Ac):Bk×Int :=
 if ¬ (0≤i∧i≤(b.cs.length:Int) - 1) then (b,5)
 else if F.doV (A8 b.cs i.toNat) x b.today b.off≠0 then (b,10+F.doV (A8 b.cs i.toNat) x b.today b.off)
 else if F.allOk b.ls (F.doE (A8 b.cs i.toNat) x b.today b.off)=false then (b,6)
 else (⟨b.today,b.off,b.az,b.cs.set i.toNat (F.doC (A8 b.cs i.toNat) x b.today b.off),F.all b.ls (F.doE (A8 b.cs i.toNat) x b.today b.off),b.log⟩,0)
theorem cE (F:Ff) {b:Bk} {i:Int} (x:Ac) (h:¬ (0≤i∧i≤(b.cs.length:Int) - 1)):Ja F b i x=(b,5):=if_pos h
theorem cD (F:Ff) {b:Bk} {i:Int} {x:Ac} (h:0≤i∧i≤(b.cs.length:Int) - 1) (g:F.doV (A8 b.cs i.toNat) x b.today b.off≠0):Ja F b i x=(b,10+F.doV (A8 b.cs i.toNat) x b.today b.off):=by
 rw [Ja,if_neg (fun e=>e h),if_pos g]
theorem dC (F:Ff) {b:Bk} {i:Int} {x:Ac} (h:0≤i∧i≤(b.cs.length:Int) - 1) (g:F.doV (A8 b.cs i.toNat) x b.today b.off=0) (k:F.allOk b.ls (F.doE (A8 b.cs i.toNat) x b.today b.off)=false):Ja F b i x=(b,6):=by
 rw [Ja,if_neg (fun e=>e h),if_neg (fun e=>e g),if_pos k]
theorem bE (F:Ff) {b:Bk} {i:Int} {x:Ac} (h:0≤i∧i≤(b.cs.length:Int) - 1) (g:F.doV (A8 b.cs i.toNat) x b.today b.off=0) (k:F.allOk b.ls (F.doE (A8 b.cs i.toNat) x b.today b.off)=true) :
  Ja F b i x=(⟨b.today,b.off,b.az,b.cs.set i.toNat (F.doC (A8 b.cs i.toNat) x b.today b.off),F.all b.ls (F.doE (A8 b.cs i.toNat) x b.today b.off),b.log⟩,0):=by
 rw [Ja,if_neg (fun e=>e h),if_neg (fun e=>e g),if_neg (by rw [k];decide)]
def Jk (F:Ff) (b:Bk) (n0 n1 n2 n3 x:Int):Bk×Int :=
 if x<0 then (b,3)
 else if 150≤b.cs.length then (b,2)
 else if F.stOk n0 n1 n2 n3 b.today=false then (b,5)
 else if F.allOk b.ls (F.stE n0 n1 n2 n3 b.today)=false then (b,6)
 else (⟨b.today,b.off,F.use b.az x,b.cs++[F.stC n0 n1 n2 n3 b.today],F.all b.ls (F.stE n0 n1 n2 n3 b.today),b.log⟩,0)
theorem cK (F:Ff) {b:Bk} {n0 n1 n2 n3 x:Int} (h:x<0):Jk F b n0 n1 n2 n3 x=(b,3):=if_pos h
theorem bQ (F:Ff) {b:Bk} {n0 n1 n2 n3 x:Int} (h:¬ x<0) (g:150≤b.cs.length):Jk F b n0 n1 n2 n3 x=(b,2):=by rw [Jk,if_neg h,if_pos g]
theorem cO (F:Ff) {b:Bk} {n0 n1 n2 n3 x:Int} (h:¬ x<0) (g:¬ 150≤b.cs.length) (k:F.stOk n0 n1 n2 n3 b.today=false):Jk F b n0 n1 n2 n3 x=(b,5):=by rw [Jk,if_neg h,if_neg g,if_pos k]
theorem cM (F:Ff) {b:Bk} {n0 n1 n2 n3 x:Int} (h:¬ x<0) (g:¬ 150≤b.cs.length) (k:F.stOk n0 n1 n2 n3 b.today=true) (m:F.allOk b.ls (F.stE n0 n1 n2 n3 b.today)=false):Jk F b n0 n1 n2 n3 x=(b,6):=by
 rw [Jk,if_neg h,if_neg g,if_neg (by rw [k];decide),if_pos m]
theorem bF (F:Ff) {b:Bk} {n0 n1 n2 n3 x:Int} (h:¬ x<0) (g:¬ 150≤b.cs.length) (k:F.stOk n0 n1 n2 n3 b.today=true) (m:F.allOk b.ls (F.stE n0 n1 n2 n3 b.today)=true) :
  Jk F b n0 n1 n2 n3 x=(⟨b.today,b.off,F.use b.az x,b.cs++[F.stC n0 n1 n2 n3 b.today],F.all b.ls (F.stE n0 n1 n2 n3 b.today),b.log⟩,0):=by
 rw [Jk,if_neg h,if_neg g,if_neg (by rw [k];decide),if_neg (by rw [m];decide)]
theorem Jq {w:World} {base n:Nat} {v:Value} {xs:List Value} (h:w.ownsRow base 61 12 v n xs) (hv:v≠.slice none 0 0):∃ g c,v=.slice (some ⟨g,0,none⟩) n c:=by
 rcases h.2 with ⟨h,_⟩ | ⟨g,c,cur,h,_⟩
 ·exact absurd h hv
 ·exact ⟨g,c,h⟩
theorem Cv {ops:Array Oper} {o:Oper} {a:Act} {w:World} {K:Act→World→Prop} {Q:Exit→Act→World→Prop} {E:Prop} (hgd:o.guard=none) (s x:Operand)
  (ho:o.op=.call { callee:=.builtin .append,args:=#[s,x],argTypes:=#[26,26] }) (base:Nat) (v:Value) (n:Nat) (xs:List Value) (hs:a.eval s=v) (hown:w.ownsRow base 61 12 v n xs)
  (ao:Option Addr) (c:Nat) (fs:List Cs) (hx:a.eval x=.slice ao fs.length c) (hz:A0 w ao fs) (hn:n+fs.length≤5000000) (hbase:base≤w.heap.size)
  (h:∀ v' w',w'.ownsRow base 61 12 v' (n+fs.length) (xs++Aj fs)→w.grownBy w' v.ownBlock→(v≠.slice none 0 0→v'≠.slice none 0 0)→K (a.put o.dst v') w') :
  if Region.wanted o (yielded ops a.tmps)=true then Oper.wp prog o a w K Q else E:=by
 have hw:Region.wanted o (yielded ops a.tmps)=true:=by simp [Region.wanted,hgd]
 rw [if_pos hw];obtain ⟨v',w',hr,h1,h2,h3⟩:=Ix w base o.type v n xs hown ao c fs hz hn hbase;unfold Oper.wp execOp
 simp only [ho,resolve,invoke,builtin,Sem.run_bind,Sem.run_pure,Result.andThen_ok,List.map_toArray,List.map_cons,List.map_nil,hs,hx,hr]
 exact h v' w' h1 h2 h3
theorem J3 {u:World} {g:Nat} {C:Cs} (h:CB g 0 C u):A0 u (some ⟨g,0,none⟩) [C] :=
 .inr ⟨g,0,rfl,h.lt,fun i hi=>by
  obtain rfl:i=0:=by simpa using hi
  simpa [A8] using h⟩
theorem qK (w:World) (C:Cs):((w.alloc (.cells #[.int .i64 C.iss,.int .i64 C.acq,.int .i64 C.cur,.int .i64 C.am,.int .i64 C.st,.int .i64 C.rsn,.int .i64 C.cl,.int .i64 C.bk,.int .i64 C.fee,.bool C.cop,.int .i64 C.sta,.int .i64 C.due] 61)).alloc (.cells #[] 61)).ownsRow w.heap.size 61 12 (.slice (some ⟨w.heap.size+1,0,none⟩) 0 0) 0 []:=by
 have h:=World.ownsRow_lit (base:=w.heap.size) (e:=61) (size:=12) (w.alloc (.cells #[.int .i64 C.iss,.int .i64 C.acq,.int .i64 C.cur,.int .i64 C.am,.int .i64 C.st,.int .i64 C.rsn,.int .i64 C.cl,.int .i64 C.bk,.int .i64 C.fee,.bool C.cop,.int .i64 C.sta,.int .i64 C.due] 61)) #[] 0 (by simp) (by unfold maxLen;omega) rfl
 simpa using h
theorem rF (w:World) (C:Cs):CB (w.heap.size+1) 0 C ((w.alloc (.cells #[] 61)).alloc (.cells #[.int .i64 C.iss,.int .i64 C.acq,.int .i64 C.cur,.int .i64 C.am,.int .i64 C.st,.int .i64 C.rsn,.int .i64 C.cl,.int .i64 C.bk,.int .i64 C.fee,.bool C.cop,.int .i64 C.sta,.int .i64 C.due] 61)):=by
 have h:=CB.new (w.alloc (.cells #[] 61)) C 61
 simpa using h
def Eo:List UInt8:=[100,97,121]
def Dy:List UInt8:=[97,117,116,104]
def I7:List UInt8:=[112,97,121]
def Nz:List UInt8:=[97,99,116]
def Ca (ws:Be):Bool:=decide (Al ws 0=Eo) && (decide (ws.length=2) && decide (0≤Ae (Al ws 1)))
def Bq (ws:Be):Bool:=decide (Al ws 0=Dy) && decide (ws.length=5)
def Da (ws:Be):Bool:=decide (Al ws 0=I7) && decide (ws.length=5)
def Fl (ws:Be):Bool:=decide (Al ws 0=Nz) && (decide (ws.length=5) && decide (0≤Bz (Al ws 2)))
def Fq (F:Ff) (b:Bk) (ref:List UInt8) (n0 n1 n2:Int):Bk×Int :=
 if F.addOk b.az ⟨ref,n0,n1,n2,b.today,false⟩=true then (⟨b.today,b.off,F.add b.az ⟨ref,n0,n1,n2,b.today,false⟩,b.cs,b.ls,b.log⟩,0) else (b,3)
def Db (F:Ff) (Pay:Bk→Int→Int→Int→Int→Bk×Int→Prop) (Act:Bk→Int→Ac→Bk×Int) (b:Bk) (line:List UInt8) (r:Bk×Int):Prop :=
 if Ca (Ab line)=true then r=Fr F b (Ae (Al (Ab line) 1))
 else if Bq (Ab line)=true then (if Ap ((Ab line).drop 2)=true then r=Fq F b (Al (Ab line) 1) (Ae (Al (Ab line) 2)) (Ae (Al (Ab line) 3)) (Ae (Al (Ab line) 4)) else r=(b,1))
 else if Da (Ab line)=true then (if Ap ((Ab line).drop 1)=true then Pay b (Ae (Al (Ab line) 1)) (Ae (Al (Ab line) 2)) (Ae (Al (Ab line) 3)) (Ae (Al (Ab line) 4)) r else r=(b,1))
 else if Fl (Ab line)=true then (if Ap [Al (Ab line) 1,Al (Ab line) 3,Al (Ab line) 4]=true then r=Act b (Ae (Al (Ab line) 1)) ⟨Bz (Al (Ab line) 2),Ae (Al (Ab line) 3),Ae (Al (Ab line) 4)⟩ else r=(b,1))
 else r=(b,1)
end Go.Proofs.YtomiclakhjncbaaGreatDoor
namespace Go.Proofs.YtomiclakhjncbaaGreatDoor.Kb
open Go.RowKit Go.Proofs.Tryz
set_option maxRecDepth 100000
set_option maxHeartbeats 12800000
structure Z8 (B:Nat) (v0 v1 v2 v3 v4 v5 v6 v7:Value) (u:World):Prop where
 c0:u.cell? ⟨B,0,none⟩=some v0
 c1:u.cell? ⟨B,1,none⟩=some v1
 c2:u.cell? ⟨B,2,none⟩=some v2
 c3:u.cell? ⟨B,3,none⟩=some v3
 c4:u.cell? ⟨B,4,none⟩=some v4
 c5:u.cell? ⟨B,5,none⟩=some v5
 c6:u.cell? ⟨B,6,none⟩=some v6
 c7:u.cell? ⟨B,7,none⟩=some v7
 z0:u.frozen? ⟨B,0,none⟩=false
 z1:u.frozen? ⟨B,1,none⟩=false
 z2:u.frozen? ⟨B,2,none⟩=false
 z3:u.frozen? ⟨B,3,none⟩=false
 z4:u.frozen? ⟨B,4,none⟩=false
 z5:u.frozen? ⟨B,5,none⟩=false
 z6:u.frozen? ⟨B,6,none⟩=false
 z7:u.frozen? ⟨B,7,none⟩=false
theorem Z8.lt {B:Nat} {v0 v1 v2 v3 v4 v5 v6 v7:Value} {u:World} (h:Z8 B v0 v1 v2 v3 v4 v5 v6 v7 u):B<u.heap.size:=World.block_lt_of_cell? u _ h.c0
theorem Z8.grown {B:Nat} {v0 v1 v2 v3 v4 v5 v6 v7:Value} {u u':World} (h:Z8 B v0 v1 v2 v3 v4 v5 v6 v7 u) {row:Option Nat} (g:u.grownBy u' row) (hr:some B≠row):Z8 B v0 v1 v2 v3 v4 v5 v6 v7 u':=by
 have l:=h.lt;obtain ⟨c0,c1,c2,c3,c4,c5,c6,c7,z0,z1,z2,z3,z4,z5,z6,z7⟩:=h;exact ⟨(g.cell_far ⟨B,0,none⟩ l hr).trans c0,(g.cell_far ⟨B,1,none⟩ l hr).trans c1,(g.cell_far ⟨B,2,none⟩ l hr).trans c2,(g.cell_far ⟨B,3,none⟩ l hr).trans c3,(g.cell_far ⟨B,4,none⟩ l hr).trans c4,(g.cell_far ⟨B,5,none⟩ l hr).trans c5,(g.cell_far ⟨B,6,none⟩ l hr).trans c6,(g.cell_far ⟨B,7,none⟩ l hr).trans c7,(g.frozen_far ⟨B,0,none⟩ l hr).trans z0,(g.frozen_far ⟨B,1,none⟩ l hr).trans z1,(g.frozen_far ⟨B,2,none⟩ l hr).trans z2,(g.frozen_far ⟨B,3,none⟩ l hr).trans z3,(g.frozen_far ⟨B,4,none⟩ l hr).trans z4,(g.frozen_far ⟨B,5,none⟩ l hr).trans z5,(g.frozen_far ⟨B,6,none⟩ l hr).trans z6,(g.frozen_far ⟨B,7,none⟩ l hr).trans z7⟩
theorem Z8.set0 {B:Nat} {v0 v1 v2 v3 v4 v5 v6 v7:Value} {u:World} (h:Z8 B v0 v1 v2 v3 v4 v5 v6 v7 u) (x:Value):Z8 B x v1 v2 v3 v4 v5 v6 v7 (u.setCell ⟨B,0,none⟩ x):=by
 obtain ⟨c0,c1,c2,c3,c4,c5,c6,c7,z0,z1,z2,z3,z4,z5,z6,z7⟩:=h
 constructor<;>simp [go_sem, *]
theorem Z8.set2 {B:Nat} {v0 v1 v2 v3 v4 v5 v6 v7:Value} {u:World} (h:Z8 B v0 v1 v2 v3 v4 v5 v6 v7 u) (x:Value):Z8 B v0 v1 x v3 v4 v5 v6 v7 (u.setCell ⟨B,2,none⟩ x):=by
 obtain ⟨c0,c1,c2,c3,c4,c5,c6,c7,z0,z1,z2,z3,z4,z5,z6,z7⟩:=h
 constructor<;>simp [go_sem, *]
theorem Z8.set3 {B:Nat} {v0 v1 v2 v3 v4 v5 v6 v7:Value} {u:World} (h:Z8 B v0 v1 v2 v3 v4 v5 v6 v7 u) (x:Value):Z8 B v0 v1 v2 x v4 v5 v6 v7 (u.setCell ⟨B,3,none⟩ x):=by
 obtain ⟨c0,c1,c2,c3,c4,c5,c6,c7,z0,z1,z2,z3,z4,z5,z6,z7⟩:=h
 constructor<;>simp [go_sem, *]
theorem Z8.set5 {B:Nat} {v0 v1 v2 v3 v4 v5 v6 v7:Value} {u:World} (h:Z8 B v0 v1 v2 v3 v4 v5 v6 v7 u) (x:Value):Z8 B v0 v1 v2 v3 v4 x v6 v7 (u.setCell ⟨B,5,none⟩ x):=by
 obtain ⟨c0,c1,c2,c3,c4,c5,c6,c7,z0,z1,z2,z3,z4,z5,z6,z7⟩:=h
 constructor<;>simp [go_sem, *]
theorem Z8.set6 {B:Nat} {v0 v1 v2 v3 v4 v5 v6 v7:Value} {u:World} (h:Z8 B v0 v1 v2 v3 v4 v5 v6 v7 u) (x:Value):Z8 B v0 v1 v2 v3 v4 v5 x v7 (u.setCell ⟨B,6,none⟩ x):=by
 obtain ⟨c0,c1,c2,c3,c4,c5,c6,c7,z0,z1,z2,z3,z4,z5,z6,z7⟩:=h
 constructor<;>simp [go_sem, *]
theorem Z8.set7 {B:Nat} {v0 v1 v2 v3 v4 v5 v6 v7:Value} {u:World} (h:Z8 B v0 v1 v2 v3 v4 v5 v6 v7 u) (x:Value):Z8 B v0 v1 v2 v3 v4 v5 v6 x (u.setCell ⟨B,7,none⟩ x):=by
 obtain ⟨c0,c1,c2,c3,c4,c5,c6,c7,z0,z1,z2,z3,z4,z5,z6,z7⟩:=h
 constructor<;>simp [go_sem, *]
theorem Z8.new (w:World) (v0 v1 v2 v3 v4 v5 v6 v7:Value) (ty:TypeId):Z8 w.heap.size v0 v1 v2 v3 v4 v5 v6 v7 (w.alloc (.cells #[v0,v1,v2,v3,v4,v5,v6,v7] ty)) :=
 ⟨by simp,by simp,by simp,by simp,by simp,by simp,by simp,by simp,by simp [go_sem],by simp [go_sem],by simp [go_sem],by simp [go_sem],by simp [go_sem],by simp [go_sem],by simp [go_sem],by simp [go_sem]⟩
theorem Pv {u:World} {base n size:Nat} {t:TypeId} {v:Value} {xs:List Value} (h:u.ownsRow base t size v n xs):∀ g,v.ownBlock=some g→∃ cur fz,u.heap[g]?=some (.cells cur t fz):=by
 intro g hg
 rcases h.2 with ⟨hv,_⟩ | ⟨g',cap,cur,hv,_,hh,_⟩
 ·rw [hv] at hg;cases hg
 ·rw [hv] at hg
  injection hg with hg
  subst hg;exact ⟨cur,(0,0),hh⟩
def El (u:World) (g:Nat) (t:TypeId):Prop:=∃ cur fz,u.heap[g]?=some (.cells cur t fz)
theorem Bj {u:World} {b1 n1 s1 b2 n2 s2:Nat} {t1 t2:TypeId} {v1 v2:Value} {x1 x2:List Value} (h1:u.ownsRow b1 t1 s1 v1 n1 x1) (h2:u.ownsRow b2 t2 s2 v2 n2 x2) (ht:t1≠t2):v1.ownBlock=none∨v1.ownBlock≠v2.ownBlock:=by
 cases hv:v1.ownBlock with
 | none=>exact .inl rfl
 | some g =>
  refine .inr fun e=>ht ?_
  obtain ⟨c1,f1,e1⟩:=Pv h1 g hv;obtain ⟨c2,f2,e2⟩:=Pv h2 g e.symm;rw [e1] at e2
  simp only [Option.some.injEq,Obj.cells.injEq] at e2
  exact e2.2.1
theorem dB {u:World} {b1 n1 s1 K:Nat} {t1 t2:TypeId} {v1:Value} {x1:List Value} (h1:u.ownsRow b1 t1 s1 v1 n1 x1) (h2:El u K t2) (ht:t1≠t2):v1.ownBlock=none∨v1.ownBlock≠some K:=by
 cases hv:v1.ownBlock with
 | none=>exact .inl rfl
 | some g =>
  refine .inr fun e=>ht ?_
  injection e with e
  subst e;obtain ⟨c1,f1,e1⟩:=Pv h1 g hv;obtain ⟨c2,f2,e2⟩:=h2;rw [e1] at e2
  simp only [Option.some.injEq,Obj.cells.injEq] at e2
  exact e2.2.1
theorem D8 {u:World} {b1 n1 s1 K:Nat} {t1 t2:TypeId} {v1:Value} {x1:List Value} (h1:u.ownsRow b1 t1 s1 v1 n1 x1) (h2:El u K t2) (ht:t1≠t2):some K≠v1.ownBlock:=by
 rcases dB h1 h2 ht with h | h
 ·rw [h];exact fun e=>by cases e
 ·exact fun e=>h e.symm
theorem El.grown {u u':World} {g:Nat} {t:TypeId} {row:Option Nat} (h:El u g t) (hg:u.grownBy u' row) (hr:some g≠row):El u' g t:=by
 obtain ⟨cur,fz,e⟩:=h
 have hl:g<u.heap.size:=by
  rcases Nat.lt_or_ge g u.heap.size with h | h
  ·exact h
  ·rw [Array.getElem?_eq_none h] at e;cases e
 exact ⟨cur,fz,(hg.block g hl hr).trans e⟩
theorem El.set {u:World} {g:Nat} {t:TypeId} (h:El u g t) (i:Nat) (x:Value):El (u.setCell ⟨g,i,none⟩ x) g t:=by
 obtain ⟨cur,fz,e⟩:=h;refine ⟨cur.setIfInBounds i x,fz,?_⟩;unfold World.setCell
 simp only [Array.getElem?_modify,if_true,e,Option.map_some]
 rfl
theorem Ez {u:World} {base base' n size:Nat} {t:TypeId} {v:Value} {xs:List Value} (h:u.ownsRow base t size v n xs) (hb:base'≤base):u.ownsRow base' t size v n xs :=
 ⟨h.1,h.2.imp id (fun ⟨g,cap,cur,hv,hg,r⟩=>⟨g,cap,cur,hv,Nat.le_trans hb hg,r⟩)⟩
def tF (o:Obj):Prop:=∃ cur t fz,o=.cells cur t fz∧(t=61∨t=9∨t=143)
structure Ce (B:Nat) (w w':World):Prop where
 b:Below B w w'
 i:∀ (k:Nat) (o:Obj),w.heap[k]?=some o→¬ tF o→w'.heap[k]?=some o
theorem Ed {w:World} {k:Nat} {o:Obj} (h:w.heap[k]?=some o):k<w.heap.size:=by
 rcases Nat.lt_or_ge k w.heap.size with h' | h'
 ·exact h'
 ·rw [Array.getElem?_eq_none h'] at h;cases h
theorem Ce.refl (B:Nat) (w:World):Ce B w w:=⟨bR,fun _ _ h _=>h⟩
theorem Ce.trans {B:Nat} {w u v:World} (h:Ce B w u) (g:Ce B u v):Ce B w v:=⟨h.b.trans g.b,fun k o e m=>g.i k o (h.i k o e m) m⟩
theorem Ce.of {B:Nat} {w u:World} (h:BW w u) (hB:B≤w.heap.size):Ce B w u:=⟨h.mono hB,fun k _ e _=>(h.block k (Ed e)).trans e⟩
theorem Ce.drew {B:Nat} {w u:World} (h:Ce B w u):Ce B w u.drew:=⟨h.b.drew,h.i⟩
theorem Ce.setK {B K i:Nat} {w u:World} {x:Value} (h:Ce B w u) (kt:El u K 143) (hK:B≤K):Ce B w (u.setCell ⟨K,i,none⟩ x) :=
 ⟨h.b.setCell hK _,fun k o e m=>by
  have e1:=h.i k o e m
  refine ((An u K i x).block k (Ed e1) (fun c=>m ?_)).trans e1
  injection c with c
  subst c;obtain ⟨cur,fz,e2⟩:=kt;rw [e1] at e2
  injection e2 with e2
  exact ⟨cur,_,fz,e2,.inr (.inr rfl)⟩⟩
theorem Ce.grownO {B n size:Nat} {w u u':World} {t:TypeId} {v:Value} {xs:List Value} (h:Ce B w u) (g:u.grownBy u' v.ownBlock) (o:u.ownsRow B t size v n xs) (hs:B≤u.heap.size) (ht:t=61∨t=9):Ce B w u' :=
 ⟨h.b.grown g hs (fun k hk=>(o.lt k hk).1),fun k x e m=>by
  have e1:=h.i k x e m
  refine (g.block k (Ed e1) (fun c=>m ?_)).trans e1
  obtain ⟨cur,fz,e2⟩:=Pv o k c.symm;rw [e1] at e2
  injection e2 with e2
  exact ⟨cur,_,fz,e2,ht.elim .inl (fun e=>.inr (.inl e))⟩⟩
structure KS (B K:Nat) (st:Int) (b:Bk) (q:Bp) (u:World):Prop where
 z:Z8 K (.int .i32 st) (.int .u32 0) (.slice q.l b.ls.length q.lc) (.int .i64 b.today) (.slice q.o b.off.length q.oc) (.slice q.a b.az.length q.ac) (.slice q.c b.cs.length q.cc) (.slice q.g b.log.length q.gc) u
 kt:El u K 143
 off:u.ownsRow B 3 1 (.slice q.o b.off.length q.oc) b.off.length (b.off.map (Value.int .i64))
 az:u.ownsRow B 107 6 (.slice q.a b.az.length q.ac) b.az.length (Ah b.az)
 cs:u.ownsRow B 61 12 (.slice q.c b.cs.length q.cc) b.cs.length (Aj b.cs)
 ls:u.ownsRow B 113 3 (.slice q.l b.ls.length q.lc) b.ls.length (Ag b.ls)
 log:u.ownsRow B 9 1 (.slice q.g b.log.length q.gc) b.log.length (Am b.log)
 hK:B≤K
theorem KS.at {B K:Nat} {st:Int} {b:Bk} {q:Bp} {u:World} (h:KS B K st b q u):Aq u b q:=⟨Hq h.off,Fd h.az,F2 h.cs,Df h.ls,Ep h.log⟩
theorem KS.far {B K:Nat} {st:Int} {b:Bk} {q:Bp} {u u':World} {row:Option Nat} (h:KS B K st b q u) (g:u.grownBy u' row) (hr:∀ x,row=some x→x<B):KS B K st b q u':=by
 have hK:=h.hK
 have ne:∀ {t:TypeId} {s n:Nat} {v:Value} {xs:List Value},u.ownsRow B t s v n xs→v.ownBlock=none∨v.ownBlock≠row:=fun o=>by
  rename_i t s n v xs
  cases hv:v.ownBlock with
  | none=>exact .inl rfl
  | some j =>
   refine .inr fun e=>?_
   have h1:=(o.lt j hv).1;have h2:=hr j e.symm
   omega
 have nK:some K≠row:=fun e=>by have:=hr K e.symm;omega
 exact ⟨h.z.grown g nK,h.kt.grown g nK,h.off.kept g (ne h.off),h.az.kept g (ne h.az),h.cs.kept g (ne h.cs),h.ls.kept g (ne h.ls),h.log.kept g (ne h.log),h.hK⟩
theorem KS.below {B K:Nat} {st:Int} {b:Bk} {q:Bp} {u u':World} (h:KS B K st b q u) (hb:BW u u'):KS B K st b q u' :=
 h.far (row:=none) ⟨hb.os,hb.tape,hb.output,hb.size,fun k hk _=>hb.block k hk⟩ (fun x hx=>by cases hx)
theorem KS.drew {B K:Nat} {st:Int} {b:Bk} {q:Bp} {u:World} (h:KS B K st b q u):KS B K st b q u.drew:=h.below (bR.drew)
theorem KS.al {B K:Nat} {st:Int} {b:Bk} {q:Bp} {u:World} (h:KS B K st b q u) (o:Obj):KS B K st b q (u.alloc o):=h.below (bR.alloc nL _)
theorem Em {u:World} {b1 n1 s1 K i:Nat} {t1 t2:TypeId} {v1 x:Value} {x1:List Value} (h1:u.ownsRow b1 t1 s1 v1 n1 x1) (h2:El u K t2) (ht:t1≠t2):(u.setCell ⟨K,i,none⟩ x).ownsRow b1 t1 s1 v1 n1 x1 :=
 h1.kept (An u K i x) (dB h1 h2 ht)
theorem KS.setSt {B K:Nat} {st:Int} {b:Bk} {q:Bp} {u:World} (h:KS B K st b q u) (s:Int):KS B K s b q (u.setCell ⟨K,0,none⟩ (.int .i32 s)) :=
 ⟨h.z.set0 _,h.kt.set _ _,Em h.off h.kt (by decide),Em h.az h.kt (by decide),Em h.cs h.kt (by decide),Em h.ls h.kt (by decide),Em h.log h.kt (by decide),h.hK⟩
theorem KS.setDay {B K:Nat} {st:Int} {b:Bk} {q:Bp} {u:World} (h:KS B K st b q u) (n:Int):KS B K st ⟨n,b.off,b.az,b.cs,b.ls,b.log⟩ q (u.setCell ⟨K,3,none⟩ (.int .i64 n)) :=
 ⟨h.z.set3 _,h.kt.set _ _,Em h.off h.kt (by decide),Em h.az h.kt (by decide),Em h.cs h.kt (by decide),Em h.ls h.kt (by decide),Em h.log h.kt (by decide),h.hK⟩
theorem KS.setA {B K:Nat} {st:Int} {b:Bk} {q:Bp} {u:World} (h:KS B K st b q u) {L:List Au} {a:Option Addr} {c m:Nat} (o:u.ownsRow m 107 6 (.slice a L.length c) L.length (Ah L)) (hm:B≤m) :
  KS B K st ⟨b.today,b.off,L,b.cs,b.ls,b.log⟩ ⟨q.o,q.oc,a,c,q.c,q.cc,q.l,q.lc,q.g,q.gc⟩ (u.setCell ⟨K,5,none⟩ (.slice a L.length c)) :=
 ⟨h.z.set5 _,h.kt.set _ _,Em h.off h.kt (by decide),Em (Ez o hm) h.kt (by decide),Em h.cs h.kt (by decide),Em h.ls h.kt (by decide),Em h.log h.kt (by decide),h.hK⟩
theorem KS.setL {B K:Nat} {st:Int} {b:Bk} {q:Bp} {u:World} (h:KS B K st b q u) {L:List Ln} {a:Option Addr} {c m:Nat} (o:u.ownsRow m 113 3 (.slice a L.length c) L.length (Ag L)) (hm:B≤m) :
  KS B K st ⟨b.today,b.off,b.az,b.cs,L,b.log⟩ ⟨q.o,q.oc,q.a,q.ac,q.c,q.cc,a,c,q.g,q.gc⟩ (u.setCell ⟨K,2,none⟩ (.slice a L.length c)) :=
 ⟨h.z.set2 _,h.kt.set _ _,Em h.off h.kt (by decide),Em h.az h.kt (by decide),Em h.cs h.kt (by decide),Em (Ez o hm) h.kt (by decide),Em h.log h.kt (by decide),h.hK⟩
theorem KS.setC {B K:Nat} {st:Int} {b:Bk} {q:Bp} {u u':World} (h:KS B K st b q u) (g:u.grownBy u' (Value.slice q.c b.cs.length q.cc).ownBlock) {L:List Cs} {a:Option Addr} {c:Nat} (o:u'.ownsRow B 61 12 (.slice a L.length c) L.length (Aj L)) :
  KS B K st ⟨b.today,b.off,b.az,L,b.ls,b.log⟩ ⟨q.o,q.oc,q.a,q.ac,a,c,q.l,q.lc,q.g,q.gc⟩ (u'.setCell ⟨K,6,none⟩ (.slice a L.length c)):=by
 have nK:=D8 h.cs h.kt (by decide)
 have kt:=h.kt.grown g nK
 exact ⟨(h.z.grown g nK).set6 _,kt.set _ _,Em (h.off.kept g (Bj h.off h.cs (by decide))) kt (by decide),Em (h.az.kept g (Bj h.az h.cs (by decide))) kt (by decide),Em o kt (by decide),Em (h.ls.kept g (Bj h.ls h.cs (by decide))) kt (by decide),Em (h.log.kept g (Bj h.log h.cs (by decide))) kt (by decide),h.hK⟩
theorem KS.setG {B K:Nat} {st:Int} {b:Bk} {q:Bp} {u u':World} (h:KS B K st b q u) (g:u.grownBy u' (Value.slice q.g b.log.length q.gc).ownBlock) {L:Be} {a:Option Addr} {c:Nat} (o:u'.ownsRow B 9 1 (.slice a L.length c) L.length (Am L)) :
  KS B K st ⟨b.today,b.off,b.az,b.cs,b.ls,L⟩ ⟨q.o,q.oc,q.a,q.ac,q.c,q.cc,q.l,q.lc,a,c⟩ (u'.setCell ⟨K,7,none⟩ (.slice a L.length c)):=by
 have nK:=D8 h.log h.kt (by decide)
 have kt:=h.kt.grown g nK
 exact ⟨(h.z.grown g nK).set7 _,kt.set _ _,Em (h.off.kept g (Bj h.off h.log (by decide))) kt (by decide),Em (h.az.kept g (Bj h.az h.log (by decide))) kt (by decide),Em (h.cs.kept g (Bj h.cs h.log (by decide))) kt (by decide),Em (h.ls.kept g (Bj h.ls h.log (by decide))) kt (by decide),Em o kt (by decide),h.hK⟩
def Rp (x:Int):Prop:=0≤x∧x<1000000000000000000
structure Rq (F:Ff) (E:World→Prop) (G:Nat):Prop where
 keep:∀ w w',E w→Below G w w'→E w'
 size:∀ w,E w→G≤w.heap.size
 num:∀ (l:List UInt8) (w:World),l.length≤1048576→Calls prog 275 #[.string ⟨l.toArray⟩] w fun e w'=>e=.returned (.int .i64 (Dr l))∧BW w w'
 dec:∀ (m:Nat) (w:World),m<1000000000000000000→E w→Calls prog 127 #[.int .i64 m] w fun e w'=>e=.returned (.string ⟨(Lib.decDigits m).toArray⟩)∧BW w w'
 clone:∀ (l:List UInt8) (w:World),l.length≤1048576→Calls prog 138 #[.string ⟨l.toArray⟩] w fun e w'=>e=.returned (.string ⟨l.toArray⟩)∧BW w w'
 split:∀ (l:List UInt8) (w:World),l.length≤1048576→E w→Calls prog 66 #[.string ⟨l.toArray⟩,.string ⟨#[32]⟩] w fun e w'=>∃ a,e=.returned (.slice a (Ab l).length (Ab l).length)∧Bh w' a (Ab l)∧BW w w'
 eFull:∀ w,E w→∃ t a,w.cell? ⟨1,0,none⟩=some (.iface t (.pointer (some a)))
 eLine:∀ w,E w→∃ t a,w.cell? ⟨3,0,none⟩=some (.iface t (.pointer (some a)))
 eDay:∀ w,E w→∃ t a,w.cell? ⟨4,0,none⟩=some (.iface t (.pointer (some a)))
 eAuth:∀ w,E w→∃ t a,w.cell? ⟨5,0,none⟩=some (.iface t (.pointer (some a)))
 eCases:∀ w,E w→∃ t a,w.cell? ⟨6,0,none⟩=some (.iface t (.pointer (some a)))
 eCase:∀ w,E w→∃ t a,w.cell? ⟨7,0,none⟩=some (.iface t (.pointer (some a)))
 eMoney:∀ w,E w→∃ t a,w.cell? ⟨8,0,none⟩=some (.iface t (.pointer (some a)))
 eAct:∀ w,E w→∃ t a,w.cell? ⟨9,0,none⟩=some (.iface t (.pointer (some a)))
 words:∀ w,E w→∀ k,k<10→w.cell? ⟨0,k,none⟩=some (.string ⟨(Al Dm k).toArray⟩)
 prune:∀ (ao:Option Addr) (cap:Nat) (az:List Au) (t:Int) (w:World),Ar w ao az→az.length≤1048576→(∀ a ∈ az,a.ref.length≤1048576)→Calls prog 207 #[.slice ao az.length cap,.int .i64 t] w (pA w (F.prune az t))
 use:∀ (ao:Option Addr) (cap:Nat) (az:List Au) (i:Int) (w:World),Ar w ao az→az.length≤1048576→(∀ a ∈ az,a.ref.length≤1048576)→Calls prog 212 #[.slice ao az.length cap,.int .i64 i] w (Pi w (F.use az i) (F.useOk az i))
 add:∀ (ao:Option Addr) (cap:Nat) (az:List Au) (a:Au) (w:World),Ar w ao az→az.length≤1048576→(∀ x ∈ az,x.ref.length≤1048576)→a.ref.length≤1048576→Rp a.cur→Calls prog 208 #[.slice ao az.length cap,Fe a] w (Pi w (F.add az a) (F.addOk az a))
 best:∀ (ao:Option Addr) (cap:Nat) (az:List Au) (iss cur am day:Int) (w:World),Ar w ao az→az.length≤1048576→(∀ a ∈ az,a.ref.length≤1048576)→(∀ a ∈ az,(Lit.int .i64 a.cur).wf=true)→(Lit.int .i64 am).wf=true→(Lit.int .i64 day).wf=true →
  Calls prog 209 #[.slice ao az.length cap,.int .i64 iss,.int .i64 cur,.int .i64 am,.int .i64 day] w fun e w'=>∃ x,e=.returned (.int .i64 x)∧F.best az iss cur am day x∧BW w w'
 start:∀ (iss acq cur am day:Int) (w:World),Rp cur→Calls prog 210 #[.int .i64 iss,.int .i64 acq,.int .i64 cur,.int .i64 am,.int .i64 day] w fun e w'=>∃ ao cap,e=.returned (.tuple #[cv (F.stC iss acq cur am day),.slice ao (F.stE iss acq cur am day).length cap,.bool (F.stOk iss acq cur am day)])∧w'.ownsRow w.heap.size 269 4 (.slice ao (F.stE iss acq cur am day).length cap) (F.stE iss acq cur am day).length (Ba (F.stE iss acq cur am day))∧BW w w'
 small:∀ iss acq cur am day,(F.stE iss acq cur am day).length≤1048576∧(Rp iss→Rp acq→Rp cur→Rp am→∀ x ∈ F.stE iss acq cur am day,Ma x)
 act:∀ (c:Cs) (a:Ac) (t:Int) (ao:Option Addr) (cp:Nat) (zs:List Int) (w:World),Aw w ao zs→zs.length≤1048576→E w→Qk c→Calls prog 214 #[cv c,av a,.int .i64 t,.slice ao zs.length cp] w fun e w'=>∃ ao cap,e=.returned (.tuple #[cv (F.doC c a t zs),.slice ao (F.doE c a t zs).length cap,.int .i64 (F.doV c a t zs)])∧w'.ownsRow w.heap.size 269 4 (.slice ao (F.doE c a t zs).length cap) (F.doE c a t zs).length (Ba (F.doE c a t zs))∧BW w w'
 few:∀ c a t zs,(F.doE c a t zs).length≤1048576∧(Qk c→Rp a.am→∀ x ∈ F.doE c a t zs,Ma x)
 low:∀ az i c a d x,F.best az i c a d x→-1≤x
 stay:∀ ls es,F.allOk ls es=false→F.all ls es=ls
 code:∀ c a t zs,0≤F.doV c a t zs∧F.doV c a t zs≤1000
 post:∀ (ao:Option Addr) (cap:Nat) (ls:List Ln) (eo:Option Addr) (ec:Nat) (es:List En) (w:World),Ai w ao ls→ls.length≤1048576→(∀ x ∈ ls,Hw x)→C8 w eo es→es.length≤1048576→(∀ x ∈ es,Ma x) →
  Calls prog 255 #[.agg #[.slice ao ls.length cap],.slice eo es.length ec] w fun e w'=>∃ ao cap,e=.returned (.tuple #[.agg #[.slice ao (F.all ls es).length cap],.bool (F.allOk ls es)])∧w'.ownsRow w.heap.size 113 3 (.slice ao (F.all ls es).length cap) (F.all ls es).length (Ag (F.all ls es))∧BW w w'
theorem Rq.grow {F:Ff} {E:World→Prop} {G:Nat} (K:Rq F E G) {w w':World} (h:E w) (hb:BW w w'):E w':=K.keep w w' h (hb.mono (K.size w h))
def Qv (s:List UInt8):Int:=if 0≤Ae s then Ae s else 0
theorem jJ {s:List UInt8} (h:Dr s<0):Ae s = -1:=by
 unfold Ae
 split
 ·rfl
 ·rw [if_pos (.inl h)]
theorem pB {s:List UInt8} (h:Lib.decDigits (Dr s).toNat≠s):Ae s = -1:=by
 unfold Ae
 split
 ·rfl
 ·rw [if_pos (.inr h)]
theorem qW (m:Nat):Lib.decDigits m≠[]:=by
 intro h;rw [Lib.decDigits] at h
 split at h <;> simp at h
theorem Oc {a b:Int} {p q:Bool} (h1:a=b) (h2:p=q):Ending.returned (.tuple #[.int .i64 a,.bool p])=.returned (.tuple #[.int .i64 b,.bool q]):=by rw [h1,h2]
theorem Xv {s:List UInt8} (h:Ae s = -1):Qv s=0∧decide (0≤Ae s)=false:=by
 unfold Qv;rw [h]
 exact ⟨by simp,by simp⟩
theorem dY {F:Ff} {E:World→Prop} {G:Nat} (K:Rq F E G) (s:List UInt8) (w:World) (hl:s.length≤1048576) (hE:E w) :
  Calls prog 246 #[.string ⟨s.toArray⟩] w fun e w'=>e=.returned (.tuple #[.int .i64 (Qv s),.bool (decide (0≤Ae s))])∧BW w w':=by
 have HN:Hid (∀ u,Calls prog 275 #[.string ⟨s.toArray⟩] u fun e w'=>e=.returned (.int .i64 (Dr s))∧BW u w'):=fun u=>K.num s u hl
 have hbd:=Qj s
 by_cases h2:Dr s<0
 ·obtain ⟨e1,e2⟩:=Xv (jJ h2)
  have HE:Hid (Qv s=0∧decide (0≤Ae s)=false):=⟨e1,e2⟩;obtain ⟨n,hn⟩:∃ n,Dr s=n:=⟨_,rfl⟩;rw [hn] at HN h2 hbd;clear hn e1 e2
  go_enter func246,ntmps246
  go_wp2_with (go_at_call 275;refine (HN.o _).mono ?_;rintro e w' ⟨rfl,b1⟩)
  go_ret2;exact ⟨Oc HE.o.1.symm HE.o.2.symm,b1⟩
 obtain ⟨m,hm⟩:=Int.eq_ofNat_of_zero_le (show 0≤Dr s by omega)
 have HD:Hid (∀ u,E u→Calls prog 127 #[.int .i64 (m:Int)] u fun e w'=>e=.returned (.string ⟨(Lib.decDigits m).toArray⟩)∧BW u w'):=fun u h=>K.dec m u (by omega) h
 have HG:Hid (∀ u,BW w u→E u):=fun u h=>K.grow hE h
 by_cases h1:15<s.length
 ·have h1':(15:Int)<(s.length:Int):=by omega
  obtain ⟨e1,e2⟩:=Xv (jY h1);have HE:Hid (Qv s=0∧decide (0≤Ae s)=false):=⟨e1,e2⟩;rw [hm] at HN h2 hbd
  have hmm:¬ (m:Int)<0:=by omega
  clear hm e1 e2 h1
  go_enter func246,ntmps246
  go_wp2_with (go_at_call 275;refine (HN.o _).mono ?_;rintro e w' ⟨rfl,b1⟩)
  go_ret2;exact ⟨Oc HE.o.1.symm HE.o.2.symm,b1⟩
 have h1':¬ (15:Int)<(s.length:Int):=by omega
 by_cases h3:Lib.decDigits m=s
 ·have h0:s≠[]:=fun e=>qW m (h3.trans e)
  have hW:Ae s=(m:Int):=by rw [kY h0 h1 h2 (by rw [hm];exact h3),hm]
  have HE:Hid (Qv s=(m:Int)∧decide (0≤Ae s)=true):=by
   unfold Qv;rw [hW]
   exact ⟨if_pos (by omega),decide_eq_true (by omega)⟩
  rw [hm] at HN h2 hbd;rw [h3] at HD
  have hmm:¬ (m:Int)<0:=by omega
  clear h1 h3 hW h0 hm
  go_enter func246,ntmps246
  go_wp2_with (first | (go_at_call 275;refine (HN.o _).mono ?_;rintro e w' ⟨rfl,b1⟩) | (go_at_call 127;refine (HD.o _ (HG.o _ b1)).mono ?_;rintro e w2 ⟨rfl,b2⟩))
  go_ret2;exact ⟨Oc HE.o.1.symm HE.o.2.symm,next b1 b2⟩
 ·obtain ⟨e1,e2⟩:=Xv (pB (s:=s) (by rw [hm];exact h3))
  have HE:Hid (Qv s=0∧decide (0≤Ae s)=false):=⟨e1,e2⟩;rw [hm] at HN h2 hbd;obtain ⟨D,hD⟩:∃ D,Lib.decDigits m=D:=⟨_,rfl⟩;rw [hD] at HD h3
  have hds:(D == s)=false:=by simpa using h3
  have hmm:¬ (m:Int)<0:=by omega
  clear h1 hD hm e1 e2
  go_enter func246,ntmps246
  go_wp2_with (first | (go_at_call 275;refine (HN.o _).mono ?_;rintro e w' ⟨rfl,b1⟩) | (go_at_call 127;refine (HD.o _ (HG.o _ b1)).mono ?_;rintro e w2 ⟨rfl,b2⟩))
  go_ret2;exact ⟨Oc HE.o.1.symm HE.o.2.symm,next b1 b2⟩
theorem Ks {F:Ff} {E:World→Prop} {G:Nat} (K:Rq F E G) (ao:Option Addr) (cap:Nat) (rs:Be) (w:World) (hz:Bh w ao rs) (hn:rs.length≤1048576) (hd:∀ r ∈ rs,r.length≤1048576) (hE:E w) :
  Calls prog 206 #[.slice ao rs.length cap] w fun e w'=>∃ a k,e=.returned (.tuple #[.slice a (A7 rs).length k,.bool (Ap rs)])∧w'.ownsRow w.heap.size 3 1 (.slice a (A7 rs).length k) (A7 rs).length ((A7 rs).map (Value.int .i64))∧BW w w':=by
 obtain ⟨i0,hi,hz0,hz1,hz2⟩:=info_parts mG;have HX:Hid (Bh w ao rs):=hz
 have HD:Hid (∀ k,k<rs.length→(Al rs k).length≤1048576):=fun k hk=>hd _ (F7 hk)
 have HG:Hid (∀ u,BW w u→E u):=fun u h=>K.grow hE h
 have HK:Hid (Rq F E G):=K;clear hz hd hE K
 go_enter func206,ntmps206
 go_wp2
 go_loopw [4,11] (fun s i wr=>∃ (v:Value) (k:Nat),v=s∧k≤rs.length∧i=.int .i64 (k:Int)∧(∀ j,j<k→0≤Ae (Al rs j))∧wr.ownsRow w.heap.size 3 1 v ((rs.take k).map Ae).length (((rs.take k).map Ae).map (Value.int .i64))∧BW w wr) (fun _ i _=>rs.length - (intOf i).toNat)
 case atStart=>exact ⟨_,0,rfl,Nat.zero_le _,rfl,fun j hj=>absurd hj (Nat.not_lt_zero _),World.ownsRow_nil _ _ _ _,bR⟩
 case round =>
  obtain ⟨v,k,hvs,hk,rfl,hall,hown,hbr⟩:=hrel;subst hvs;have HBR:Hid (BW w wr):=hbr;have HALL:Hid (∀ j,j<k→0≤Ae (Al rs j)):=hall;have HSZ:Hid (w.heap.size≤wr.heap.size):=hbr.size
  have HLT:Hid (∀ j,v.ownBlock=some j→w.heap.size≤j):=fun j hj=>(hown.lt j hj).1
  have hml:((rs.take k).map Ae).length≤1048576:=by simp;omega
  by_cases hlt:k<rs.length
  ·have hki:(k:Int)<(rs.length:Int):=by omega
   obtain ⟨gb,off,rfl,hgb,hcell⟩:∃ gb off,ao=some ⟨gb,off,none⟩∧gb<wr.heap.size∧wr.cell? ⟨gb,off+k,none⟩=some (.string ⟨(Al rs k).toArray⟩):=by
    rcases HX.o.below hbr with h | ⟨gb,off,h1,h2,h3⟩
    ·rw [h] at hlt;simp at hlt
    ·exact ⟨gb,off,h1,h2,h3 k hlt⟩
   have HNX:Hid _:=Tm rs k hlt;have hrl:=HD.o k hlt;have HNO:Hid _:=@S0 rs k hlt
   have HNM:Hid (∀ u,BW w u→Calls prog 246 #[.string ⟨(Al rs k).toArray⟩] u fun e w'=>e=.returned (.tuple #[.int .i64 (Qv (Al rs k)),.bool (decide (0≤Ae (Al rs k)))])∧BW u w'):=fun u h=>dY HK.o _ u hrl (HG.o u h)
   have HAL2:Hid (0≤Ae (Al rs k)→∀ j,j<k+1→0≤Ae (Al rs j)):=fun h j hj=>by
    rcases (show j<k∨j=k by omega) with hj | rfl
    ·exact HALL.o j hj
    ·exact h
   have HPN:Hid (0≤Ae (Al rs k)→Qv (Al rs k)=Ae (Al rs k)):=fun h=>if_pos h
   obtain ⟨L,hL⟩:∃ L,(rs.take k).map Ae=L:=⟨_,rfl⟩;rw [hL] at HNX hown hml;obtain ⟨y,hy⟩:∃ y,Qv (Al rs k)=y:=⟨_,rfl⟩;rw [hy] at HNM HPN;obtain ⟨x,hx⟩:∃ x,Ae (Al rs k)=x:=⟨_,rfl⟩;rw [hx] at HNX HNM HNO HAL2 HPN;obtain ⟨r,hr⟩:∃ r,Al rs k=r:=⟨_,rfl⟩;rw [hr] at hcell HNM hrl;have HO:Hid (wr.ownsRow w.heap.size 3 1 v L.length (L.map (Value.int .i64))):=hown;clear hL hx hr hy hown hbr hall
   by_cases hxn:x<0
   ·have HE:Hid (Ap rs=false):=HNO.o hxn
    have HE2:Hid (A7 rs=[]):=if_neg (by rw [HE.o];decide)
    have hdx:decide (0≤x)=false:=decide_eq_false (by omega)
    rw [hdx] at HNM;clear hdx
    go_wp2_with (go_at_call 246;refine (HNM.o _ HBR.o).mono ?_;rintro e w' ⟨rfl,b1⟩)
    have HB1:Hid (BW w w'):=next HBR.o b1;clear b1;go_ret2;rw [HE.o,HE2.o];exact ⟨_,_,rfl,World.ownsRow_nil _ _ _ _,HB1.o⟩
   ·have hdx:decide (0≤x)=true:=decide_eq_true (by omega)
    rw [hdx] at HNM
    have HYX:Hid (y=x):=HPN.o (by omega)
    clear hdx;go_wp2_with fail
    refine (HNM.o _ HBR.o).mono ?_;rintro e w1 ⟨rfl,b1⟩;have HB1:Hid (BW w w1):=next HBR.o b1;have HO1:Hid (w1.ownsRow w.heap.size 3 1 v L.length (L.map (Value.int .i64))):=Av HO.o b1;have HS1:Hid (w.heap.size≤w1.heap.size):=HB1.o.size;rw [HYX.o];clear b1 hcell
    go_wp2_with (at_builtin;refine wpList_append_own _ rfl (.tmp 22) (.tmp 24) 22 rfl w.heap.size 3 i0 (.int .i64 0) 1 8 underlying22 hi hz0 hz1 hz2 rfl (by decide) _ _ _ rfl (HO1.o.alloc _) ⟨w1.heap.size,0,none⟩ 1 1 [.int .i64 x] rfl rfl (World.news_of_block (heap_alloc_new w1 _)) (cJ _) (by unfold maxLen;omega) (by omega) (by simp;have:=HS1.o;omega) ?_;intro v5 w5 o5 g5 _)
    have q5:BW w w5:=(HB1.o.alloc (by have:=HS1.o;omega) _).grown g5 (by have:=HS1.o;simp;omega) HLT.o
    have HR5:Hid (w5.ownsRow w.heap.size 3 1 v5 ((rs.take (k+1)).map Ae).length (((rs.take (k+1)).map Ae).map (Value.int .i64))):=by
     rw [Hid,HNX.o,List.length_append,List.map_append];exact o5
    clear o5 g5;go_wp2
    go_roundw
    case rel=>exact ⟨_,k+1,rfl,by omega,by go_num,HAL2.o (by omega),HR5.o,q5⟩
    case measure=>simp [intOf];omega
  ·have hke:k=rs.length:=by omega
   subst hke
   have hki:¬ (rs.length:Int)<(rs.length:Int):=by omega
   have HE:Hid (Ap rs=true):=Qe HALL.o;have HE2:Hid (A7 rs=rs.map Ae):=if_pos HE.o;rw [List.take_length] at hown;obtain ⟨L,hL⟩:∃ L,rs.map Ae=L:=⟨_,rfl⟩;rw [hL] at hown HE2;clear hL hml;obtain ⟨va,vk,hva⟩:=Fz hown;subst hva;have HO:Hid _:=hown;clear hbr hown hall;go_wp2;go_ret2;rw [HE.o,HE2.o];exact ⟨_,_,rfl,HO.o,HBR.o⟩
def aL:List Nat:=[3,4,5,6,7,8,9]
def NF (E:World→Prop) (y:Value):Prop:=∃ w g,E w∧g ∈ aL∧w.cell? ⟨g,0,none⟩=some y
def sQ (E:World→Prop) (code:Int) (v:Value):Prop:=(code=0∧v=.nilIface)∨(code≠0∧∃ y,NF E y∧v=.iface 170 (.agg #[y,.int .i64 code]))
def Wz (E:World→Prop) (B K:Nat) (w:World) (r:Bk×Int) (e:Ending) (w':World):Prop:=∃ q v,e=.returned v∧sQ E r.2 v∧KS B K 1 r.1 q w'∧Ce B w w'
theorem Et {E:World→Prop} {B K:Nat} {w w':World} {b:Bk} {q:Bp} {c:Int} {y:Value} (hy:NF E y) (hc:c≠0) (k:KS B K 1 b q w') (hb:Ce B w w'):Wz E B K w (b,c) (.returned (.iface 170 (.agg #[y,.int .i64 c]))) w' :=
 ⟨q,_,rfl,.inr ⟨hc,y,hy,rfl⟩,k,hb⟩
theorem Uv {E:World→Prop} {B K:Nat} {w w':World} {b:Bk} {q:Bp} (k:KS B K 1 b q w') (hb:Ce B w w'):Wz E B K w (b,0) (.returned .nilIface) w':=⟨q,_,rfl,.inl ⟨rfl,rfl⟩,k,hb⟩
structure Ej (b:Bk):Prop where
 sm:D0 b
 ref:∀ a ∈ b.az,a.ref.length≤1048576
 cur:∀ a ∈ b.az,(Lit.int .i64 a.cur).wf=true
 cc:∀ c ∈ b.cs,Qk c
 lb:∀ x ∈ b.ls,Hw x
 day:(Lit.int .i64 b.today).wf=true
def N8 (F:Ff) (b:Bk) (rs:Be):Bk×Int:=if Ap rs=true∧rs.length=1 then Fr F b (Ae (Al rs 0)) else (b,1)
theorem KS.lt {B K:Nat} {st:Int} {b:Bk} {q:Bp} {u:World} (h:KS B K st b q u):B≤u.heap.size:=by have:=h.z.lt;have:=h.hK;omega
theorem lF {F:Ff} {E:World→Prop} {G B K:Nat} (KI:Rq F E G) (b:Bk) (q:Bp) (ao:Option Addr) (cap:Nat) (rs:Be) (w:World) (hk:KS B K 1 b q w) (hE:E w) (hP:Ej b) (hz:Bh w ao rs) (hn:rs.length≤1048576) (hd:∀ r ∈ rs,r.length≤1048576) :
  Calls prog 172 #[.pointer (some ⟨K,0,none⟩),.slice ao rs.length cap] w (Wz E B K w (N8 F b rs)):=by
 have HNS:Hid (Calls prog 206 #[.slice ao rs.length cap] w fun e w'=>∃ a k,e=.returned (.tuple #[.slice a (A7 rs).length k,.bool (Ap rs)])∧w'.ownsRow w.heap.size 3 1 (.slice a (A7 rs).length k) (A7 rs).length ((A7 rs).map (Value.int .i64))∧BW w w'):=Ks KI ao cap rs w hz hn hd hE
 have HB0:Hid (B≤w.heap.size):=hk.lt;have HK0:Hid (KS B K 1 b q w):=hk;have HE0:Hid (E w):=hE;have HPR:Hid (Ej b):=hP;have HKI:Hid (Rq F E G):=KI;clear hz hd hk hE hP KI
 by_cases hok:Ap rs=true∧rs.length=1
 ·obtain ⟨h1,h2⟩:=hok
  obtain ⟨r0,hr0⟩:∃ r0,rs=[r0]:=by
   match rs,h2 with
   | [r],_=>exact ⟨r,rfl⟩
  have hv:A7 rs=[Ae r0]:=by rw [A7,if_pos h1,hr0];rfl
  have HR:Hid (N8 F b rs=Fr F b (Ae r0)):=by rw [Hid,N8,if_pos ⟨h1,h2⟩,hr0];rfl
  rw [hv,h1] at HNS;rw [HR.o];have hbd:=Ib r0;obtain ⟨n,hnn⟩:∃ n,Ae r0=n:=⟨_,rfl⟩;rw [hnn] at HNS hbd ⊢
  simp only [List.length_singleton,List.map_cons,List.map_nil] at HNS
  clear hv hnn HR h1 hr0 h2
  go_enter func172,ntmps172
  go_wp2_with fail
  refine Calls.mono HNS.o ?_;rintro e w1 ⟨a,k,rfl,o1,b1⟩
  obtain ⟨g,rfl,-,-⟩:=Hf o1 (by omega)
  have hcell:w1.cell? ⟨g,0,none⟩=some (.int .i64 n):=by simpa using o1.cellAt 0 (by omega)
  have HK1:Hid (KS B K 1 b q w1):=HK0.o.below b1;have HB1:Hid (Ce B w w1):=.of b1 HB0.o;have HE1:Hid (E w1):=HKI.o.grow HE0.o b1;clear o1 b1 HNS
  have HDO:Hid (∀ u,Calls prog 99 #[.int .i64 n] u fun e w'=>e=.returned (.bool (Dn n))∧w'=u):=fun u=>Bm n u
  obtain ⟨c0,c1,c2,c3,c4,c5,c6,c7,z0,z1,z2,z3,z4,z5,z6,z7⟩:=HK1.o.z;obtain ⟨et,ea,hee⟩:=HKI.o.eDay w1 HE1.o
  have HYY:Hid (NF E (.iface et (.pointer (some ea)))):=⟨w1,4,HE1.o,by decide,hee⟩
  by_cases hdy:Dn n=true
  ·rw [hdy] at HDO
   by_cases hlt:b.today<n
   ·have hle:¬ n≤b.today:=by omega
    have HDB:Hid _:=cA F hdy hlt;clear hdy hee
    go_upto_region 8 with (go_at_call 99;refine (HDO.o _).mono ?_;rintro e w' ⟨rfl,hw'⟩;replace hw':=hw'.symm;subst hw')
    obtain ⟨W,hW⟩:∃ W,W=w1.setCell ⟨K,3,none⟩ (.int .i64 n):=⟨_,rfl⟩;rw [← hW]
    have HK2:Hid (KS B K 1 ⟨n,b.off,b.az,b.cs,b.ls,b.log⟩ q W):=by rw [hW];exact HK1.o.setDay n
    have HB2:Hid (Ce B w W):=by rw [hW];exact HB1.o.setK HK1.o.kt HK1.o.hK
    clear hW c0 c1 c2 c3 c4 c5 c6 c7 z0 z1 z2 z3 z4 z5 z6 z7 hcell;obtain ⟨c0,c1,c2,c3,c4,c5,c6,c7,z0,z1,z2,z3,z4,z5,z6,z7⟩:=HK2.o.z;go_wp2_with fail
    refine Calls.mono (HKI.o.prune q.a q.ac b.az n W HK2.o.at.az HPR.o.sm.2.1 HPR.o.ref) ?_;rintro e w3 ⟨a3,k3,rfl,o3,b3⟩;have HBW:Hid (B≤W.heap.size):=HK2.o.lt;have HK3:Hid _:=(HK2.o.below b3).setA o3 HBW.o;have HB3:Hid (Ce B w (w3.setCell ⟨K,5,none⟩ (.slice a3 (F.prune b.az n).length k3))):=(HB2.o.trans (.of b3 HBW.o)).setK (HK2.o.below b3).kt HK1.o.hK;have z5':=(HK2.o.below b3).z.z5;have c5':=(HK2.o.below b3).z.c5;clear o3 b3 c0 c1 c2 c3 c4 c5 c6 c7 z0 z1 z2 z3 z4 z5 z6 z7;go_wp2;go_ret;rw [HDB.o];exact Uv HK3.o HB3.o
   ·have hle:n≤b.today:=by omega
    have HDB:Hid _:=cS F hlt;clear hdy
    go_wp2_with (go_at_call 99;refine (HDO.o _).mono ?_;rintro e w' ⟨rfl,hw'⟩;replace hw':=hw'.symm;subst hw')
    go_ret;rw [HDB.o]
    exact Et HYY.o (by decide) HK1.o HB1.o
  ·have hdf:Dn n=false:=by simpa using hdy
   rw [hdf] at HDO;have HDB:Hid _:=bH F b hdf;clear hdy hdf
   go_wp2_with (go_at_call 99;refine (HDO.o _).mono ?_;rintro e w' ⟨rfl,hw'⟩;replace hw':=hw'.symm;subst hw')
   go_ret;rw [HDB.o]
   exact Et HYY.o (by decide) HK1.o HB1.o
 ·have HR:Hid (N8 F b rs=(b,1)):=if_neg hok
  have hne:Ap rs=true→¬ (A7 rs).length=1:=fun h1 h2=>hok ⟨h1,by rw [A7,if_pos h1] at h2;simpa using h2⟩
  rw [HR.o]
  have hln:(A7 rs).length≤1048576:=by unfold A7;split <;> simp;omega
  obtain ⟨L,hL⟩:∃ L,A7 rs=L:=⟨_,rfl⟩;rw [hL] at HNS hne hln;obtain ⟨ok,hok2⟩:∃ x,Ap rs=x:=⟨_,rfl⟩;rw [hok2] at HNS hne;clear hL hok2 hok HR
  go_enter func172,ntmps172
  go_wp2_with fail
  refine Calls.mono HNS.o ?_;rintro e w1 ⟨a,k,rfl,o1,b1⟩;have HK1:Hid (KS B K 1 b q w1):=HK0.o.below b1;have HB1:Hid (Ce B w w1):=.of b1 HB0.o;obtain ⟨et,ea,hee⟩:=HKI.o.eLine w1 (HKI.o.grow HE0.o b1)
  have HYY:Hid (NF E (.iface et (.pointer (some ea)))):=⟨w1,3,(HKI.o.grow HE0.o b1),by decide,hee⟩
  clear o1 b1 HNS
  cases ok
  ·clear hne
   go_wp2;go_ret
   exact Et HYY.o (by decide) HK1.o HB1.o
  ·have hl1:((L.length:Int) == 1)=false:=by
     have:=hne rfl
     simp;omega
   clear hne;go_wp2;go_ret
   exact Et HYY.o (by decide) HK1.o HB1.o
def Gt (F:Ff) (b:Bk) (rs:Be):Bk×Int :=
 if rs.length=4∧Al rs 0≠[]∧Ap (rs.drop 1)=true then Fq F b (Al rs 0) (Ae (Al rs 1)) (Ae (Al rs 2)) (Ae (Al rs 3)) else (b,1)
theorem kK (F:Ff) {b:Bk} {ref:List UInt8} {n0 n1 n2:Int} (h:F.addOk b.az ⟨ref,n0,n1,n2,b.today,false⟩=true):Fq F b ref n0 n1 n2=(⟨b.today,b.off,F.add b.az ⟨ref,n0,n1,n2,b.today,false⟩,b.cs,b.ls,b.log⟩,0):=if_pos h
theorem bZ (F:Ff) {b:Bk} {ref:List UInt8} {n0 n1 n2:Int} (h:F.addOk b.az ⟨ref,n0,n1,n2,b.today,false⟩=false):Fq F b ref n0 n1 n2=(b,3):=if_neg (by rw [h];decide)
theorem nP {α:Type} {rs:List α} (h:rs.length=4):∃ a b c d,rs=[a,b,c,d]:=by
 match rs,h with
 | [a,b,c,d],_=>exact ⟨a,b,c,d,rfl⟩
theorem pV {w:World} {ao:Option Addr} {a b c d:List UInt8} (h:Bh w ao [a,b,c,d]):∃ g off,ao=some ⟨g,off,none⟩∧g<w.heap.size∧w.cell? ⟨g,off,none⟩=some (.string ⟨a.toArray⟩)∧w.cell? ⟨g,off+1,none⟩=some (.string ⟨b.toArray⟩)∧w.cell? ⟨g,off+2,none⟩=some (.string ⟨c.toArray⟩)∧w.cell? ⟨g,off+3,none⟩=some (.string ⟨d.toArray⟩):=by
 rcases h with h | ⟨g,off,h1,h2,h3⟩
 ·cases h
 ·exact ⟨g,off,h1,h2,h3 0 (by simp),h3 1 (by simp),h3 2 (by simp),h3 3 (by simp)⟩
theorem pY {w:World} {g off:Nat} {b c d:List UInt8} (hg:g<w.heap.size) (h1:w.cell? ⟨g,off,none⟩=some (.string ⟨b.toArray⟩)) (h2:w.cell? ⟨g,off+1,none⟩=some (.string ⟨c.toArray⟩)) (h3:w.cell? ⟨g,off+2,none⟩=some (.string ⟨d.toArray⟩)):Bh w (some ⟨g,off,none⟩) [b,c,d] :=
 .inr ⟨g,off,rfl,hg,fun i hi=>by
  rcases (show i=0∨i=1∨i=2 by simp at hi;omega) with rfl | rfl | rfl
  ·exact h1
  ·exact h2
  ·exact h3⟩
theorem eM {F:Ff} {E:World→Prop} {G B K:Nat} (KI:Rq F E G) (b:Bk) (q:Bp) (ao:Option Addr) (cap:Nat) (rs:Be) (w:World) (hk:KS B K 1 b q w) (hE:E w) (hP:Ej b) (hz:Bh w ao rs) (hcap:rs.length≤cap) (hcm:cap≤1048577) (hd:∀ r ∈ rs,r.length≤1048576) :
  Calls prog 173 #[.pointer (some ⟨K,0,none⟩),.slice ao rs.length cap] w (Wz E B K w (Gt F b rs)):=by
 have HB0:Hid (B≤w.heap.size):=hk.lt;have HK0:Hid (KS B K 1 b q w):=hk;have HE0:Hid (E w):=hE;have HPR:Hid (Ej b):=hP;have HKI:Hid (Rq F E G):=KI;obtain ⟨et,ea,hee⟩:=KI.eLine w hE
 have HYY:Hid (NF E (.iface et (.pointer (some ea)))):=⟨w,3,hE,by decide,hee⟩
 have HBR:Hid (Ce B w w):=.refl _ _
 by_cases hl4:rs.length=4
 ·obtain ⟨r0,r1,r2,r3,hrs⟩:=nP hl4
  have d0:=hd r0 (by rw [hrs];simp)
  have d1:=hd r1 (by rw [hrs];simp)
  have d2:=hd r2 (by rw [hrs];simp)
  have d3:=hd r3 (by rw [hrs];simp)
  rw [hrs] at hz;obtain ⟨g,off,rfl,hg,t0,t1,t2,t3⟩:=pV hz;rw [hrs] at hcap ⊢
  simp only [List.length_cons,List.length_nil] at hcap
  clear hd hz hl4 hk hE hP KI hrs
  by_cases hr0:r0=[]
  ·have HR:Hid (Gt F b [r0,r1,r2,r3]=(b,1)):=if_neg (by rintro ⟨_,h,_⟩;exact h hr0)
   rw [HR.o];subst hr0;clear HR
   go_enter func173,ntmps173
   go_wp2;go_ret
   exact Et HYY.o (by decide) HK0.o HBR.o
  ·have hrb:(r0 == [])=false:=by simpa using hr0
   have HNS:Hid (Calls prog 206 #[.slice (some ⟨g,off+1,none⟩) 3 (cap - 1)] w fun e w'=>∃ a k,e=.returned (.tuple #[.slice a (A7 [r1,r2,r3]).length k,.bool (Ap [r1,r2,r3])])∧w'.ownsRow w.heap.size 3 1 (.slice a (A7 [r1,r2,r3]).length k) (A7 [r1,r2,r3]).length ((A7 [r1,r2,r3]).map (Value.int .i64))∧BW w w') :=
    Ks HKI.o (some ⟨g,off+1,none⟩) (cap - 1) [r1,r2,r3] w (pY hg t1 t2 t3) (by simp) (by
     intro r hr
     simp at hr
     rcases hr with rfl | rfl | rfl <;> assumption) HE0.o
   have HRR:Hid (Gt F b [r0,r1,r2,r3]=if Ap [r1,r2,r3]=true then Fq F b r0 (Ae r1) (Ae r2) (Ae r3) else (b,1)):=by
    rw [Hid,Gt]
    by_cases h:Ap [r1,r2,r3]=true
    ·rw [if_pos ⟨rfl,hr0,h⟩,if_pos h];rfl
    ·rw [if_neg (fun e=>h e.2.2),if_neg h]
   rw [HRR.o];clear HRR hr0
   by_cases hok:Ap [r1,r2,r3]=true
   ·have hv:A7 [r1,r2,r3]=[Ae r1,Ae r2,Ae r3]:=if_pos hok
    have b1':=Ib r1;have b2':=Ib r2;have b3':=Ib r3
    have hn2:0≤Ae r2:=by
     have:=List.all_eq_true.1 hok r2 (by simp)
     simpa using this
    rw [hv,hok] at HNS;rw [if_pos hok];obtain ⟨n1,e1⟩:∃ n,Ae r1=n:=⟨_,rfl⟩;obtain ⟨n2,e2⟩:∃ n,Ae r2=n:=⟨_,rfl⟩;obtain ⟨n3,e3⟩:∃ n,Ae r3=n:=⟨_,rfl⟩;rw [e1] at HNS b1' ⊢;rw [e2] at HNS b2' hn2 ⊢;rw [e3] at HNS b3' ⊢
    simp only [List.length_cons,List.length_nil,List.map_cons,List.map_nil] at HNS
    clear hv e1 e2 e3 hok hee
    go_enter func173,ntmps173
    go_wp2_with fail
    refine Calls.mono HNS.o ?_;rintro e w1 ⟨a,k,rfl,o1,p1⟩
    obtain ⟨g1,rfl,-,-⟩:=Hf o1 (by omega)
    have m0:w1.cell? ⟨g1,0,none⟩=some (.int .i64 n1):=by simpa using o1.cellAt 0 (by omega)
    have m1:w1.cell? ⟨g1,1,none⟩=some (.int .i64 n2):=by simpa using o1.cellAt 1 (by omega)
    have m2:w1.cell? ⟨g1,2,none⟩=some (.int .i64 n3):=by simpa using o1.cellAt 2 (by omega)
    have s0:w1.cell? ⟨g,off,none⟩=some (.string ⟨r0.toArray⟩):=(p1.cell (p:=⟨g,off,none⟩) hg).trans t0;have HK1:Hid (KS B K 1 b q w1):=HK0.o.below p1;have HB1:Hid (Ce B w w1):=.of p1 HB0.o;have HE1:Hid (E w1):=HKI.o.grow HE0.o p1;have hz:=HK1.o.z;have lK:=hz.lt
    have HS:Hid (∀ u,BW w1 u→u.cell? ⟨K,3,none⟩=some (.int .i64 b.today)∧u.cell? ⟨K,5,none⟩=some (.slice q.a b.az.length q.ac)∧u.cell? ⟨g,off,none⟩=some (.string ⟨r0.toArray⟩)∧u.cell? ⟨g1,0,none⟩=some (.int .i64 n1)∧u.cell? ⟨g1,1,none⟩=some (.int .i64 n2)∧u.cell? ⟨g1,2,none⟩=some (.int .i64 n3)):=fun u h=>by
     have l1:=World.block_lt_of_cell? w1 _ m0;have l2:=World.block_lt_of_cell? w1 _ s0;exact ⟨(h.cell (p:=⟨K,3,none⟩) lK).trans hz.c3,(h.cell (p:=⟨K,5,none⟩) lK).trans hz.c5,(h.cell (p:=⟨g,off,none⟩) l2).trans s0,(h.cell (p:=⟨g1,0,none⟩) l1).trans m0,(h.cell (p:=⟨g1,1,none⟩) l1).trans m1,(h.cell (p:=⟨g1,2,none⟩) l1).trans m2⟩
    have HAD:Hid (∀ u,BW w1 u→Calls prog 208 #[.slice q.a b.az.length q.ac,.agg #[.string ⟨r0.toArray⟩,.int .i64 n1,.int .i64 n2,.int .i64 n3,.int .i64 b.today,.bool false]] u (Pi u (F.add b.az ⟨r0,n1,n2,n3,b.today,false⟩) (F.addOk b.az ⟨r0,n1,n2,n3,b.today,false⟩))):=fun u h =>
     HKI.o.add q.a q.ac b.az ⟨r0,n1,n2,n3,b.today,false⟩ u (HK1.o.below h).at.az HPR.o.sm.2.1 HPR.o.ref d0 ⟨hn2,b2'.2⟩
    have k0:BW w1 w1:=bR;have HY:Hid _:=@kK F b r0 n1 n2 n3;have HNO:Hid _:=@bZ F b r0 n1 n2 n3;obtain ⟨L,hL⟩:∃ L,F.add b.az ⟨r0,n1,n2,n3,b.today,false⟩=L:=⟨_,rfl⟩;obtain ⟨ok,hok⟩:∃ o,F.addOk b.az ⟨r0,n1,n2,n3,b.today,false⟩=o:=⟨_,rfl⟩;rw [hL] at HAD HY;rw [hok] at HAD HY HNO;clear o1 p1 HNS hL hok hz lK t0 t1 t2 t3 hn2 b1' b2' b3';obtain ⟨q3,q5,qg,qa,qb,qc⟩:=HS.o _ k0;clear m0 m1 m2 s0;go_upto_region 6 with fail
    go_region_held3 (fun u=>u.cell? ⟨K,3,none⟩=some (.int .i64 b.today)∧u.cell? ⟨K,5,none⟩=some (.slice q.a b.az.length q.ac)∧u.cell? ⟨g,off,none⟩=some (.string ⟨r0.toArray⟩)∧u.cell? ⟨g1,0,none⟩=some (.int .i64 n1)∧u.cell? ⟨g1,1,none⟩=some (.int .i64 n2)∧u.cell? ⟨g1,2,none⟩=some (.int .i64 n3)) (first | with_reducible exact HS.o _ k0 | with_reducible exact HS.o _ k0.drew | with_reducible exact HS.o _ k3) ((go_at_call 208;(first | with_reducible refine Calls.mono (HAD.o _ k0) ?_ | with_reducible refine Calls.mono (HAD.o _ k0.drew) ?_);rintro e w3 ⟨a3,c3,rfl,o3,p3⟩;have k3:BW w1 w3:=(by first | exact p3 | exact (Below.trans (Below.refl w1.heap.size w1).drew p3))))
    all_goals
     rename_i hheld
     have HK3:Hid (KS B K 1 b q w3):=HK1.o.below k3;have HBW:Hid (B≤w1.heap.size):=HK1.o.lt;have HB3:Hid (Ce B w w3):=HB1.o.trans (.of k3 HBW.o);obtain ⟨et,ea,hee⟩:=HKI.o.eAuth w3 (HKI.o.grow HE1.o k3)
     have HYY:Hid (NF E (.iface et (.pointer (some ea)))):=⟨w3,5,(HKI.o.grow HE1.o k3),by decide,hee⟩
     have HO3:Hid (w3.ownsRow w1.heap.size 107 6 (.slice a3 L.length c3) L.length (Ah L)):=(by first | exact o3 | exact (by simpa using o3))
     clear hheld q3 q5 qg qa qb qc k0 k3 p3 o3
     cases ok
     ·have HQ:Hid _:=HNO.o rfl
      clear HY HNO;go_wp2;go_ret;rw [HQ.o]
      exact Et HYY.o (by decide) HK3.o HB3.o
     ·have HQ:Hid _:=HY.o rfl
      have HKA:Hid _:=HK3.o.setA HO3.o HBW.o;have HBA:Hid (Ce B w (w3.setCell ⟨K,5,none⟩ (.slice a3 L.length c3))):=HB3.o.setK HK3.o.kt HK1.o.hK;have z5:=HK3.o.z.z5;have c5:=HK3.o.z.c5;clear HY HNO;go_wp2;go_ret;rw [HQ.o];exact Uv HKA.o HBA.o
   ·have hokf:Ap [r1,r2,r3]=false:=by simpa using hok
    rw [if_neg hok];obtain ⟨L,hL⟩:∃ L,A7 [r1,r2,r3]=L:=⟨_,rfl⟩;rw [hL,hokf] at HNS;clear hL hok hokf hee
    go_enter func173,ntmps173
    go_wp2_with fail
    refine Calls.mono HNS.o ?_;rintro e w1 ⟨a,k,rfl,o1,p1⟩;have HK1:Hid (KS B K 1 b q w1):=HK0.o.below p1;have HB1:Hid (Ce B w w1):=.of p1 HB0.o;obtain ⟨et,ea,hee⟩:=HKI.o.eLine w1 (HKI.o.grow HE0.o p1)
    have HYY:Hid (NF E (.iface et (.pointer (some ea)))):=⟨w1,3,(HKI.o.grow HE0.o p1),by decide,hee⟩
    clear o1 p1 HNS t0 t1 t2 t3;go_wp2;go_ret
    exact Et HYY.o (by decide) HK1.o HB1.o
 ·have HR:Hid (Gt F b rs=(b,1)):=if_neg (fun e=>hl4 e.1)
  rw [HR.o];obtain ⟨n,hnl⟩:∃ n,rs.length=n:=⟨_,rfl⟩;rw [hnl] at hl4 hcap ⊢
  have hl4':((n:Int) == 4)=false:=by
   have:¬ (n:Int)=4:=by omega
   simpa using this
  have hl5:((n:Int) != 4)=true:=by
   have:¬ (n:Int)=4:=by omega
   simpa using this
  clear HR hl4 hd hz hk hE hP KI hnl hcap hcm
  go_enter func173,ntmps173
  go_wp2;go_ret
  exact Et HYY.o (by decide) HK0.o HBR.o
def PsR (B K:Nat) (F:Ff) (b:Bk) (q:Bp) (es:List En) (w:World) (e:Ending) (w':World):Prop :=
 e=.returned (.bool (F.allOk b.ls es))∧(∃ a c,KS B K 1 ⟨b.today,b.off,b.az,b.cs,F.all b.ls es,b.log⟩ ⟨q.o,q.oc,q.a,q.ac,q.c,q.cc,a,c,q.g,q.gc⟩ w')∧Ce B w w'∧w.grownBy w' (some K)
theorem K9 {F:Ff} {E:World→Prop} {G B K:Nat} (KI:Rq F E G) (b:Bk) (q:Bp) (eo:Option Addr) (ec:Nat) (es:List En) (w:World) (hk:KS B K 1 b q w) (hP:Ej b) (hz:C8 w eo es) (hn:es.length≤1048576) (hd:∀ x ∈ es,Ma x) :
  Calls prog 211 #[.pointer (some ⟨K,2,none⟩),.slice eo es.length ec] w (PsR B K F b q es w):=by
 have HPO:Hid (Calls prog 255 #[.agg #[.slice q.l b.ls.length q.lc],.slice eo es.length ec] w fun e w'=>∃ ao cap,e=.returned (.tuple #[.agg #[.slice ao (F.all b.ls es).length cap],.bool (F.allOk b.ls es)])∧w'.ownsRow w.heap.size 113 3 (.slice ao (F.all b.ls es).length cap) (F.all b.ls es).length (Ag (F.all b.ls es))∧BW w w'):=KI.post q.l q.lc b.ls eo ec es w hk.at.ls hP.sm.2.2.2.1 hP.lb hz hn hd
 have HB0:Hid (B≤w.heap.size):=hk.lt;have HK0:Hid (KS B K 1 b q w):=hk;obtain ⟨L,hL⟩:∃ L,F.all b.ls es=L:=⟨_,rfl⟩;obtain ⟨ok,hok⟩:∃ o,F.allOk b.ls es=o:=⟨_,rfl⟩;have HLL:Hid (F.all b.ls es=L):=hL;have HOK:Hid (F.allOk b.ls es=ok):=hok;rw [hL,hok] at HPO;obtain ⟨c0,c1,c2,c3,c4,c5,c6,c7,z0,z1,z2,z3,z4,z5,z6,z7⟩:=hk.z;clear hz hd hk hP KI hL hok
 go_enter func211,ntmps211
 go_wp2_with fail
 refine Calls.mono HPO.o ?_;rintro e w1 ⟨a,k,rfl,o1,b1⟩;have bA:Below w1.heap.size w1 (w1.alloc (.cells #[.slice a L.length k] 29)):=bR.alloc nL _;have HO:Hid ((w1.alloc (.cells #[.slice a L.length k] 29)).ownsRow w.heap.size 113 3 (.slice a L.length k) L.length (Ag L)):=Av o1 bA;have HK2:Hid (KS B K 1 b q (w1.alloc (.cells #[.slice a L.length k] 29))):=(HK0.o.below b1).below bA;have HB2:Hid (Below w.heap.size w (w1.alloc (.cells #[.slice a L.length k] 29))):=next b1 bA
 have bc:(w1.alloc (.cells #[.slice a L.length k] 29)).cell? ⟨w1.heap.size,0,none⟩=some (.slice a L.length k):=by simp
 clear c0 c1 c2 c3 c4 c5 c6 c7 z0 z1 z2 z3 z4 z5 z6 z7 o1 b1 bA HPO;go_upto_region 2 with fail
 obtain ⟨W,hW⟩:∃ W,W=w1.alloc (.cells #[.slice a L.length k] 29):=⟨_,rfl⟩;rw [← hW] at HO HK2 HB2 bc ⊢;clear hW;have c2:=HK2.o.z.c2;have z2:=HK2.o.z.z2;have HKL:Hid _:=HK2.o.setL HO.o HB0.o
 have HGR:Hid (w.grownBy (W.setCell ⟨K,2,none⟩ (.slice a L.length k)) (some K)):=by
  have h:=HB2.o
  exact (World.grownBy.trans ⟨h.os,h.tape,h.output,h.size,fun j hj _=>h.block j hj⟩ (An W K 2 _))
 have HBS:Hid (Ce B w (W.setCell ⟨K,2,none⟩ (.slice a L.length k))):=(Ce.of HB2.o HB0.o).setK HK2.o.kt HK0.o.hK;go_wp2;go_ret;refine ⟨?_,⟨a,k,?_⟩,HBS.o,HGR.o⟩
 ·rw [HOK.o];rfl
 ·rw [HLL.o];exact HKL.o
def sL:Array Value:=#[.string ⟨#[97,115,107]⟩,.string ⟨#[103,105,118,101]⟩,.string ⟨#[99,104,97,114,103,101]⟩,.string ⟨#[97,110,115,119,101,114]⟩,.string ⟨#[115,101,99,111,110,100]⟩,.string ⟨#[97,99,99,101,112,116]⟩,.string ⟨#[114,101,102,117,115,101]⟩,.string ⟨#[114,117,108,101]⟩,.string ⟨#[101,120,112,105,114,101]⟩,.string ⟨#[99,108,111,115,101]⟩]
theorem pJ (k:Nat) (h:k<10) (V:World):(Instr.index 156 (.agg sL) (.int .i64 (k:Int))).run prog V=.ok (.string ⟨(Al Dm k).toArray⟩) V:=by
 rcases (show k=0∨k=1∨k=2∨k=3∨k=4∨k=5∨k=6∨k=7∨k=8∨k=9 by omega) with rfl | rfl | rfl | rfl | rfl | rfl | rfl | rfl | rfl | rfl <;> kernel_rfl
def Oz (s:List UInt8):Int:=if 0≤Bz s then Bz s else 0
theorem fD {F:Ff} {E:World→Prop} {G:Nat} (K:Rq F E G) (s:List UInt8) (w:World) (hE:E w) :
  Calls prog 213 #[.string ⟨s.toArray⟩] w fun e w'=>e=.returned (.tuple #[.int .i64 (Oz s),.bool (decide (0≤Bz s))])∧BW w w':=by
 have HK:Hid (Bz s=Dh s (Dm.drop 0) 0):=rfl;have hw:=K.words w hE
 have g0:w.cell? ⟨0,0,none⟩=some (.string ⟨#[97,115,107]⟩):=hw 0 (by decide)
 have g1:w.cell? ⟨0,1,none⟩=some (.string ⟨#[103,105,118,101]⟩):=hw 1 (by decide)
 have g2:w.cell? ⟨0,2,none⟩=some (.string ⟨#[99,104,97,114,103,101]⟩):=hw 2 (by decide)
 have g3:w.cell? ⟨0,3,none⟩=some (.string ⟨#[97,110,115,119,101,114]⟩):=hw 3 (by decide)
 have g4:w.cell? ⟨0,4,none⟩=some (.string ⟨#[115,101,99,111,110,100]⟩):=hw 4 (by decide)
 have g5:w.cell? ⟨0,5,none⟩=some (.string ⟨#[97,99,99,101,112,116]⟩):=hw 5 (by decide)
 have g6:w.cell? ⟨0,6,none⟩=some (.string ⟨#[114,101,102,117,115,101]⟩):=hw 6 (by decide)
 have g7:w.cell? ⟨0,7,none⟩=some (.string ⟨#[114,117,108,101]⟩):=hw 7 (by decide)
 have g8:w.cell? ⟨0,8,none⟩=some (.string ⟨#[101,120,112,105,114,101]⟩):=hw 8 (by decide)
 have g9:w.cell? ⟨0,9,none⟩=some (.string ⟨#[99,108,111,115,101]⟩):=hw 9 (by decide)
 clear hw hE K
 go_enter func213,ntmps213
 go_wp2;clear g0 g1 g2 g3 g4 g5 g6 g7 g8 g9
 go_loopw [7] (fun i wr=>∃ (k:Nat),k≤10∧i=.int .i64 (k:Int)∧Bz s=Dh s (Dm.drop k) k∧BW w wr) (fun i _=>10 - (intOf i).toNat)
 case atStart=>exact ⟨0,Nat.zero_le _,rfl,HK.o,bR⟩
 case round =>
  obtain ⟨k,hk,rfl,hkw,hbr⟩:=hrel;have HBR:Hid (BW w wr):=hbr
  by_cases hlt:k<10
  ·have hki:(k:Int)<10:=by omega
   have hst:=Sz s Dm k hlt;have hix:=pJ k hlt;unfold sL at hix;obtain ⟨r,hr⟩:∃ r,Al Dm k=r:=⟨_,rfl⟩;rw [hr] at hst hix;clear hr hbr HK
   by_cases hrs:r=s
   ·subst hrs
    rw [if_pos rfl] at hst
    have HE:Hid (Oz r=(k:Int)∧decide (0≤Bz r)=true):=by
     have e:Bz r=(k:Int):=hkw.trans hst;unfold Oz;rw [e]
     exact ⟨if_pos (by omega),decide_eq_true (by omega)⟩
    clear hst hkw;go_wp2;go_ret2;exact ⟨Oc HE.o.1.symm HE.o.2.symm,HBR.o⟩
   ·rw [if_neg hrs] at hst
    have HE:Hid (Bz s=Dh s (Dm.drop (k+1)) (k+1)):=hkw.trans hst
    have hds:(r == s)=false:=by simpa using hrs
    clear hst hkw;go_wp2
    go_roundw
    case rel=>exact ⟨k+1,by omega,by go_num,HE.o,HBR.o⟩
    case measure=>simp [intOf];omega
  ·have hke:k=10:=by omega
   subst hke
   have HE:Hid (Oz s=0∧decide (0≤Bz s)=false):=by
    have e:Bz s = -1:=hkw;unfold Oz;rw [e]
    exact ⟨by simp,by simp⟩
   clear hbr hkw;go_wp2;go_ret2;exact ⟨Oc HE.o.1.symm HE.o.2.symm,HBR.o⟩
end Go.Proofs.YtomiclakhjncbaaGreatDoor.Kb
namespace Go.Proofs.YtomiclakhjncbaaGreatDoor
open Go.RowKit Go.Proofs.Tryz
set_option maxRecDepth 100000
set_option maxHeartbeats 12800000
theorem Mj (F:Ff) (K:Nc F) (b:Bk) (p:Bp) (n:Int) (w:World) (hx:Aq w b p) (hn:D0 b) :
  Calls prog 141 #[C5 b p,.int .i64 n] w (U8 w p (Fr F b n).1 (Fr F b n).2):=by
 have HX:Hid (∀ u,BW w u→Aq u b p):=fun u h=>hx.below h
 have HN:Hid (D0 b):=hn;clear hx hn;obtain ⟨td,fo,az,cs,ls,lg⟩:=b;obtain ⟨o,oc,a,ac,c,cc,l,lc,g,gc⟩:=p;unfold C5
 simp only
 obtain ⟨u0,hu0⟩:∃ u,u=((w.alloc (.cells #[.int .i64 td,.slice o fo.length oc,.slice a az.length ac,.slice c cs.length cc,.slice l ls.length lc,.slice g lg.length gc] 31))).alloc (.cells #[.int .i64 0,.slice none 0 0,.slice none 0 0,.slice none 0 0,.slice none 0 0,.slice none 0 0] 31):=⟨_,rfl⟩
 have HB0:Hid (BW w u0):=by rw [Hid,hu0];go_grown
 have HS0:Hid ((w.heap.size+1)<u0.heap.size):=by rw [Hid,hu0];simp
 have HZ0:Hid (Z6 w.heap.size (.int .i64 td) (.slice o fo.length oc) (.slice a az.length ac) (.slice c cs.length cc) (.slice l ls.length lc) (.slice g lg.length gc) u0):=by
  rw [Hid,hu0];exact ((Z6.new w (.int .i64 td) (.slice o fo.length oc) (.slice a az.length ac) (.slice c cs.length cc) (.slice l ls.length lc) (.slice g lg.length gc) 31)).below (bR.alloc nL _)
 have HR0:Hid (Z6 (w.heap.size+1) (.int .i64 0) (.slice none 0 0) (.slice none 0 0) (.slice none 0 0) (.slice none 0 0) (.slice none 0 0) u0):=by
  have h:=Z6.new ((w.alloc (.cells #[.int .i64 td,.slice o fo.length oc,.slice a az.length ac,.slice c cs.length cc,.slice l ls.length lc,.slice g lg.length gc] 31))) (.int .i64 0) (.slice none 0 0) (.slice none 0 0) (.slice none 0 0) (.slice none 0 0) (.slice none 0 0) 31
  rw [Hid,hu0];simpa using h
 have HU0:Hid _:=hu0;clear hu0
 go_enter func141,ntmps141
 go_upto_region 1 with fail
 rw [← HU0.o];clear HU0;obtain ⟨t0,t1,t2,t3,t4,t5,s0,s1,s2,s3,s4,s5⟩:=HZ0.o;obtain ⟨q0,q1,q2,q3,q4,q5,p0,p1,p2,p3,p4,p5⟩:=HR0.o
 cases hd:Dn n
 ·have HE:Hid _:=bH F ⟨td,fo,az,cs,ls,lg⟩ hd
  go_wp2_with (go_at_call 102;refine (A9 _ _).mono ?_;rintro e w' ⟨rfl,hw'⟩;replace hw':=hw'.symm;subst hw';rw [hd])
  refine bodyPost_ret (by simp [results,results141,go_sem,q0,q1,q2,q3,q4,q5];try rfl) rfl ?_
  rw [HE.o]
  have bel:=Ax (R:=(w.heap.size+1)) (by omega) HB0.o
  exact ⟨⟨o,oc,a,ac,c,cc,l,lc,g,gc⟩,rfl,HX.o _ (bel _ _ _ _ _ _),rfl,rfl,⟨rfl,.inl rfl,.inl rfl,.inl rfl⟩,bel _ _ _ _ _ _⟩
 by_cases hlt:td<n
 case neg =>
  have hle:n≤td:=by omega
  have HE:Hid _:=@cS F ⟨td,fo,az,cs,ls,lg⟩ n hlt
  go_wp2_with (go_at_call 102;refine (A9 _ _).mono ?_;rintro e w' ⟨rfl,hw'⟩;replace hw':=hw'.symm;subst hw';rw [hd])
  refine bodyPost_ret (by simp [results,results141,go_sem,q0,q1,q2,q3,q4,q5];try rfl) rfl ?_
  rw [HE.o]
  have bel:=Ax (R:=(w.heap.size+1)) (by omega) HB0.o
  exact ⟨⟨o,oc,a,ac,c,cc,l,lc,g,gc⟩,rfl,HX.o _ (bel _ _ _ _ _ _),rfl,rfl,⟨rfl,.inl rfl,.inl rfl,.inl rfl⟩,bel _ _ _ _ _ _⟩
 have hle:¬ n≤td:=by omega
 have HE:Hid _:=@cA F ⟨td,fo,az,cs,ls,lg⟩ n hd hlt
 go_upto_region 4 with (go_at_call 102;refine (A9 _ _).mono ?_;rintro e w' ⟨rfl,hw'⟩;replace hw':=hw'.symm;subst hw';rw [hd])
 obtain ⟨u1,hu1⟩:∃ u,u=u0.setCell ⟨w.heap.size,0,none⟩ (.int .i64 n):=⟨_,rfl⟩
 have HZ1:Hid (Z6 w.heap.size (.int .i64 n) (.slice o fo.length oc) (.slice a az.length ac) (.slice c cs.length cc) (.slice l ls.length lc) (.slice g lg.length gc) u1):=by rw [Hid,hu1];exact HZ0.o.set0 _
 have HR1:Hid (Z6 (w.heap.size+1) (.int .i64 0) (.slice none 0 0) (.slice none 0 0) (.slice none 0 0) (.slice none 0 0) (.slice none 0 0) u1):=by rw [Hid,hu1];exact HR0.o.far (by omega)
 have HB1:Hid (BW w u1):=by rw [Hid,hu1];exact HB0.o.setCell nL _
 have HS1:Hid (w.heap.size+1<u1.heap.size):=by rw [Hid,hu1];simpa using HS0.o
 rw [← hu1];clear hu1 HZ0 HR0 HB0 HS0 t0 t1 t2 t3 t4 t5 s0 s1 s2 s3 s4 s5 q0 q1 q2 q3 q4 q5 p0 p1 p2 p3 p4 p5;obtain ⟨t0,t1,t2,t3,t4,t5,s0,s1,s2,s3,s4,s5⟩:=HZ1.o;obtain ⟨q0,q1,q2,q3,q4,q5,p0,p1,p2,p3,p4,p5⟩:=HR1.o;go_wp2_with fail
 refine (K.prune a ac az n _ (HX.o _ HB1.o).az (by have:=HN.o.2.1;simpa using this)).mono ?_
 rintro e u2 ⟨b2,k2,rfl,o2,bb⟩;have HZ2:Hid _:=HZ1.o.below bb;have HR2:Hid _:=HR1.o.below bb;have HB2:Hid (BW w u2):=next HB1.o bb;have HO2:Hid _:=Bi o2 HS1.o;obtain ⟨L,hL⟩:∃ L,F.prune az n=L:=⟨_,rfl⟩;rw [hL] at HO2 ⊢;clear t0 t1 t2 t3 t4 t5 s0 s1 s2 s3 s4 s5 q0 q1 q2 q3 q4 q5 p0 p1 p2 p3 p4 p5 bb o2 HZ1 HR1 HB1;obtain ⟨t0,t1,t2,t3,t4,t5,s0,s1,s2,s3,s4,s5⟩:=HZ2.o;obtain ⟨q0,q1,q2,q3,q4,q5,p0,p1,p2,p3,p4,p5⟩:=HR2.o;go_upto_region 5 with fail
 obtain ⟨u3,hu3⟩:∃ u,u=u2.setCell ⟨w.heap.size,2,none⟩ (.slice b2 L.length k2):=⟨_,rfl⟩
 have HZ3:Hid (Z6 w.heap.size (.int .i64 n) (.slice o fo.length oc) (.slice b2 L.length k2) (.slice c cs.length cc) (.slice l ls.length lc) (.slice g lg.length gc) u3):=by rw [Hid,hu3];exact HZ2.o.set2 _
 have HR3:Hid (Z6 (w.heap.size+1) (.int .i64 0) (.slice none 0 0) (.slice none 0 0) (.slice none 0 0) (.slice none 0 0) (.slice none 0 0) u3):=by rw [Hid,hu3];exact HR2.o.far (by omega)
 have HB3:Hid (BW w u3):=by rw [Hid,hu3];exact HB2.o.setCell nL _
 have HO3:Hid (u3.ownsRow (w.heap.size+2) 107 6 (.slice b2 L.length k2) L.length (Ah L)):=by rw [Hid,hu3];exact Ad HO2.o (by omega)
 rw [← hu3];clear hu3 HZ2 HR2 HB2 HO2 t0 t1 t2 t3 t4 t5 s0 s1 s2 s3 s4 s5 q0 q1 q2 q3 q4 q5 p0 p1 p2 p3 p4 p5;obtain ⟨t0,t1,t2,t3,t4,t5,s0,s1,s2,s3,s4,s5⟩:=HZ3.o;obtain ⟨q0,q1,q2,q3,q4,q5,p0,p1,p2,p3,p4,p5⟩:=HR3.o;go_wp2
 refine bodyPost_ret (by simp [results,results141,go_sem,q0,q1,q2,q3,q4,q5];try rfl) rfl ?_
 rw [HE.o,hL]
 have bel:=Ax (R:=w.heap.size+1) (by omega) HB3.o
 have hX:=HX.o _ (bel (.int .i64 n) (.slice o fo.length oc) (.slice b2 L.length k2) (.slice c cs.length cc) (.slice l ls.length lc) (.slice g lg.length gc))
 exact ⟨⟨o,oc,b2,k2,c,cc,l,lc,g,gc⟩,rfl,⟨hX.off,Fd (Ea HO3.o (by omega) _ _ _ _ _ _),hX.cs,hX.ls,hX.log⟩,rfl,rfl,⟨rfl,.inr (fun x hx=>by have:=Cw HO3.o x hx;omega),.inl rfl,.inl rfl⟩,bel _ _ _ _ _ _⟩
def Fg (Rel:Bk→List UInt8→Bk×Int→Prop) (b:Bk) (line:List UInt8) (r:Bk×Int):Prop :=
 (600≤b.log.length∧r=(b,2))∨(b.log.length<600∧∃ s,Rel b line s∧((s.2≠0∧r=(b,s.2))∨(s.2=0∧r=(⟨s.1.today,s.1.off,s.1.az,s.1.cs,s.1.ls,b.log++[line]⟩,0))))
structure cB (Pre:Bk→Prop) (Rel:Bk→List UInt8→Bk×Int→Prop):Prop where
 log:∀ b l r,Rel b l r→r.1.log=b.log
 small:∀ b,Pre b→D0 b
 calls:∀ (b:Bk) (p:Bp) (line:List UInt8) (w:World),Aq w b p→Vb p w.heap.size→Pre b→line.length≤1048575 →
  Calls prog 84 #[C5 b p,.string ⟨line.toArray⟩] w fun e w'=>∃ r,Rel b line r∧U8 w p r.1 r.2 e w'
theorem Z6.grown {B:Nat} {v0 v1 v2 v3 v4 v5:Value} {u u':World} {row:Option Nat} (h:Z6 B v0 v1 v2 v3 v4 v5 u) (g:u.grownBy u' row) (hr:some B≠row):Z6 B v0 v1 v2 v3 v4 v5 u':=by
 have l:=h.lt;obtain ⟨c0,c1,c2,c3,c4,c5,z0,z1,z2,z3,z4,z5⟩:=h;exact ⟨(g.cell_far ⟨B,0,none⟩ l hr).trans c0,(g.cell_far ⟨B,1,none⟩ l hr).trans c1,(g.cell_far ⟨B,2,none⟩ l hr).trans c2,(g.cell_far ⟨B,3,none⟩ l hr).trans c3,(g.cell_far ⟨B,4,none⟩ l hr).trans c4,(g.cell_far ⟨B,5,none⟩ l hr).trans c5,(g.frozen_far ⟨B,0,none⟩ l hr).trans z0,(g.frozen_far ⟨B,1,none⟩ l hr).trans z1,(g.frozen_far ⟨B,2,none⟩ l hr).trans z2,(g.frozen_far ⟨B,3,none⟩ l hr).trans z3,(g.frozen_far ⟨B,4,none⟩ l hr).trans z4,(g.frozen_far ⟨B,5,none⟩ l hr).trans z5⟩
theorem aC {u u':World} {row:Option Nat} {T i:Nat} {x:Value} (h:u.grownBy u' row) (hT:u.heap.size≤T):u.grownBy (u'.setCell ⟨T,i,none⟩ x) row :=
 ⟨h.os,h.tape,h.output,by simpa using h.size,fun j hj hne=>(Below.heap_setCell _ _ _ _ (fun e=>by have:j=T:=e;omega)).trans (h.block j hj hne)⟩
theorem Mz {a a1:Option Addr} {n base B:Nat} (h:a=a1∨Cm a n) (h1:Dt a1 base) (hb:base≤B) (hB:B<n):Im a B:=by
 rcases h with rfl | h
 ·exact Td h1 hb
 ·exact Bb h hB
theorem Ky {a a1:Option Addr} {n B:Nat} (h:a=a1∨Cm a n) (h1:Im a1 B) (hB:B<n):Im a B:=by
 rcases h with rfl | h
 ·exact h1
 ·exact Bb h hB
structure Tp (Pre:Bk→Prop) (Pay:Bk→Int→Int→Int→Int→Bk×Int→Prop) (Act:Bk→Int→Ac→Bk×Int):Prop where
 pay:∀ (b:Bk) (p:Bp) (g k:Nat) (n0 n1 n2 n3:Int) (w:World),Aq w b p→Vb p w.heap.size→Pre b→w.cell? ⟨g,0,none⟩=some (.int .i64 n0)→w.cell? ⟨g,1,none⟩=some (.int .i64 n1)→w.cell? ⟨g,2,none⟩=some (.int .i64 n2)→w.cell? ⟨g,3,none⟩=some (.int .i64 n3)→n3<1000000000000000000→-1≤n3 →
  Calls prog 144 #[C5 b p,.slice (some ⟨g,0,none⟩) 4 k] w fun e w'=>∃ r,Pay b n0 n1 n2 n3 r∧U8 w p r.1 r.2 e w'
 act:∀ (b:Bk) (p:Bp) (i:Int) (x:Ac) (w:World),Aq w b p→Vb p w.heap.size→Pre b→Calls prog 146 #[C5 b p,.int .i64 i,av x] w (U8 w p (Act b i x).1 (Act b i x).2)
theorem Cm.mono {a:Option Addr} {n m:Nat} (h:Cm a n) (hm:m≤n):Cm a m:=fun x hx=>by have:=h x hx;omega
theorem Vb.mono {p:Bp} {n m:Nat} (h:Vb p n) (hm:n≤m):Vb p m:=⟨h.o.mono hm,h.a.mono hm,h.c.mono hm,h.l.mono hm,h.g.mono hm⟩
theorem Dz {u:World} {R:Nat} {p:Addr} {v:Value} (h:u.cell? p=some v) (hne:p.block≠R) (x0 x1 x2 x3 x4 x5:Value) :
  ((((((u.setCell ⟨R,0,none⟩ x0).setCell ⟨R,1,none⟩ x1).setCell ⟨R,2,none⟩ x2).setCell ⟨R,3,none⟩ x3).setCell ⟨R,4,none⟩ x4).setCell ⟨R,5,none⟩ x5).cell? p=some v:=by
 have s:∀ (y:World) (i:Nat) (x:Value),y.cell? p=some v→(y.setCell ⟨R,i,none⟩ x).cell? p=some v:=fun y i x hy=>((An y R i x).cell_far p (World.block_lt_of_cell? y _ hy) (by simp;exact hne)).trans hy
 exact s _ _ _ (s _ _ _ (s _ _ _ (s _ _ _ (s _ _ _ (s _ _ _ h)))))
theorem Qp {w u u4:World} {p q:Bp} {b':Bk} {code:Int} {R:Nat} (hah:Vb p w.heap.size) (hwu:BW w u) (hR:w.heap.size≤R) (hRu:R<u.heap.size) (hb:Aq u4 b' q) (hg:q.g=p.g) (hgc:q.gc=p.gc)
  (hpt:q.o=p.o∧(q.a=p.a∨Cm q.a u.heap.size)∧(q.c=p.c∨Cm q.c u.heap.size)∧(q.l=p.l∨Cm q.l u.heap.size)) (b4:BW u u4) (x0 x1 x2 x3 x4 x5:Value) :
  U8 w p b' code (.returned (.tuple #[C5 b' q,.int .i64 code])) ((((((u4.setCell ⟨R,0,none⟩ x0).setCell ⟨R,1,none⟩ x1).setCell ⟨R,2,none⟩ x2).setCell ⟨R,3,none⟩ x3).setCell ⟨R,4,none⟩ x4).setCell ⟨R,5,none⟩ x5) :=
 ⟨q,rfl,hb.put6 (nX hah hg hpt hR hRu) _ _ _ _ _ _,hg,hgc,⟨hpt.1,hpt.2.1.imp id (fun h=>h.mono hwu.size),hpt.2.2.1.imp id (fun h=>h.mono hwu.size),hpt.2.2.2.imp id (fun h=>h.mono hwu.size)⟩,Ax hR (next hwu b4) _ _ _ _ _ _⟩
theorem Kd:∃ i,prog.info? 269=some i∧i.zero=some (.agg #[.int .i64 0,.int .i64 0,.int .i64 0,.int .i64 0])∧i.size=4∧i.bytes=32:=by
 obtain ⟨i,h1,h2⟩:=Option.map_eq_some_iff.1 sI
 simp only [Prod.mk.injEq] at h2
 exact ⟨i,h1,h2.1,h2.2.1,h2.2.2⟩
theorem Q1 (x y z t:Int):∀ u ∈ [Value.int .i64 x,.int .i64 y,.int .i64 z,.int .i64 t],u.oneCell'=true:=by
 intro u hu
 simp at hu
 rcases hu with rfl | rfl | rfl | rfl <;> rfl
theorem Jg {P:Program} {ops:Array Oper} {o:Oper} {a:Act} {w:World} {K:Act→World→Prop} {Q:Exit→Act→World→Prop} {E:Prop}
  (hg:o.guard=none) (s x:Operand) (t:TypeId) (ho:o.op=Op.call { callee:=Callee.builtin Builtin.append,args:=#[s,x],argTypes:=#[t,t] })
  (base:Nat) (e:TypeId) (i:TypeInfo) (z:Value) (size bytes:Nat) (ht:P.underlying t=some (.slice e)) (hi:P.info? e=some i) (hz:i.zero=some z)
  (hsize:i.size=size) (hby:i.bytes=bytes) (hzs:z.cells.size=size) (hsz:0<size)
  (v:Value) (n:Nat) (xs:List Value) (hs:a.eval s=v) (hown:w.ownsRow base e size v n xs)
  (ad:Addr) (m c:Nat) (news:List Value) (hx:a.eval x=.slice (some ad) m c) (hl:news.length=m*size) (hnews:∀ j u,news[j]?=some u→w.cell? (ad.add j)=some u) (h1:∀ u ∈ news,u.oneCell'=true)
  (h63:n+m≤maxLen) (hbytes:(n+m) * bytes≤140737488355328) (hbase:base≤w.heap.size)
  (h:∀ v' w',w'.ownsRow base e size v' (n+m) (xs++news)→w.grownBy w' v.ownBlock→(v'=.slice none 0 0 ↔ v=.slice none 0 0∧m=0)→K (a.put o.dst v') w') :
  if Region.wanted o (yielded ops a.tmps)=true then Oper.wp P o a w K Q else E:=by
 rw [if_pos (by simp [Region.wanted,hg])]
 exact wp_append_own w s x t ho base e i z size bytes ht hi hz hsize hby hzs hsz v n xs hs hown ad m c news hx hl hnews h1 h63 hbytes hbase h
theorem Lt (a b:List En):Ba (a++b)=Ba a++Ba b:=by simp [Ba]
def H0 (c:Cs) (es:List En) (f g s:Int):List En:=if 0<s then es++[(f,g,c.cur,s)] else es
theorem Qy {c:Cs} {a:Ac} {t:Int} {zs:List Int} {p q l:Bool} (h1:(!Oy a.rsn || (E8 a.rsn && !E4 c t))=p) (h2:(decide (a.am<1) || (decide (c.am<a.am) || (decide (a.am<c.am) && !Gb a.rsn)))=q) (h3:Bv t (C6 c.sta (Fs a.rsn) zs)=l) :
  Bs c a t zs=if p=true then 3 else if q=true then 2 else if l=true then 4 else 0:=by
 unfold Bs;rw [h3]
 have e1:(Oy a.rsn=false∨(E8 a.rsn=true∧E4 c t=false)) ↔ p=true:=by rw [← h1];simp
 have e2:(¬ (1≤a.am∧a.am≤c.am)∨(a.am<c.am∧Gb a.rsn=false)) ↔ q=true:=by
  rw [← h2]
  cases Gb a.rsn
  ·simp;omega
  ·simp;omega
 simp only [e1,e2]
theorem Bn (u:World) (b i:Nat) (x:Value):Below b u (u.setCell ⟨b,i,none⟩ x):=Below.setCell (Below.refl b u) (show b≤b from Nat.le_refl b) x
def Dd (c:Cs) (a:Ac) (t:Int):Int:=if Bv t c.due=true then 4 else if 1≤a.am∧a.am≤c.cl then 0 else 2
theorem Sj {c:Cs} {a:Ac} {t:Int} (h:Dd c a t=0):1≤a.am∧a.am≤c.cl:=by
 unfold Dd at h
 split at h
 ·cases h
 ·split at h
  ·assumption
  ·cases h
theorem CB.under {s o B:Nat} {c:Cs} {u u':World} (h:CB s o c u) (b:Below B u u') (l:s<B):CB s o c u' :=
 ⟨(b.cell (p:=⟨s,o,none⟩) l).trans h.f0,(b.cell (p:=⟨s,o+1,none⟩) l).trans h.f1,(b.cell (p:=⟨s,o+2,none⟩) l).trans h.f2,(b.cell (p:=⟨s,o+3,none⟩) l).trans h.f3,(b.cell (p:=⟨s,o+4,none⟩) l).trans h.f4,(b.cell (p:=⟨s,o+5,none⟩) l).trans h.f5,(b.cell (p:=⟨s,o+6,none⟩) l).trans h.f6,(b.cell (p:=⟨s,o+7,none⟩) l).trans h.f7,(b.cell (p:=⟨s,o+8,none⟩) l).trans h.f8,(b.cell (p:=⟨s,o+9,none⟩) l).trans h.f9,(b.cell (p:=⟨s,o+10,none⟩) l).trans h.f10,(b.cell (p:=⟨s,o+11,none⟩) l).trans h.f11⟩
theorem FZ.under {s o B:Nat} {u u':World} (h:FZ s o u) (b:Below B u u') (l:s<B):FZ s o u' :=
 ⟨(b.frozen (p:=⟨s,o,none⟩) l).trans h.z0,(b.frozen (p:=⟨s,o+1,none⟩) l).trans h.z1,(b.frozen (p:=⟨s,o+2,none⟩) l).trans h.z2,(b.frozen (p:=⟨s,o+3,none⟩) l).trans h.z3,(b.frozen (p:=⟨s,o+4,none⟩) l).trans h.z4,(b.frozen (p:=⟨s,o+5,none⟩) l).trans h.z5,(b.frozen (p:=⟨s,o+6,none⟩) l).trans h.z6,(b.frozen (p:=⟨s,o+7,none⟩) l).trans h.z7,(b.frozen (p:=⟨s,o+8,none⟩) l).trans h.z8,(b.frozen (p:=⟨s,o+9,none⟩) l).trans h.z9,(b.frozen (p:=⟨s,o+10,none⟩) l).trans h.z10,(b.frozen (p:=⟨s,o+11,none⟩) l).trans h.z11⟩
structure BX (s:Nat) (c:Cs) (a:Ac) (u:World):Prop where
 cb:CB s 0 c u
 a0:u.cell? ⟨s+1,0,none⟩=some (.int .i64 a.kind)
 a1:u.cell? ⟨s+1,1,none⟩=some (.int .i64 a.am)
 a2:u.cell? ⟨s+1,2,none⟩=some (.int .i64 a.rsn)
 rb:CB (s+1+1) 0 Br u
 rz:FZ (s+1+1) 0 u
theorem BX.under {s B:Nat} {c:Cs} {a:Ac} {u u':World} (h:BX s c a u) (b:Below B u u') (l:s+1+1<B):BX s c a u' :=
 ⟨h.cb.under b (by omega),(b.cell (p:=⟨s+1,0,none⟩) (by show s+1<B;omega)).trans h.a0,(b.cell (p:=⟨s+1,1,none⟩) (by show s+1<B;omega)).trans h.a1,(b.cell (p:=⟨s+1,2,none⟩) (by show s+1<B;omega)).trans h.a2,h.rb.under b l,h.rz.under b l⟩
theorem BX.below {s:Nat} {c:Cs} {a:Ac} {u u':World} (h:BX s c a u) (b:BW u u'):BX s c a u':=h.under b h.rb.lt
theorem BX.new (w:World) (c:Cs) (a:Ac) (t1 t2 t3:TypeId):BX w.heap.size c a (((w.alloc (.cells #[.int .i64 c.iss,.int .i64 c.acq,.int .i64 c.cur,.int .i64 c.am,.int .i64 c.st,.int .i64 c.rsn,.int .i64 c.cl,.int .i64 c.bk,.int .i64 c.fee,.bool c.cop,.int .i64 c.sta,.int .i64 c.due] t1)).alloc (.cells #[.int .i64 a.kind,.int .i64 a.am,.int .i64 a.rsn] t2)).alloc (.cells #[.int .i64 0,.int .i64 0,.int .i64 0,.int .i64 0,.int .i64 0,.int .i64 0,.int .i64 0,.int .i64 0,.int .i64 0,.bool false,.int .i64 0,.int .i64 0] t3)):=by
 have h1:=CB.new w c t1
 have b1:∀ (u:World) (o:Obj),Below u.heap.size u (u.alloc o):=fun u o=>bR.alloc nL _
 have e2:((w.alloc (.cells #[.int .i64 c.iss,.int .i64 c.acq,.int .i64 c.cur,.int .i64 c.am,.int .i64 c.st,.int .i64 c.rsn,.int .i64 c.cl,.int .i64 c.bk,.int .i64 c.fee,.bool c.cop,.int .i64 c.sta,.int .i64 c.due] t1)).alloc (.cells #[.int .i64 a.kind,.int .i64 a.am,.int .i64 a.rsn] t2)).heap.size=w.heap.size+1+1:=by simp
 refine ⟨(h1.below (b1 _ _)).below (b1 _ _),by simp [go_sem],by simp [go_sem],by simp [go_sem],?_,?_⟩
 ·have h3:=CB.new ((w.alloc (.cells #[.int .i64 c.iss,.int .i64 c.acq,.int .i64 c.cur,.int .i64 c.am,.int .i64 c.st,.int .i64 c.rsn,.int .i64 c.cl,.int .i64 c.bk,.int .i64 c.fee,.bool c.cop,.int .i64 c.sta,.int .i64 c.due] t1)).alloc (.cells #[.int .i64 a.kind,.int .i64 a.am,.int .i64 a.rsn] t2)) Br t3
  rw [e2] at h3;exact h3
 ·have h3:=FZ.new ((w.alloc (.cells #[.int .i64 c.iss,.int .i64 c.acq,.int .i64 c.cur,.int .i64 c.am,.int .i64 c.st,.int .i64 c.rsn,.int .i64 c.cl,.int .i64 c.bk,.int .i64 c.fee,.bool c.cop,.int .i64 c.sta,.int .i64 c.due] t1)).alloc (.cells #[.int .i64 a.kind,.int .i64 a.am,.int .i64 a.rsn] t2)) #[.int .i64 0,.int .i64 0,.int .i64 0,.int .i64 0,.int .i64 0,.int .i64 0,.int .i64 0,.int .i64 0,.int .i64 0,.bool false,.int .i64 0,.int .i64 0] t3
  rw [e2] at h3;exact h3
theorem dU (c:Cs) (a:Ac) (t:Int) (zs:List Int):(Bx c a t zs).cur=c.cur:=by
 unfold Bx
 repeat' split
 all_goals first | rfl | (unfold Cx;repeat' split) 
 all_goals rfl
def pM (w:World) (c:Cs) (es:List En) (r:Int) (e:Ending) (w':World):Prop :=
 ∃ ao cap,e=.returned (.tuple #[cv c,.slice ao es.length cap,.int .i64 r])∧w'.ownsRow w.heap.size 269 4 (.slice ao es.length cap) es.length (Ba es)∧BW w w'
theorem Ek {w u:World} {c:Cs} {es:List En} {r:Int} {ao:Option Addr} {cap base:Nat} (hb:w.heap.size+1+1<base) (ho:u.ownsRow base 269 4 (.slice ao es.length cap) es.length (Ba es)) (bel:BW w u) :
  pM w c es r (.returned (.tuple #[cv c,.slice ao es.length cap,.int .i64 r])) (Cz u (w.heap.size+1+1) c) :=
 ⟨ao,cap,rfl,Bi (F3 c ho (fun g hg=>by have:=(ho.lt g hg).1;omega)) (by omega),Cp c bel (by omega)⟩
theorem tQ {w u:World} {c:Cs} {es:List En} {r:Int} {e:Ending} (h:pM w c es r e u):pM w c es r e u.drew:=by
 obtain ⟨ao,cap,he,ho,hb⟩:=h;exact ⟨ao,cap,he,Av ho (bR.drew),hb.drew⟩
def Jl (w:World) (ls:List Ln) (ok:Bool) (e:Ending) (w':World):Prop :=
 ∃ ao cap,e=.returned (.tuple #[.agg #[.slice ao ls.length cap],.bool ok])∧w'.ownsRow w.heap.size 113 3 (.slice ao ls.length cap) ls.length (Ag ls)∧BW w w'
structure PB (s:Nat) (ao:Option Addr) (cap n:Nat) (a b c m:Int) (u:World):Prop where
 l0:u.cell? ⟨s,0,none⟩=some (.slice ao n cap)
 e0:u.cell? ⟨s+1,0,none⟩=some (.int .i64 a)
 e1:u.cell? ⟨s+1,1,none⟩=some (.int .i64 b)
 e2:u.cell? ⟨s+1,2,none⟩=some (.int .i64 c)
 e3:u.cell? ⟨s+1,3,none⟩=some (.int .i64 m)
 r0:u.cell? ⟨s+1+1,0,none⟩=some (.slice none 0 0)
 rf:u.frozen? ⟨s+1+1,0,none⟩=false
 sz:s+1+1<u.heap.size
theorem PB.below {s:Nat} {ao:Option Addr} {cap n:Nat} {a b c m:Int} {u u':World} (h:PB s ao cap n a b c m u) (hb:BW u u'):PB s ao cap n a b c m u':=by
 have h1:=h.sz
 exact ⟨(hb.cell (p:=⟨s,0,none⟩) (by show s<u.heap.size;omega)).trans h.l0,(hb.cell (p:=⟨s+1,0,none⟩) (by show s+1<u.heap.size;omega)).trans h.e0,(hb.cell (p:=⟨s+1,1,none⟩) (by show s+1<u.heap.size;omega)).trans h.e1,
  (hb.cell (p:=⟨s+1,2,none⟩) (by show s+1<u.heap.size;omega)).trans h.e2,(hb.cell (p:=⟨s+1,3,none⟩) (by show s+1<u.heap.size;omega)).trans h.e3,(hb.cell (p:=⟨s+1+1,0,none⟩) h1).trans h.r0,(hb.frozen (p:=⟨s+1+1,0,none⟩) h1).trans h.rf,Nat.lt_of_lt_of_le h1 hb.size⟩
theorem Gd {w u:World} {ls gs:List Ln} {ok:Bool} {ao:Option Addr} {cap base:Nat} (hg:gs=ls) (ho:u.ownsRow base 113 3 (.slice ao ls.length cap) ls.length (Ag ls)) (hb:w.heap.size+1+1<base) (bel:BW w u) :
  Jl w gs ok (.returned (.tuple #[.agg #[.slice ao ls.length cap],.bool ok])) (u.setCell ⟨w.heap.size+1+1,0,none⟩ (.slice ao ls.length cap)):=by
 subst hg
 exact ⟨ao,cap,rfl,Bi (A5 ho _ _ (fun g hg=>by have:=(ho.lt g hg).1;simp only;omega)) (by omega),bel.setCell (by show w.heap.size≤w.heap.size+1+1;omega) _⟩
theorem Hs {ls:List Ln} {e:En} (h:Cj ls e=false):Gg ls e=ls:=if_neg (by rw [h];decide)
theorem N9 {ls:List Ln} {e:En} (h:Cj ls e=true):Gg ls e=G5 ls e:=if_pos h
theorem P0 {ls:List Ln} {a c m:Int} : ∀ x ∈ Cr ls a c m,x ∈ ls∨x.2.2=m∨∃ y ∈ ls,x.2.2=y.2.2+m:=by
 induction ls with
 | nil=>intro x hx;simp [Cr] at hx;subst hx;exact .inr (.inl rfl)
 | cons y r ih =>
  intro x hx
  simp only [Cr] at hx
  split at hx
  ·split at hx
   ·split at hx
    ·rcases List.mem_cons.1 hx with rfl | h
     ·exact .inr (.inr ⟨y,List.mem_cons_self ..,rfl⟩)
     ·exact .inl (List.mem_cons_of_mem _ h)
    ·exact .inl (List.mem_cons_of_mem _ hx)
   ·rcases List.mem_cons.1 hx with rfl | h
    ·exact .inr (.inl rfl)
    ·exact .inl h
  ·rcases List.mem_cons.1 hx with rfl | h
   ·exact .inl (List.mem_cons_self ..)
   ·rcases ih x h with h | h | ⟨z,hz,h⟩
    ·exact .inl (List.mem_cons_of_mem _ h)
    ·exact .inr (.inl h)
    ·exact .inr (.inr ⟨z,List.mem_cons_of_mem _ hz,h⟩)
theorem Dq {ls:List Ln} (h:At ls=true):Az none ls=true∧ls.length≤400∧Wo ls=true:=by
 simp only [At,Bool.and_eq_true,decide_eq_true_eq] at h
 exact ⟨h.1,h.2.1,h.2.2⟩
theorem Lq {e:En} (h:Bt e=true):Cb e.1=true∧Cb e.2.1=true∧e.1≠e.2.1∧0≤Dc e.2.2.1∧1≤e.2.2.2∧e.2.2.2≤1000000000000:=by
 simp only [Bt,Bool.and_eq_true,decide_eq_true_eq] at h
 exact ⟨h.1,h.2.1,h.2.2.1,h.2.2.2.1,h.2.2.2.2⟩
theorem eE (ao:Option Addr) (cap:Nat) (ls:List Ln) (a b c m:Int) (w:World) (hz:Ai w ao ls) (hn:ls.length≤1048576) :
  Calls prog 220 #[.agg #[.slice ao ls.length cap],.agg #[.int .i64 a,.int .i64 b,.int .i64 c,.int .i64 m]] w (Jl w (Gg ls (a,b,c,m)) (Cj ls (a,b,c,m))):=by
 obtain ⟨W,hW⟩:∃ W,W=((w.alloc (.cells #[.slice ao ls.length cap] 29)).alloc (.cells #[.int .i64 a,.int .i64 b,.int .i64 c,.int .i64 m] 269)).alloc (.cells #[.slice none 0 0] 29):=⟨_,rfl⟩
 have bW:BW w W:=by rw [hW];go_grown
 have PW:PB w.heap.size ao cap ls.length a b c m W:=by
  rw [hW];exact ⟨by simp [go_sem],by simp [go_sem],by simp [go_sem],by simp [go_sem],by simp [go_sem],by simp [go_sem],by simp [go_sem],by simp⟩
 have HZ:Hid (Ai W ao ls):=hz.below bW;have HW:Hid _:=hW;have l0:=PW.l0;have HPW:Hid _:=PW;clear hz hW PW
 cases hL:At ls
 ·have hno:Cj ls (a,b,c,m)=false:=by simp [Cj,hL]
  have HNL:Hid _:=Hs hno;rw [hno];have HL:Hid _:=hL
  have HC:Hid (Calls prog 260 #[.agg #[.slice ao ls.length cap]] W fun e w'=>e=.returned (.bool false)∧BW W w'):=by
   have h:=Ik ao cap ls W HZ.o (by omega)
   rw [hL] at h;exact h
  clear hno hL
  go_enter func220,ntmps220
  go_upto_region 1 with fail
  rw [← HW.o];go_wp2_with fail
  refine HC.o.mono ?_;rintro e w1 ⟨rfl,b1⟩;have P1:=HPW.o.below b1;have q1:=next bW b1;have HZ1:Hid (Ai w1 ao ls):=HZ.o.below b1;have j0:=P1.l0;have HP1:Hid _:=P1;clear HC b1 P1 l0;go_wp2_with fail
  refine (Hh ao cap ls w1 HZ1.o (by omega)).mono ?_
  rintro e w2 ⟨g2,c2,rfl,o2,b2⟩;have P2:=HP1.o.below b2;have r0:=P2.r0;have rf:=P2.rf;have HE:Hid _:=Gd (w:=w) (ok:=false) HNL.o o2 HP1.o.sz (next q1 b2);clear o2 b2 P2 j0;go_wp2
  refine bodyPost_ret (by simp [results,results220,go_sem,r0];try rfl) rfl ?_
  exact HE.o
 have HCL:Hid (Calls prog 260 #[.agg #[.slice ao ls.length cap]] W fun e w'=>e=.returned (.bool true)∧BW W w'):=by
  have h:=Ik ao cap ls W HZ.o (by omega)
  rw [hL] at h;exact h
 cases hE:Bt (a,b,c,m)
 ·have hno:Cj ls (a,b,c,m)=false:=by simp [Cj,hE]
  have HNL:Hid _:=Hs hno;rw [hno];have HEO:Hid _:=hE;clear hno hL hE
  go_enter func220,ntmps220
  go_upto_region 1 with fail
  rw [← HW.o];go_wp2_with fail
  refine HCL.o.mono ?_;rintro e w1 ⟨rfl,b1⟩;have P1:=HPW.o.below b1;have q1:=next bW b1;have HZ1:Hid (Ai w1 ao ls):=HZ.o.below b1;have k0:=P1.e0;have k1:=P1.e1;have k2:=P1.e2;have k3:=P1.e3
  have HCE:Hid (Calls prog 261 #[.agg #[.int .i64 a,.int .i64 b,.int .i64 c,.int .i64 m]] w1 fun e w'=>e=.returned (.bool false)∧BW w1 w'):=by
   have h:=Nf a b c m w1;rw [HEO.o] at h;exact h
  have HP1:Hid _:=P1;clear HCL b1 P1 l0;go_wp2_with fail
  refine HCE.o.mono ?_;rintro e w2 ⟨rfl,b2⟩;have P2:=HP1.o.below b2;have q2:=next q1 b2;have HZ2:Hid (Ai w2 ao ls):=HZ1.o.below b2;have j0:=P2.l0;have HP2:Hid _:=P2;clear HCE b2 P2 k0 k1 k2 k3;go_wp2_with fail
  refine (Hh ao cap ls w2 HZ2.o (by omega)).mono ?_
  rintro e w3 ⟨g3,c3,rfl,o3,b3⟩;have P3:=HP2.o.below b3;have r0:=P3.r0;have rf:=P3.rf;have HE:Hid _:=Gd (w:=w) (ok:=false) HNL.o o3 HP2.o.sz (next q2 b3);clear o3 b3 P3 j0;go_wp2
  refine bodyPost_ret (by simp [results,results220,go_sem,r0];try rfl) rfl ?_
  exact HE.o
 ·obtain ⟨hl1,hl2,_⟩:=Dq hL
  obtain ⟨_,_,_,_,hm1,hm2⟩:=Lq hE
  simp only at hm1 hm2
  have hbd:∀ x ∈ ls,-1000000000000≤x.2.2∧x.2.2≤1000000000000:=fun x hx=>(Ig (Dv hl1 x hx)).2.2.1
  have HB1:Hid (∀ x ∈ ls,-4000000000000≤x.2.2∧x.2.2≤4000000000000):=fun x hx=>by have:=hbd x hx;omega
  have HB2:Hid (∀ x ∈ Cr ls a c (-m),-4000000000000≤x.2.2∧x.2.2≤4000000000000):=fun x hx=>by
   rcases P0 x hx with h | h | ⟨y,hy,h⟩
   ·have:=hbd x h;omega
   ·omega
   ·have:=hbd y hy;omega
  have hla:=Mp ls a c (-m);have hlb:=Mp (Cr ls a c (-m)) b c m;have HPT:Hid (G5 ls (a,b,c,m)=Cr (Cr ls a c (-m)) b c m):=rfl
  have HPO:Hid (Cj ls (a,b,c,m)=At (Cr (Cr ls a c (-m)) b c m)):=by rw [Hid,Cj,hL,hE];rfl
  obtain ⟨A1,hA1⟩:∃ A1,Cr ls a c (-m)=A1:=⟨_,rfl⟩;rw [hA1] at HB2 hla hlb HPT HPO;obtain ⟨A,hA⟩:∃ A,Cr A1 b c m=A:=⟨_,rfl⟩;rw [hA] at hlb HPT HPO;have HA1:Hid _:=hA1;have HA:Hid _:=hA;have HEO:Hid _:=hE
  have hAb:A.length≤402:=by omega
  have hA1b:A1.length≤401:=by omega
  clear hL hE hl1 hbd hla hlb hA1 hA
  have hwn:IntKind.i64.wrap (-m) = -m:=by simp [IntKind.wrap,IntKind.bits,IntKind.signed];omega
  go_enter func220,ntmps220
  go_upto_region 1 with fail
  rw [← HW.o];go_wp2_with fail
  refine HCL.o.mono ?_;rintro e w1 ⟨rfl,b1⟩;have P1:=HPW.o.below b1;have q1:=next bW b1;have HZ1:Hid (Ai w1 ao ls):=HZ.o.below b1;have k0:=P1.e0;have k1:=P1.e1;have k2:=P1.e2;have k3:=P1.e3
  have HCE:Hid (Calls prog 261 #[.agg #[.int .i64 a,.int .i64 b,.int .i64 c,.int .i64 m]] w1 fun e w'=>e=.returned (.bool true)∧BW w1 w'):=by
   have h:=Nf a b c m w1;rw [HEO.o] at h;exact h
  have HP1:Hid _:=P1;clear HCL b1 P1 l0;go_wp2_with fail
  refine HCE.o.mono ?_;rintro e w2 ⟨rfl,b2⟩;have P2:=HP1.o.below b2;have q2:=next q1 b2;have HZ2:Hid (Ai w2 ao ls):=HZ1.o.below b2;have j0:=P2.l0;have i0:=P2.e0;have i1:=P2.e1;have i2:=P2.e2;have i3:=P2.e3;have HP2:Hid _:=P2
  have H1:Hid (Calls prog 262 #[.slice ao ls.length cap,.int .i64 a,.int .i64 c,.int .i64 (-m)] w2.drew fun e w'=>∃ g cap',e=.returned (.slice g A1.length cap')∧w'.ownsRow w2.heap.size 113 3 (.slice g A1.length cap') A1.length (Ag A1)∧BW w2 w'):=by
   have h:=Tf ao cap ls a c (-m) w2.drew (HZ2.o.below (bR.drew)) hn (by omega) HB1.o
   rw [HA1.o] at h;refine h.mono ?_;rintro e w' ⟨g,k,rfl,o,bb⟩;exact ⟨g,k,rfl,o,(bR.drew).trans bb⟩
  have HK2:Hid (∀ (w3:World) (g3:Option Addr) (c3:Nat),w3.ownsRow w2.heap.size 113 3 (.slice g3 A1.length c3) A1.length (Ag A1)→BW w2 w3→Calls prog 262 #[.slice g3 A1.length c3,.int .i64 b,.int .i64 c,.int .i64 m] w3 fun e w'=>∃ g cap',e=.returned (.slice g A.length cap')∧w'.ownsRow w2.heap.size 113 3 (.slice g A.length cap') A.length (Ag A)∧BW w2 w'):=fun w3 g3 c3 o3 b3=>by
   have h:=Tf g3 c3 A1 b c m w3 (Df o3) (by omega) ⟨by omega,by omega⟩ HB2.o
   rw [HA.o] at h;refine h.mono ?_;rintro e w' ⟨g,k,rfl,o,bb⟩;exact ⟨g,k,rfl,Bi o b3.size,b3.trans (bb.mono b3.size)⟩
  clear HCE b2 P2 k0 k1 k2 k3 HB1 HB2;go_upto_region 3 with fail
  go_region_held3 (fun u=>u.cell? ⟨w.heap.size,0,none⟩=some (.slice ao ls.length cap)∧u.cell? ⟨w.heap.size+1,0,none⟩=some (.int .i64 a)∧u.cell? ⟨w.heap.size+1,1,none⟩=some (.int .i64 b)∧u.cell? ⟨w.heap.size+1,2,none⟩=some (.int .i64 c)∧u.cell? ⟨w.heap.size+1,3,none⟩=some (.int .i64 m)) (first | exact ⟨j0,i0,i1,i2,i3⟩ | exact ⟨(HP2.o.below b4).l0,(HP2.o.below b4).e0,(HP2.o.below b4).e1,(HP2.o.below b4).e2,(HP2.o.below b4).e3⟩ | exact ⟨(HP2.o.below b3).l0,(HP2.o.below b3).e0,(HP2.o.below b3).e1,(HP2.o.below b3).e2,(HP2.o.below b3).e3⟩) ((first
   | (go_at_call_of 262 (Value.int .i64 (-m));refine H1.o.mono ?_;rintro e w3 ⟨g3,c3,rfl,o3,b3⟩;have H2:Hid (Calls prog 262 #[.slice g3 A1.length c3,.int .i64 b,.int .i64 c,.int .i64 m] w3 fun e w'=>∃ g cap',e=.returned (.slice g A.length cap')∧w'.ownsRow w2.heap.size 113 3 (.slice g A.length cap') A.length (Ag A)∧BW w2 w'):=HK2.o w3 g3 c3 o3 b3;clear o3)
   | (go_at_call 262;refine H2.o.mono ?_;rintro e w4 ⟨g4,c4,rfl,o4,b4⟩;have HO4:Hid (w4.ownsRow w2.heap.size 113 3 (.slice g4 A.length c4) A.length (Ag A)):=o4;clear o4)))
  all_goals
   obtain ⟨u,hu⟩:∃ x,x=w4:=⟨_,rfl⟩;subst hu;have g:=g4;obtain ⟨g,hg⟩:∃ g,g=g4:=⟨_,rfl⟩;obtain ⟨k,hk⟩:∃ k,k=c4:=⟨_,rfl⟩;subst hg hk;have o5:=HO4.o;have b5:=b4;clear b4 HO4 H1 H2 HK2 b3;have P5:=HP2.o.below b5;have q5:=next q2 b5;have HO5:Hid (u.ownsRow w2.heap.size 113 3 (.slice g A.length k) A.length (Ag A)):=o5;obtain ⟨V,hV⟩:∃ V,V=u.alloc (.cells #[.slice g A.length k] 29):=⟨_,rfl⟩
   have bV:BW u V:=by rw [hV];go_grown
   have v0:V.cell? ⟨u.heap.size,0,none⟩=some (.slice g A.length k):=by rw [hV];simp
   have PV:=P5.below bV;have qV:=next q5 bV;have HOV:Hid (V.ownsRow w2.heap.size 113 3 (.slice g A.length k) A.length (Ag A)):=Av o5 bV;have HZV:Hid (Ai V ao ls):=(HZ2.o.below b5).below bV;have HPV:Hid _:=PV
   have HCL2:Hid (Calls prog 260 #[.agg #[.slice g A.length k]] V fun e w'=>e=.returned (.bool (At A))∧BW V w'):=Ik g k A V (Df HOV.o) (by omega)
   have hs2:w.heap.size+1+1<w2.heap.size:=HP2.o.sz;clear o5 b5 bV P5 PV q5 j0 i0 i1 i2 i3;go_upto_region 5 with fail
   rw [← hV];clear hV
   cases hLA:At A
   ·have hno:Cj ls (a,b,c,m)=false:=HPO.o.trans hLA
    have HNL:Hid _:=Hs hno;have HNO:Hid _:=hno;rw [hLA] at HCL2;clear hno hLA;go_wp2_with fail
    refine HCL2.o.mono ?_;rintro e w6 ⟨rfl,b6⟩;have P6:=HPV.o.below b6;have q6:=next qV b6;have HZ6:Hid (Ai w6 ao ls):=HZV.o.below b6;have j0:=P6.l0;have HP6:Hid _:=P6;clear HCL2 b6 P6 v0;go_wp2_with fail
    refine (Hh ao cap ls w6 HZ6.o (by omega)).mono ?_
    rintro e w7 ⟨g7,c7,rfl,o7,b7⟩;have P7:=HP6.o.below b7;have r0:=P7.r0;have rf:=P7.rf;have HE:Hid _:=Gd (w:=w) (ok:=false) HNL.o o7 HP6.o.sz (next q6 b7);clear o7 b7 P7 j0;go_wp2
    refine bodyPost_ret (by simp [results,results220,go_sem,r0];try rfl) rfl ?_
    rw [HNO.o];exact HE.o
   ·have hyes:Cj ls (a,b,c,m)=true:=HPO.o.trans hLA
    have HNL:Hid (Gg ls (a,b,c,m)=A):=(N9 hyes).trans HPT.o;have HNO:Hid _:=hyes;rw [hLA] at HCL2;clear hyes hLA;go_wp2_with fail
    refine HCL2.o.mono ?_;rintro e w6 ⟨rfl,b6⟩;have P6:=HPV.o.below b6;have q6:=next qV b6;have v6:=(b6.cell (p:=⟨u.heap.size,0,none⟩) (World.block_lt_of_cell? V _ v0)).trans v0;have r0:=P6.r0;have rf:=P6.rf;have HE:Hid _:=Gd (w:=w) (ok:=true) HNL.o (Av HOV.o b6) hs2 q6;clear HCL2 b6 P6 v0;go_wp2
    refine bodyPost_ret (by simp [results,results220,go_sem,r0];try rfl) rfl ?_
    rw [HNO.o];exact HE.o
def Hv (ls:List Ln) (es:List En):List Ln:=(Ch ls es).getD ls
def allOk (ls:List Ln) (es:List En):Bool:=(Ch ls es).isSome
theorem Rb (cur:List Ln) (es:List En) (k:Nat) (h:k<es.length):Ch cur (es.drop k)=if Cj cur (I4 es k)=true then Ch (G5 cur (I4 es k)) (es.drop (k+1)) else none:=by
 rw [List.drop_eq_getElem_cons h,← bI h];rfl
theorem Te (cur:List Ln) (es:List En):Ch cur (es.drop es.length)=some cur:=by
 rw [List.drop_of_length_le nL];rfl
theorem Cq {x:Int} (h:-1000000000000≤x∧x≤1000000000000):Bf x:=WalkArith.wf_i64 (by omega)
theorem Vm {ls:List Ln} (h:At ls=true):∀ x ∈ ls,Hw x:=by
 intro x hx;obtain ⟨h1,h2,h3,_⟩:=Ig (Dv (Dq h).1 x hx)
 refine ⟨Cq (by omega),Cq ?_,Cq h3⟩
 have:=U2 h2
 simp [Gi] at this
 omega
theorem N1 {ls:List Ln} {e:En} (h:Cj ls e=true):Gg ls e=G5 ls e∧At (G5 ls e)=true:=by
 refine ⟨N9 h,?_⟩
 simp only [Cj,Bool.and_eq_true] at h
 exact h.2
structure PA (s B:Nat) (ao:Option Addr) (cap n:Nat) (cur:List Ln) (a2:Option Addr) (k2:Nat) (u:World):Prop where
 l0:u.cell? ⟨s,0,none⟩=some (.slice ao n cap)
 r0:u.cell? ⟨s+1,0,none⟩=some (.slice none 0 0)
 rf:u.frozen? ⟨s+1,0,none⟩=false
 c6:u.cell? ⟨B,0,none⟩=some (.slice a2 cur.length k2)
 f6:u.frozen? ⟨B,0,none⟩=false
 own:u.ownsRow (s+2) 113 3 (.slice a2 cur.length k2) cur.length (Ag cur)
 ne:∀ g,(Value.slice a2 cur.length k2).ownBlock=some g→g≠B
 hB:s+2≤B
theorem PA.below {s B:Nat} {ao:Option Addr} {cap n:Nat} {cur:List Ln} {a2:Option Addr} {k2:Nat} {u u':World} (h:PA s B ao cap n cur a2 k2 u) (b:BW u u'):PA s B ao cap n cur a2 k2 u':=by
 have h0:s<u.heap.size:=World.block_lt_of_cell? u _ h.l0;have h1:s+1<u.heap.size:=World.block_lt_of_cell? u _ h.r0;have h2:B<u.heap.size:=World.block_lt_of_cell? u _ h.c6;exact ⟨(b.cell (p:=⟨s,0,none⟩) h0).trans h.l0,(b.cell (p:=⟨s+1,0,none⟩) h1).trans h.r0,(b.frozen (p:=⟨s+1,0,none⟩) h1).trans h.rf,(b.cell (p:=⟨B,0,none⟩) h2).trans h.c6,(b.frozen (p:=⟨B,0,none⟩) h2).trans h.f6,Av h.own b,h.ne,h.hB⟩
theorem PA.put {s B base:Nat} {ao:Option Addr} {cap n:Nat} {cur nxt:List Ln} {a2 a3:Option Addr} {k2 k3:Nat} {u:World} (h:PA s B ao cap n cur a2 k2 u) (o:u.ownsRow base 113 3 (.slice a3 nxt.length k3) nxt.length (Ag nxt)) (hb:B<base) :
  PA s B ao cap n nxt a3 k3 (u.setCell ⟨B,0,none⟩ (.slice a3 nxt.length k3)):=by
 have hs:=h.hB
 have hne:∀ g,(Value.slice a3 nxt.length k3).ownBlock=some g→g≠B:=fun g hg=>by have:=(o.lt g hg).1;omega
 refine ⟨?_,?_,?_,by simp [go_sem,h.c6],?_,Bi (A5 o _ _ hne) (by omega),hne,hs⟩
 ·rw [World.cell?_setCell_far _ _ _ _ (by simp;omega)];exact h.l0
 ·rw [World.cell?_setCell_far _ _ _ _ (by simp;omega)];exact h.r0
 ·simp [go_sem,h.rf]
 ·simp [go_sem,h.f6]
theorem Vv {w w1:World} {ao a1:Option Addr} {cap k1 n:Nat} {ls:List Ln} {t:TypeId} (l0:w1.cell? ⟨w.heap.size,0,none⟩=some (.slice ao n cap)) (r0:w1.cell? ⟨w.heap.size+1,0,none⟩=some (.slice none 0 0)) (rf:w1.frozen? ⟨w.heap.size+1,0,none⟩=false)
  (o:w1.ownsRow (w.heap.size+2) 113 3 (.slice a1 ls.length k1) ls.length (Ag ls)):PA w.heap.size w1.heap.size ao cap n ls a1 k1 (w1.alloc (.cells #[.slice a1 ls.length k1] t)):=by
 have b:Below w1.heap.size w1 (w1.alloc (.cells #[.slice a1 ls.length k1] t)):=by go_grown
 have h0:w.heap.size<w1.heap.size:=World.block_lt_of_cell? w1 _ l0;have h1:w.heap.size+1<w1.heap.size:=World.block_lt_of_cell? w1 _ r0
 exact ⟨(b.cell (p:=⟨w.heap.size,0,none⟩) h0).trans l0,(b.cell (p:=⟨w.heap.size+1,0,none⟩) h1).trans r0,(b.frozen (p:=⟨w.heap.size+1,0,none⟩) h1).trans rf,by simp,by simp [go_sem],Av o b,fun g hg=>by have:=(o.lt g hg).2;omega,by omega⟩
theorem Pq {w u:World} {gs cur:List Ln} {ok:Bool} {ao:Option Addr} {cap base:Nat} (hg:gs=cur) (ho:u.ownsRow base 113 3 (.slice ao cur.length cap) cur.length (Ag cur)) (hb:w.heap.size+1<base) (bel:BW w u) :
  Jl w gs ok (.returned (.tuple #[.agg #[.slice ao cur.length cap],.bool ok])) (u.setCell ⟨w.heap.size+1,0,none⟩ (.slice ao cur.length cap)):=by
 subst hg
 exact ⟨ao,cap,rfl,Bi (A5 ho _ _ (fun g hg=>by have:=(ho.lt g hg).1;simp only;omega)) (by omega),bel.setCell (by show w.heap.size≤w.heap.size+1;omega) _⟩
structure ZB (W u:World) (ob:Option Nat) (K:World→Prop):Prop where
 bel:BW W u
 box:∀ B,ob=some B→W.heap.size≤B∧B<u.heap.size∧u.cell? ⟨B,0,none⟩=some (.slice none 0 0)∧u.frozen? ⟨B,0,none⟩=false
 kept:∀ v,BW u v→K v
theorem ZB.start {W:World} {K:World→Prop} (h:∀ v,BW W v→K v):ZB W W none K:=⟨bR,(fun B h=>by cases h),h⟩
theorem ZB.call {W u u':World} {ob:Option Nat} {K:World→Prop} (z:ZB W u ob K) (b:BW u u'):ZB W u' ob K :=
 ⟨next z.bel b,fun B h=>by
  obtain ⟨h1,h2,h3,h4⟩:=z.box B h
  exact ⟨h1,Nat.lt_of_lt_of_le h2 b.size,(b.cell (p:=⟨B,0,none⟩) h2).trans h3,(b.frozen (p:=⟨B,0,none⟩) h2).trans h4⟩,fun v hv=>z.kept v (b.trans (hv.mono b.size))⟩
theorem ZB.drew {W u:World} {ob:Option Nat} {K:World→Prop} (z:ZB W u ob K):ZB W u.drew ob K:=z.call (bR.drew)
theorem ZB.al {W u:World} {K:World→Prop} (z:ZB W u none K) (t:TypeId):ZB W (u.alloc (.cells #[.slice none 0 0] t)) (some u.heap.size) K:=by
 have b:Below u.heap.size u (u.alloc (.cells #[.slice none 0 0] t)):=by go_grown
 refine ⟨next z.bel b,fun B h=>?_,fun v hv=>z.kept v (b.trans (hv.mono b.size))⟩
 injection h with h
 subst h
 exact ⟨z.bel.size,by simp,by simp,by simp [go_sem]⟩
structure LB (W:World) (L:List Ln) (B:Nat) (ao:Option Addr) (cap:Nat) (u:World):Prop where
 c0:u.cell? ⟨B,0,none⟩=some (.slice ao L.length cap)
 own:u.ownsRow W.heap.size 113 3 (.slice ao L.length cap) L.length (Ag L)
 ge:W.heap.size≤B
 ne:∀ g,(Value.slice ao L.length cap).ownBlock=some g→g≠B
 bel:BW W u
theorem LB.new {W u u0:World} {L:List Ln} {ao:Option Addr} {cap:Nat} {ob:Option Nat} {K:World→Prop} {t:TypeId} (o:u.ownsRow u0.heap.size 113 3 (.slice ao L.length cap) L.length (Ag L)) (z0:ZB W u0 ob K) (z:ZB W u none K) :
  LB W L u.heap.size ao cap (u.alloc (.cells #[.slice ao L.length cap] t)):=by
 have b:Below u.heap.size u (u.alloc (.cells #[.slice ao L.length cap] t)):=by go_grown
 exact ⟨by simp,Bi (Av o b) z0.bel.size,z.bel.size,fun g hg=>by have:=(o.lt g hg).2;omega,next z.bel b⟩
theorem LB.set {W u u0:World} {L:List Ln} {B:Nat} {ao:Option Addr} {cap:Nat} {K:World→Prop} (o:u.ownsRow u0.heap.size 113 3 (.slice ao L.length cap) L.length (Ag L)) (z0:ZB W u0 (some B) K) (z:ZB W u (some B) K) :
  LB W L B ao cap (u.setCell ⟨B,0,none⟩ (.slice ao L.length cap)):=by
 obtain ⟨h1,h2,_,_⟩:=z0.box B rfl;obtain ⟨_,_,h3,_⟩:=z.box B rfl
 have hne:∀ g,(Value.slice ao L.length cap).ownBlock=some g→g≠B:=fun g hg=>by have:=(o.lt g hg).1;omega
 exact ⟨by simp [go_sem,h3],Bi (A5 o _ _ hne) z0.bel.size,h1,hne,z.bel.setCell h1 _⟩
def sY (W u:World) (ob:Option Nat) (K:World→Prop) (L:List Ln) (ok:Bool) (e:Ending) (u':World):Prop :=
 ∃ ao cap,e=.returned (.tuple #[.agg #[.slice ao L.length cap],.bool ok])∧u'.ownsRow u.heap.size 113 3 (.slice ao L.length cap) L.length (Ag L)∧ZB W u ob K∧ZB W u' ob K
theorem Xh {W u:World} {ob:Option Nat} {K:World→Prop} {f:FuncId} {args:Array Value} {L:List Ln} {ok:Bool} (z:ZB W u ob K) (h:Calls prog f args u (Jl u L ok)):Calls prog f args u (sY W u ob K L ok) :=
 h.mono fun _ _ ⟨ao,cap,he,ho,hb⟩=>⟨ao,cap,he,ho,z,z.call hb⟩
theorem ZB.now {W u:World} {ob:Option Nat} {K:World→Prop} (z:ZB W u ob K):K u:=z.kept u bR
theorem U3 (ao:Option Addr) (cap:Nat) (ls:List Ln) (eo:Option Addr) (ec:Nat) (es:List En) (w:World) (hz:Ai w ao ls) (hn:ls.length≤1048576) (hy:C8 w eo es) (hm:es.length≤1048576) :
  Calls prog 182 #[.agg #[.slice ao ls.length cap],.slice eo es.length ec] w (Jl w (Hv ls es) (allOk ls es)):=by
 obtain ⟨W,hW⟩:∃ W,W=(w.alloc (.cells #[.slice ao ls.length cap] 29)).alloc (.cells #[.slice none 0 0] 29):=⟨_,rfl⟩
 have bW:BW w W:=by rw [hW];go_grown
 have hWs:W.heap.size=w.heap.size+2:=by rw [hW];simp
 have l0:W.cell? ⟨w.heap.size,0,none⟩=some (.slice ao ls.length cap):=by rw [hW];simp [go_sem]
 have r0:W.cell? ⟨w.heap.size+1,0,none⟩=some (.slice none 0 0):=by rw [hW];simp [go_sem]
 have rf:W.frozen? ⟨w.heap.size+1,0,none⟩=false:=by rw [hW];simp [go_sem]
 have HL0:Hid _:=l0;have HR0:Hid _:=r0;have HRF:Hid _:=rf;have HZ:Hid (Ai w ao ls):=hz;have HY:Hid (C8 w eo es):=hy;have HBW:Hid (BW w W):=bW;have HWS:Hid _:=hWs;clear hz hy r0 rf bW hWs
 go_enter func182,ntmps182
 go_upto_region 1 with fail
 rw [← hW];clear hW;go_wp2_with fail
 refine (Hh ao cap ls W (HZ.o.below HBW.o) (by omega)).mono ?_
 rintro e w1 ⟨a1,k1,rfl,o1,b1⟩;have hws:=HWS.o
 have P1:PA w.heap.size w1.heap.size ao cap ls.length ls a1 k1 (w1.alloc (.cells #[.slice a1 ls.length k1] 29)):=Vv ((b1.cell (p:=⟨w.heap.size,0,none⟩) (by show w.heap.size<W.heap.size;omega)).trans HL0.o) ((b1.cell (p:=⟨w.heap.size+1,0,none⟩) (by show w.heap.size+1<W.heap.size;omega)).trans HR0.o) ((b1.frozen (p:=⟨w.heap.size+1,0,none⟩) (by show w.heap.size+1<W.heap.size;omega)).trans HRF.o) (Bi o1 (by omega))
 have q1:=next HBW.o b1;obtain ⟨V,hV⟩:∃ V,V=w1.alloc (.cells #[.slice a1 ls.length k1] 29):=⟨_,rfl⟩
 have qV:BW w V:=by rw [hV];exact q1.alloc q1.size _
 have HPV:Hid (PA w.heap.size w1.heap.size ao cap ls.length ls a1 k1 V):=by rw [Hid,hV];exact P1
 obtain ⟨B,hBe⟩:∃ B,B=w1.heap.size:=⟨_,rfl⟩;clear P1 q1 o1 b1 l0 hws;go_upto_region 2 with fail
 rw [← hV,← hBe];rw [← hBe] at HPV;clear hV hBe;go_wp2
 go_loopw [7] (fun i wr=>∃ (k:Nat) (cur:List Ln) (a2:Option Addr) (k2:Nat),k≤es.length∧i=.int .i64 k∧Ch ls es=Ch cur (es.drop k)∧PA w.heap.size B ao cap ls.length cur a2 k2 wr∧cur.length≤1048576∧BW w wr) (fun i _=>es.length - (intOf i).toNat)
 case atStart=>exact ⟨0,ls,a1,k1,Nat.zero_le _,rfl,rfl,HPV.o,hn,qV⟩
 case round =>
  obtain ⟨k,cur,a2,k2,hk,rfl,hps,hpa,hcl,hbr⟩:=hrel;have HPA:Hid (PA w.heap.size B ao cap ls.length cur a2 k2 wr):=hpa;have HPS:Hid (Ch ls es=Ch cur (es.drop k)):=hps;clear hpa hps HPV qV
  by_cases hlt:k<es.length
  ·have hki:(k:Int)<(es.length:Int):=by omega
   obtain ⟨b,off,rfl,hb2,y1,y2,y3,y4⟩:=(HY.o.below hbr).at hlt;have hst:=Rb cur es k hlt;obtain ⟨⟨a,a',c,m⟩,hx⟩:∃ x,I4 es k=x:=⟨_,rfl⟩;rw [hx] at y1 y2 y3 y4 hst
   simp only at y1 y2 y3 y4
   have HST:Hid _:=HPS.o.trans hst;have c6:=HPA.o.c6
   have HKP:Hid (∀ u,BW wr u→u.cell? ⟨B,0,none⟩=some (.slice a2 cur.length k2)∧u.cell? ⟨b,off+k*4,none⟩=some (.int .i64 a)∧u.cell? ⟨b,off+k*4+1,none⟩=some (.int .i64 a')∧u.cell? ⟨b,off+k*4+2,none⟩=some (.int .i64 c)∧u.cell? ⟨b,off+k*4+3,none⟩=some (.int .i64 m)):=fun u hu =>
    ⟨(HPA.o.below hu).c6,(hu.cell (p:=⟨b,off+k*4,none⟩) hb2).trans y1,(hu.cell (p:=⟨b,off+k*4+1,none⟩) hb2).trans y2,(hu.cell (p:=⟨b,off+k*4+2,none⟩) hb2).trans y3,(hu.cell (p:=⟨b,off+k*4+3,none⟩) hb2).trans y4⟩
   have HSP:Hid (∀ u,Ai u a2 cur→Calls prog 220 #[.agg #[.slice a2 cur.length k2],.agg #[.int .i64 a,.int .i64 a',.int .i64 c,.int .i64 m]] u (Jl u (Gg cur (a,a',c,m)) (Cj cur (a,a',c,m)))):=fun u h=>eE a2 k2 cur a a' c m u h hcl
   clear hst hx;go_upto_region 5 with fail
   have z:ZB wr wr none (fun v=>Ai v a2 cur):=ZB.start (fun v hv=>(Df HPA.o.own).below hv)
   obtain ⟨nx,hnx⟩:∃ nx,Gg cur (a,a',c,m)=nx:=⟨_,rfl⟩;obtain ⟨ok,hok⟩:∃ ok,Cj cur (a,a',c,m)=ok:=⟨_,rfl⟩;rw [hnx,hok] at HSP;have HNX:Hid _:=hnx;have HOK:Hid _:=hok;clear hnx hok
   go_cut [8,9] (fun v8 v9 wc=>∃ B8 a8 k8,v8=.pointer (some ⟨B8,0,none⟩)∧v9=.bool ok∧LB wr nx B8 a8 k8 wc)
   case first =>
    go_region_held3 (fun u=>u.cell? ⟨B,0,none⟩=some (.slice a2 cur.length k2)∧u.cell? ⟨b,off+k*4,none⟩=some (.int .i64 a)∧u.cell? ⟨b,off+k*4+1,none⟩=some (.int .i64 a')∧u.cell? ⟨b,off+k*4+2,none⟩=some (.int .i64 c)∧u.cell? ⟨b,off+k*4+3,none⟩=some (.int .i64 m)) (first | exact ⟨c6,y1,y2,y3,y4⟩ | exact HKP.o _ z.bel | exact HKP.o _ z.drew.bel | exact HKP.o _ (z.al _).bel | exact HKP.o _ (z.al _).drew.bel | exact HKP.o _ (z.drew.al _).bel | exact HKP.o _ (HF.o _).bel | exact HKP.o _ HF.o.bel) ((
     (go_at_call 220;(first | with_reducible refine (Xh z (HSP.o _ z.now)).mono ?_ | with_reducible refine (Xh z.drew (HSP.o _ z.drew.now)).mono ?_ | with_reducible refine (Xh (z.al _) (HSP.o _ (z.al _).now)).mono ?_ | with_reducible refine (Xh (z.al _).drew (HSP.o _ (z.al _).drew.now)).mono ?_ | with_reducible refine (Xh (z.drew.al _) (HSP.o _ (z.drew.al _).now)).mono ?_);rintro e v3 ⟨a3,k3,rfl,o3,z0,z⟩;(first | (have HF:Hid (∀ t,LB wr nx v3.heap.size a3 k3 (v3.alloc (.cells #[.slice a3 nx.length k3] t))):=(fun t=>LB.new o3 z0 z)) | (have HF:Hid _:=LB.set o3 z0 z;obtain ⟨_,_,n0,n1⟩:=z.box _ rfl));clear o3 z0)))
    all_goals
     go_wp2_with fail
     go_meet
     first
      | exact ⟨_,_,_,rfl,rfl,HF.o _⟩
      | exact ⟨_,_,_,rfl,rfl,HF.o⟩
   obtain ⟨B8,a3,k3,rfl,rfl,P8⟩:=hcut;obtain ⟨w2,hu⟩:∃ x,x=wc:=⟨_,rfl⟩;subst hu;have P3:=HPA.o.below P8.bel;have d6:=P3.c6;have f6:=P3.f6;have c8:=P8.c0;have q3:=next hbr P8.bel;have hBw:B<wr.heap.size:=World.block_lt_of_cell? wr _ HPA.o.c6;have HP4:Hid (PA w.heap.size B ao cap ls.length nx a3 k3 (w2.setCell ⟨B,0,none⟩ (.slice a3 nx.length k3))):=P3.put P8.own hBw;have hBs:=HPA.o.hB
   have q4:Below w.heap.size w (w2.setCell ⟨B,0,none⟩ (.slice a3 nx.length k3)):=q3.setCell (by show w.heap.size≤B;omega) _
   have HP3:Hid (PA w.heap.size B ao cap ls.length cur a2 k2 w2):=P3;clear P3 P8 hBw hBs z c6 y1 y2 y3 y4 HKP HSP hbr;have hok:=HOK.o
   cases ok
   ·rw [hok] at HST
    have HNO:Hid (Ch ls es=none):=HST.o;clear HST hok;have l4:=HP3.o.l0;have HZX:Hid (Ai w2 ao ls):=HZ.o.below q3;clear d6 f6 q4 HP4 c8;go_wp2_with fail
    refine (Hh ao cap ls w2 HZX.o (by omega)).mono ?_
    rintro e w5 ⟨a5,k5,rfl,o5,b5⟩;have P5:=HP3.o.below b5;have r5:=P5.r0;have rf5:=P5.rf
    have HE:Hid (Jl w (Hv ls es) (allOk ls es) (.returned (.tuple #[.agg #[.slice a5 ls.length k5],.bool false])) (w5.setCell ⟨w.heap.size+1,0,none⟩ (.slice a5 ls.length k5))):=by
     have h1:allOk ls es=false:=by unfold allOk;rw [HNO.o];rfl
     have h2:Hv ls es=ls:=by unfold Hv;rw [HNO.o];rfl
     rw [Hid,h1];exact Pq (w:=w) h2 o5 (World.block_lt_of_cell? w2 _ HP3.o.r0) (next q3 b5)
    clear o5 b5 P5 l4;go_wp2
    refine bodyPost_ret (by simp [results,results182,go_sem,r5];try rfl) rfl ?_
    exact HE.o
   ·have hpo:=N1 hok
    rw [hok] at HST;rw [HNX.o] at hpo
    have HN:Hid (Ch ls es=Ch nx (es.drop (k+1))):=by rw [Hid,HST.o,hpo.1];rfl
    have HB2:Hid (nx.length≤1048576):=by
     rw [hpo.1,Hid]
     have:=(Dq hpo.2).2.1;omega
    clear HST hok hpo HNX HOK HP3 q3;go_wp2
    go_roundw
    case rel=>exact ⟨k+1,nx,a3,k3,by omega,by go_num,HN.o,HP4.o,HB2.o,q4⟩
    case measure=>simp [intOf];omega
  ·have hke:k=es.length:=by omega
   subst hke
   have hki:¬ (es.length:Int)<(es.length:Int):=by omega
   have hsome:Ch ls es=some cur:=by rw [HPS.o,Te]
   have c6:=HPA.o.c6;have r0:=HPA.o.r0;have rf:=HPA.o.rf
   have HE:Hid (Jl w (Hv ls es) (allOk ls es) (.returned (.tuple #[.agg #[.slice a2 cur.length k2],.bool true])) (wr.setCell ⟨w.heap.size+1,0,none⟩ (.slice a2 cur.length k2))):=by
    have h1:allOk ls es=true:=by unfold allOk;rw [hsome];rfl
    have h2:Hv ls es=cur:=by unfold Hv;rw [hsome];rfl
    rw [Hid,h1]
    exact Pq (w:=w) h2 HPA.o.own (by omega) hbr
   clear hsome HPS;go_wp2
   refine bodyPost_ret (by simp [results,results182,go_sem,r0];try rfl) rfl ?_
   exact HE.o
structure DB (b:Nat) (c:Cs) (a:Ac) (t:Int) (o e:Value) (u:World):Prop where
 cb:CB b 0 c u
 a0:u.cell? ⟨b,12,none⟩=some (.int .i64 a.kind)
 a1:u.cell? ⟨b,13,none⟩=some (.int .i64 a.am)
 a2:u.cell? ⟨b,14,none⟩=some (.int .i64 a.rsn)
 td:u.cell? ⟨b,15,none⟩=some (.int .i64 t)
 ho:u.cell? ⟨b,16,none⟩=some o
 he:u.cell? ⟨b,17,none⟩=some e
 fz:FZ b 0 u
 fe:u.frozen? ⟨b,17,none⟩=false
theorem DB.below {b:Nat} {c:Cs} {a:Ac} {t:Int} {o e:Value} {u u':World} (h:DB b c a t o e u) (k:BW u u'):DB b c a t o e u':=by
 have l:=h.cb.lt;exact ⟨h.cb.below k,(k.cell (p:=⟨b,12,none⟩) l).trans h.a0,(k.cell (p:=⟨b,13,none⟩) l).trans h.a1,(k.cell (p:=⟨b,14,none⟩) l).trans h.a2,(k.cell (p:=⟨b,15,none⟩) l).trans h.td,(k.cell (p:=⟨b,16,none⟩) l).trans h.ho,(k.cell (p:=⟨b,17,none⟩) l).trans h.he,h.fz.below l k,(k.frozen (p:=⟨b,17,none⟩) l).trans h.fe⟩
theorem DB.grown {b:Nat} {c:Cs} {a:Ac} {t:Int} {o e:Value} {u u':World} {row:Option Nat} (h:DB b c a t o e u) (g:u.grownBy u' row) (hr:some b≠row):DB b c a t o e u':=by
 have l:=h.cb.lt;exact ⟨h.cb.grown g hr,(g.cell_far ⟨b,12,none⟩ l hr).trans h.a0,(g.cell_far ⟨b,13,none⟩ l hr).trans h.a1,(g.cell_far ⟨b,14,none⟩ l hr).trans h.a2,(g.cell_far ⟨b,15,none⟩ l hr).trans h.td,(g.cell_far ⟨b,16,none⟩ l hr).trans h.ho,(g.cell_far ⟨b,17,none⟩ l hr).trans h.he,h.fz.grown l g hr,(g.frozen_far ⟨b,17,none⟩ l hr).trans h.fe⟩
theorem DB.set4 {b:Nat} {c:Cs} {a:Ac} {t:Int} {o e:Value} {u:World} (h:DB b c a t o e u) (x:Int):DB b ⟨c.iss,c.acq,c.cur,c.am,x,c.rsn,c.cl,c.bk,c.fee,c.cop,c.sta,c.due⟩ a t o e (u.setCell ⟨b,4,none⟩ (.int .i64 x)):=by
 obtain ⟨⟨f0,f1,f2,f3,f4,f5,f6,f7,f8,f9,f10,f11⟩,a0,a1,a2,td,ho,he,⟨z0,z1,z2,z3,z4,z5,z6,z7,z8,z9,z10,z11⟩,fe⟩:=h
 simp only [Nat.zero_add] at f0 f1 f2 f3 f4 f5 f6 f7 f8 f9 f10 f11 z0 z1 z2 z3 z4 z5 z6 z7 z8 z9 z10 z11
 exact ⟨(by constructor<;>simp [go_sem, *]),by simp [go_sem,a0],by simp [go_sem,a1],by simp [go_sem,a2],by simp [go_sem,td],by simp [go_sem,ho],by simp [go_sem,he],(by constructor<;>simp [go_sem, *]),by simp [go_sem,fe]⟩
theorem DB.set5 {b:Nat} {c:Cs} {a:Ac} {t:Int} {o e:Value} {u:World} (h:DB b c a t o e u) (x:Int):DB b ⟨c.iss,c.acq,c.cur,c.am,c.st,x,c.cl,c.bk,c.fee,c.cop,c.sta,c.due⟩ a t o e (u.setCell ⟨b,5,none⟩ (.int .i64 x)):=by
 obtain ⟨⟨f0,f1,f2,f3,f4,f5,f6,f7,f8,f9,f10,f11⟩,a0,a1,a2,td,ho,he,⟨z0,z1,z2,z3,z4,z5,z6,z7,z8,z9,z10,z11⟩,fe⟩:=h
 simp only [Nat.zero_add] at f0 f1 f2 f3 f4 f5 f6 f7 f8 f9 f10 f11 z0 z1 z2 z3 z4 z5 z6 z7 z8 z9 z10 z11
 exact ⟨(by constructor<;>simp [go_sem, *]),by simp [go_sem,a0],by simp [go_sem,a1],by simp [go_sem,a2],by simp [go_sem,td],by simp [go_sem,ho],by simp [go_sem,he],(by constructor<;>simp [go_sem, *]),by simp [go_sem,fe]⟩
theorem DB.set6 {b:Nat} {c:Cs} {a:Ac} {t:Int} {o e:Value} {u:World} (h:DB b c a t o e u) (x:Int):DB b ⟨c.iss,c.acq,c.cur,c.am,c.st,c.rsn,x,c.bk,c.fee,c.cop,c.sta,c.due⟩ a t o e (u.setCell ⟨b,6,none⟩ (.int .i64 x)):=by
 obtain ⟨⟨f0,f1,f2,f3,f4,f5,f6,f7,f8,f9,f10,f11⟩,a0,a1,a2,td,ho,he,⟨z0,z1,z2,z3,z4,z5,z6,z7,z8,z9,z10,z11⟩,fe⟩:=h
 simp only [Nat.zero_add] at f0 f1 f2 f3 f4 f5 f6 f7 f8 f9 f10 f11 z0 z1 z2 z3 z4 z5 z6 z7 z8 z9 z10 z11
 exact ⟨(by constructor<;>simp [go_sem, *]),by simp [go_sem,a0],by simp [go_sem,a1],by simp [go_sem,a2],by simp [go_sem,td],by simp [go_sem,ho],by simp [go_sem,he],(by constructor<;>simp [go_sem, *]),by simp [go_sem,fe]⟩
theorem DB.set7 {b:Nat} {c:Cs} {a:Ac} {t:Int} {o e:Value} {u:World} (h:DB b c a t o e u) (x:Int):DB b ⟨c.iss,c.acq,c.cur,c.am,c.st,c.rsn,c.cl,x,c.fee,c.cop,c.sta,c.due⟩ a t o e (u.setCell ⟨b,7,none⟩ (.int .i64 x)):=by
 obtain ⟨⟨f0,f1,f2,f3,f4,f5,f6,f7,f8,f9,f10,f11⟩,a0,a1,a2,td,ho,he,⟨z0,z1,z2,z3,z4,z5,z6,z7,z8,z9,z10,z11⟩,fe⟩:=h
 simp only [Nat.zero_add] at f0 f1 f2 f3 f4 f5 f6 f7 f8 f9 f10 f11 z0 z1 z2 z3 z4 z5 z6 z7 z8 z9 z10 z11
 exact ⟨(by constructor<;>simp [go_sem, *]),by simp [go_sem,a0],by simp [go_sem,a1],by simp [go_sem,a2],by simp [go_sem,td],by simp [go_sem,ho],by simp [go_sem,he],(by constructor<;>simp [go_sem, *]),by simp [go_sem,fe]⟩
theorem DB.set8 {b:Nat} {c:Cs} {a:Ac} {t:Int} {o e:Value} {u:World} (h:DB b c a t o e u) (x:Int):DB b ⟨c.iss,c.acq,c.cur,c.am,c.st,c.rsn,c.cl,c.bk,x,c.cop,c.sta,c.due⟩ a t o e (u.setCell ⟨b,8,none⟩ (.int .i64 x)):=by
 obtain ⟨⟨f0,f1,f2,f3,f4,f5,f6,f7,f8,f9,f10,f11⟩,a0,a1,a2,td,ho,he,⟨z0,z1,z2,z3,z4,z5,z6,z7,z8,z9,z10,z11⟩,fe⟩:=h
 simp only [Nat.zero_add] at f0 f1 f2 f3 f4 f5 f6 f7 f8 f9 f10 f11 z0 z1 z2 z3 z4 z5 z6 z7 z8 z9 z10 z11
 exact ⟨(by constructor<;>simp [go_sem, *]),by simp [go_sem,a0],by simp [go_sem,a1],by simp [go_sem,a2],by simp [go_sem,td],by simp [go_sem,ho],by simp [go_sem,he],(by constructor<;>simp [go_sem, *]),by simp [go_sem,fe]⟩
theorem DB.set11 {b:Nat} {c:Cs} {a:Ac} {t:Int} {o e:Value} {u:World} (h:DB b c a t o e u) (x:Int):DB b ⟨c.iss,c.acq,c.cur,c.am,c.st,c.rsn,c.cl,c.bk,c.fee,c.cop,c.sta,x⟩ a t o e (u.setCell ⟨b,11,none⟩ (.int .i64 x)):=by
 obtain ⟨⟨f0,f1,f2,f3,f4,f5,f6,f7,f8,f9,f10,f11⟩,a0,a1,a2,td,ho,he,⟨z0,z1,z2,z3,z4,z5,z6,z7,z8,z9,z10,z11⟩,fe⟩:=h
 simp only [Nat.zero_add] at f0 f1 f2 f3 f4 f5 f6 f7 f8 f9 f10 f11 z0 z1 z2 z3 z4 z5 z6 z7 z8 z9 z10 z11
 exact ⟨(by constructor<;>simp [go_sem, *]),by simp [go_sem,a0],by simp [go_sem,a1],by simp [go_sem,a2],by simp [go_sem,td],by simp [go_sem,ho],by simp [go_sem,he],(by constructor<;>simp [go_sem, *]),by simp [go_sem,fe]⟩
theorem DB.set9 {b:Nat} {c:Cs} {a:Ac} {t:Int} {o e:Value} {u:World} (h:DB b c a t o e u) (x:Bool):DB b ⟨c.iss,c.acq,c.cur,c.am,c.st,c.rsn,c.cl,c.bk,c.fee,x,c.sta,c.due⟩ a t o e (u.setCell ⟨b,9,none⟩ (.bool x)):=by
 obtain ⟨⟨f0,f1,f2,f3,f4,f5,f6,f7,f8,f9,f10,f11⟩,a0,a1,a2,td,ho,he,⟨z0,z1,z2,z3,z4,z5,z6,z7,z8,z9,z10,z11⟩,fe⟩:=h
 simp only [Nat.zero_add] at f0 f1 f2 f3 f4 f5 f6 f7 f8 f9 f10 f11 z0 z1 z2 z3 z4 z5 z6 z7 z8 z9 z10 z11
 exact ⟨(by constructor<;>simp [go_sem, *]),by simp [go_sem,a0],by simp [go_sem,a1],by simp [go_sem,a2],by simp [go_sem,td],by simp [go_sem,ho],by simp [go_sem,he],(by constructor<;>simp [go_sem, *]),by simp [go_sem,fe]⟩
theorem DB.set17 {b:Nat} {c:Cs} {a:Ac} {t:Int} {o e:Value} {u:World} (h:DB b c a t o e u) (x:Value):DB b c a t o x (u.setCell ⟨b,17,none⟩ x):=by
 obtain ⟨⟨f0,f1,f2,f3,f4,f5,f6,f7,f8,f9,f10,f11⟩,a0,a1,a2,td,ho,he,⟨z0,z1,z2,z3,z4,z5,z6,z7,z8,z9,z10,z11⟩,fe⟩:=h
 simp only [Nat.zero_add] at f0 f1 f2 f3 f4 f5 f6 f7 f8 f9 f10 f11 z0 z1 z2 z3 z4 z5 z6 z7 z8 z9 z10 z11
 exact ⟨(by constructor<;>simp [go_sem, *]),by simp [go_sem,a0],by simp [go_sem,a1],by simp [go_sem,a2],by simp [go_sem,td],by simp [go_sem,ho],by simp [go_sem,he],(by constructor<;>simp [go_sem, *]),by simp [go_sem,fe]⟩
structure Env (b:Nat) (ao:Option Addr) (zs:List Int) (u:World):Prop where
 offs:Il b u ao zs
 tab:Di u
 gb:16<b
theorem Di.under {b:Nat} {w w':World} (h:Di w) (hb:Below b w w') (hg:16<b):Di w':=by
 have e : prog.globalNamed "loop.example/g00126/impl.stepDays" = some 16 := by kernel_rfl
 unfold Di Lib.TabIs World.var? at *;rw [e] at h ⊢
 simp only [Option.bind_some] at h ⊢
 rw [hb.block _ hg];exact h
theorem Env.keep {b:Nat} {ao:Option Addr} {zs:List Int} {u u':World} (h:Env b ao zs u) (k:Below b u u'):Env b ao zs u':=⟨h.offs.keep k,h.tab.under k h.gb,h.gb⟩
structure DS (b:Nat) (ao:Option Addr) (cp:Nat) (zs:List Int) (a:Ac) (t:Int) (c:Cs) (es:List En) (v:Value) (u:World):Prop where
 db:DB b c a t (.slice ao zs.length cp) v u
 own:u.ownsRow (b+1) 269 4 v es.length (Ba es)
 env:Env b ao zs u
theorem DS.lt {b:Nat} {ao:Option Addr} {cp:Nat} {zs:List Int} {a:Ac} {t:Int} {c:Cs} {es:List En} {v:Value} {u:World} (h:DS b ao cp zs a t c es v u):b<u.heap.size:=h.db.cb.lt
theorem DS.below {b:Nat} {ao:Option Addr} {cp:Nat} {zs:List Int} {a:Ac} {t:Int} {c:Cs} {es:List En} {v:Value} {u u':World} (h:DS b ao cp zs a t c es v u) (k:BW u u'):DS b ao cp zs a t c es v u' :=
 ⟨h.db.below k,Av h.own k,h.env.keep (k.mono (Nat.le_of_lt h.lt))⟩
theorem DS.offs {b:Nat} {ao:Option Addr} {cp:Nat} {zs:List Int} {a:Ac} {t:Int} {c:Cs} {es:List En} {v:Value} {u:World} (h:DS b ao cp zs a t c es v u):Aw u ao zs:=h.env.offs.at (Nat.le_of_lt h.lt)
theorem Bj {b n:Nat} {t:TypeId} {v:Value} {xs:List Value} {u:World} (h:u.ownsRow (b+1) t 4 v n xs):∀ g,v.ownBlock=some g→g≠b:=fun g hg=>by have:=(h.lt g hg).1;omega
theorem DS.set4 {b:Nat} {ao:Option Addr} {cp:Nat} {zs:List Int} {a:Ac} {t:Int} {c:Cs} {es:List En} {v:Value} {u:World} (h:DS b ao cp zs a t c es v u) (x:Int):DS b ao cp zs a t ⟨c.iss,c.acq,c.cur,c.am,x,c.rsn,c.cl,c.bk,c.fee,c.cop,c.sta,c.due⟩ es v (u.setCell ⟨b,4,none⟩ (.int .i64 x)) :=
 ⟨h.db.set4 x,A5 h.own _ _ (Bj h.own),h.env.keep (Bn _ _ _ _)⟩
theorem DS.set5 {b:Nat} {ao:Option Addr} {cp:Nat} {zs:List Int} {a:Ac} {t:Int} {c:Cs} {es:List En} {v:Value} {u:World} (h:DS b ao cp zs a t c es v u) (x:Int):DS b ao cp zs a t ⟨c.iss,c.acq,c.cur,c.am,c.st,x,c.cl,c.bk,c.fee,c.cop,c.sta,c.due⟩ es v (u.setCell ⟨b,5,none⟩ (.int .i64 x)) :=
 ⟨h.db.set5 x,A5 h.own _ _ (Bj h.own),h.env.keep (Bn _ _ _ _)⟩
theorem DS.set6 {b:Nat} {ao:Option Addr} {cp:Nat} {zs:List Int} {a:Ac} {t:Int} {c:Cs} {es:List En} {v:Value} {u:World} (h:DS b ao cp zs a t c es v u) (x:Int):DS b ao cp zs a t ⟨c.iss,c.acq,c.cur,c.am,c.st,c.rsn,x,c.bk,c.fee,c.cop,c.sta,c.due⟩ es v (u.setCell ⟨b,6,none⟩ (.int .i64 x)) :=
 ⟨h.db.set6 x,A5 h.own _ _ (Bj h.own),h.env.keep (Bn _ _ _ _)⟩
theorem DS.set7 {b:Nat} {ao:Option Addr} {cp:Nat} {zs:List Int} {a:Ac} {t:Int} {c:Cs} {es:List En} {v:Value} {u:World} (h:DS b ao cp zs a t c es v u) (x:Int):DS b ao cp zs a t ⟨c.iss,c.acq,c.cur,c.am,c.st,c.rsn,c.cl,x,c.fee,c.cop,c.sta,c.due⟩ es v (u.setCell ⟨b,7,none⟩ (.int .i64 x)) :=
 ⟨h.db.set7 x,A5 h.own _ _ (Bj h.own),h.env.keep (Bn _ _ _ _)⟩
theorem DS.set8 {b:Nat} {ao:Option Addr} {cp:Nat} {zs:List Int} {a:Ac} {t:Int} {c:Cs} {es:List En} {v:Value} {u:World} (h:DS b ao cp zs a t c es v u) (x:Int):DS b ao cp zs a t ⟨c.iss,c.acq,c.cur,c.am,c.st,c.rsn,c.cl,c.bk,x,c.cop,c.sta,c.due⟩ es v (u.setCell ⟨b,8,none⟩ (.int .i64 x)) :=
 ⟨h.db.set8 x,A5 h.own _ _ (Bj h.own),h.env.keep (Bn _ _ _ _)⟩
theorem DS.set11 {b:Nat} {ao:Option Addr} {cp:Nat} {zs:List Int} {a:Ac} {t:Int} {c:Cs} {es:List En} {v:Value} {u:World} (h:DS b ao cp zs a t c es v u) (x:Int):DS b ao cp zs a t ⟨c.iss,c.acq,c.cur,c.am,c.st,c.rsn,c.cl,c.bk,c.fee,c.cop,c.sta,x⟩ es v (u.setCell ⟨b,11,none⟩ (.int .i64 x)) :=
 ⟨h.db.set11 x,A5 h.own _ _ (Bj h.own),h.env.keep (Bn _ _ _ _)⟩
theorem DS.set9 {b:Nat} {ao:Option Addr} {cp:Nat} {zs:List Int} {a:Ac} {t:Int} {c:Cs} {es:List En} {v:Value} {u:World} (h:DS b ao cp zs a t c es v u) (x:Bool):DS b ao cp zs a t ⟨c.iss,c.acq,c.cur,c.am,c.st,c.rsn,c.cl,c.bk,c.fee,x,c.sta,c.due⟩ es v (u.setCell ⟨b,9,none⟩ (.bool x)) :=
 ⟨h.db.set9 x,A5 h.own _ _ (Bj h.own),h.env.keep (Bn _ _ _ _)⟩
def DR (b:Nat) (ao:Option Addr) (cp:Nat) (zs:List Int) (a:Ac) (t:Int) (w:World) (r:Value) (c:Cs) (es:List En) (e:Ending) (w':World):Prop :=
 e=.returned r∧(∃ v,DS b ao cp zs a t c es v w')∧Below b w w'
theorem eL (g:Nat) (ao:Option Addr) (cap:Nat) (ls:List Ln) (w:World) (hc:w.cell? ⟨g,0,none⟩=some (.slice ao ls.length cap)) (hz:Ai w ao ls) (hn:ls.length≤1048577) :
  Calls prog 155 #[.slice (some ⟨g,0,none⟩) 1 1] w fun e w'=>∃ a2 k2,e=.returned (.slice a2 ls.length k2) ∧
   w'.ownsRow w.heap.size 113 3 (.slice a2 ls.length k2) ls.length (Ag ls)∧BW w w':=by
 have HZ:Hid (Ai w ao ls):=hz;clear hz
 go_enter func155,ntmps155
 go_wp2;refine wp_loop_rounds 2 ?_;rw [rounds_succ]
 go_wp2_with (at_builtin;refine Gp _ rfl (.tmp 12) (.tmp 13) rfl w.heap.size _ 0 [] rfl (World.ownsRow_nil _ _ _ _) ao cap ls rfl HZ.o (by omega) nL ?_;intro v2 w2 o2 g2)
 have q2:BW w w2:=bR.grown g2 nL (fun k hk=>by cases hk)
 rw [Nat.zero_add,List.nil_append] at o2;obtain ⟨a2,k2,hv2,-,-⟩:=Ef o2;subst hv2;have HO2:Hid (w2.ownsRow w.heap.size 113 3 (.slice a2 ls.length k2) ls.length (Ag ls)):=o2;clear o2 g2 HZ hc;go_wp2;rw [rounds_succ];go_wp2;go_ret;exact ⟨a2,k2,rfl,HO2.o,q2⟩
theorem Hg (ao:Option Addr) (cap:Nat) (ls:List Ln) (w:World) (hz:Ai w ao ls) (hn:ls.length≤1048577) :
  Calls prog 109 #[.agg #[.slice ao ls.length cap]] w (rG w ls):=by
 obtain ⟨W,hW⟩:∃ W,W=((w.alloc (.cells #[.slice ao ls.length cap] 29)).alloc (.cells #[.slice none 0 0] 29)).alloc (.cells #[.slice ao ls.length cap] 27):=⟨_,rfl⟩
 have hWs:W.heap.size=w.heap.size+3:=by rw [hW];simp
 have bW:BW w W:=by rw [hW];go_grown
 have HZ:Hid (Ai W ao ls):=hz.below bW
 have c1:W.cell? ⟨w.heap.size+1,0,none⟩=some (.slice none 0 0):=by rw [hW];simp [go_sem]
 have c2:W.cell? ⟨w.heap.size+1+1,0,none⟩=some (.slice ao ls.length cap):=by rw [hW];simp [go_sem]
 have z1:W.frozen? ⟨w.heap.size+1,0,none⟩=false:=by rw [hW];simp [go_sem]
 have HC1:Hid _:=c1;have HZ1:Hid _:=z1;have HBW:Hid _:=bW;have HWS:Hid _:=hWs;have HW:Hid _:=hW;clear hz c1 z1 bW hWs hW
 go_enter func109,ntmps109
 go_wp2_with fail
 rw [← HW.o];refine (eL (w.heap.size+1+1) ao cap ls W c2 HZ.o hn).mono ?_;rintro e w2 ⟨a2,k2,rfl,o2,b2⟩
 have d1:=(b2.cell (p:=⟨w.heap.size+1,0,none⟩) (by have:=HWS.o;show w.heap.size+1<W.heap.size;omega)).trans HC1.o
 have e1:=(b2.frozen (p:=⟨w.heap.size+1,0,none⟩) (by have:=HWS.o;show w.heap.size+1<W.heap.size;omega)).trans HZ1.o
 have HO2:Hid (w2.ownsRow W.heap.size 113 3 (.slice a2 ls.length k2) ls.length (Ag ls)):=o2;have HB2:Hid (BW w w2):=next HBW.o b2;clear o2 b2 c2;go_wp2
 refine bodyPost_ret (by simp [results,results109,go_sem,d1];try rfl) rfl ?_
 refine ⟨a2,k2,rfl,?_,HB2.o.setCell (by show w.heap.size≤w.heap.size+1;omega) _⟩
 have hs:=HWS.o
 exact Bi (A5 HO2.o _ _ (fun g hg=>by have:=(HO2.o.lt g hg).1;simp only;omega)) (by omega)
end Go.Proofs.YtomiclakhjncbaaGreatDoor
namespace Go.Proofs.YtomiclakhjncbaaGreatDoor
open Go.RowKit Go.Maps Go.Proofs.Tryz
set_option maxRecDepth 100000
set_option maxHeartbeats 12800000
theorem Ql {ops:Array Oper} {rest:List Oper} {o:Oper} {a:Act} {Q:Exit→Act→World→Prop} (w:World) (hg:o.guard=none) (it:Operand) (hop:o.op=Op.next it false)
  (b r n:Nat) (D:DataW Unit) (left:Lit→Bool) (Mw:Nat) (hit:a.eval it=.pointer (some ⟨r,0,none⟩)) (h:w.ranges prog 128 (plainElem (H:=Unit) prog 3) b r n D left Mw)
  (hDone:Mw=0→(∀ kl,left kl=false)→wpList prog ops Q rest (a.put o.dst (.tuple #[.bool false])) w)
  (hMore:∀ (x c v:Int) (w':World) (cnt':Nat),Bf x→Bf c→left (Dp x c)=true→(∀ zd,D.atKey (Dp x c) zd=.lit (.int .i64 v))→w'.ranges prog 128 (plainElem (H:=Unit) prog 3) b r n D (fun z=>left z && !z.sameKey (Dp x c)) cnt'→cnt' < Mw →
   w.grownBy w' (some r)→w'.heap.size=w.heap.size→(Instr.entry (.pointer (some ⟨r,0,none⟩))).run prog w'=.ok (.tuple #[.agg #[.int .i64 x,.int .i64 c],.int .i64 v]) w'→wpList prog ops Q rest (a.put o.dst (.tuple #[.bool true,.agg #[.int .i64 x,.int .i64 c],.int .i64 v])) w') :
  wpList prog ops Q (o::rest) a w :=
 wpList_next_ranges (α:=Int×Int) (β:=Int) w hg it hop 128 Tx (plainElem (H:=Unit) prog 3) (fun p=>.agg #[.int .i64 p.1,.int .i64 p.2]) (Value.int .i64)
  (fun key kl hkey=>by obtain ⟨x,c,rfl,_⟩:=Sg hkey;exact ⟨(x,c),rfl⟩) (fun v y hv=>by obtain ⟨c,rfl,_⟩:=plainElem_int_inv underlying3 hv;exact ⟨c,rfl⟩)
  b r n D left Mw hit h hDone (fun ⟨x,c⟩ v kl y w' cnt' hkey hlk hv hat hrg hlt hgr hsz hen=>by
   obtain ⟨x',c',ex,rfl,hx,hc⟩:=Sg hkey
   obtain ⟨rfl,rfl⟩:x=x'∧c=c':=by simpa using ex
   obtain ⟨v',ev,rfl,hwv⟩:=plainElem_int_inv underlying3 hv
   cases ev
   exact hMore x c v w' cnt' hx hc hlk hat hrg hlt hgr hsz hen)
structure pR (f:Int→Int→Option Int) (left:Lit→Bool) (acc:List Ln):Prop where
 apart:cV acc
 from_:∀ x ∈ acc,f x.1 x.2.1=some x.2.2∧left (Dp x.1 x.2.1)=false∧Bf x.1∧Bf x.2.1
 into:∀ a c v,f a c=some v→left (Dp a c)=false→(a,c,v) ∈ acc
theorem pR.step {f:Int→Int→Option Int} {left:Lit→Bool} {acc:List Ln} (h:pR f left acc) (hwf:∀ a c,f a c≠none→Bf a∧Bf c) {x c v:Int} (hx:Bf x) (hc:Bf c) (hl:left (Dp x c)=true) (hf:f x c=some v) :
  pR f (fun z=>left z && !z.sameKey (Dp x c)) (acc++[(x,c,v)]):=by
 have hsame:(Dp x c).sameKey (Dp x c)=true:=WideAt.sameKey_self (Nh _ _);refine ⟨?_,?_,?_⟩
 ·refine List.pairwise_append.2 ⟨h.apart,List.pairwise_singleton _ _,fun y hy z hz he=>?_⟩
  simp only [List.mem_singleton] at hz
  subst hz
  have:=(h.from_ y hy).2.1
  simp only at he
  rw [he.1,he.2,hl] at this
  cases this
 ·intro y hy
  rcases List.mem_append.1 hy with hy | hy
  ·obtain ⟨a1,a2,a3,a4⟩:=h.from_ y hy
   exact ⟨a1,by rw [a2];rfl,a3,a4⟩
  ·simp only [List.mem_singleton] at hy
   subst hy
   exact ⟨hf,by simp only [hsame];simp,hx,hc⟩
 ·intro a' c' v' hf' hl'
  by_cases he:a'=x∧c'=c
  ·obtain ⟨rfl,rfl⟩:=he
   rw [hf] at hf'
   injection hf' with hf'
   subst hf';exact List.mem_append.2 (.inr (List.mem_singleton.2 rfl))
  ·obtain ⟨w1,w2⟩:=hwf a' c' (by rw [hf'];simp)
   have hne:(Dp a' c').sameKey (Dp x c)=false:=Maps.sameKey_ne fun e=>he (Rh w1 w2 hx hc e)
   rw [hne] at hl'
   exact List.mem_append.2 (.inl (h.into a' c' v' hf' (by simpa using hl')))
theorem pR.all {f:Int→Int→Option Int} {left:Lit→Bool} {acc ds:List Ln} (h:pR f left acc) (hl:∀ k,left k=false) (hp:ds.Perm acc) (hs:ds.Pairwise (fun x y=>E3 y x=false)):Va ds∧Cf ds=f:=by
 have hap:cV ds:=(hp.symm.pairwise_iff (R:=fun x y:Ln=>¬ (x.1=y.1∧x.2.1=y.2.1)) (fun hxy he=>hxy ⟨he.1.symm,he.2.symm⟩)).1 h.apart
 have hmem:∀ a c v,(a,c,v) ∈ ds ↔ f a c=some v:=fun a c v=>by
  rw [hp.mem_iff]
  exact ⟨fun hm=>(h.from_ _ hm).1,fun hf=>h.into a c v hf (hl _)⟩
 constructor
 ·refine (hs.and hap).imp fun {x y} ⟨h1,h2⟩=>?_
  rw [Ev]
  simp [E3] at h1
  omega
 ·funext a c
  cases hf:f a c with
  | some v=>exact (Q3 hap).1 ((hmem a c v).2 hf)
  | none =>
   cases hk:Cf ds a c with
   | none=>rfl
   | some v =>
    have:=(hmem a c v).1 (Mr hk)
    rw [hf] at this;cases this
theorem Y1 (b n:Nat) (f:Int→Int→Option Int) (w:World) (hM:F5 w b n f) (hn:n≤1000) :
  Calls prog 316 #[.map (some b)] w fun e w'=>∃ ao cap L,e=.returned (.agg #[.slice ao (List.length L) cap])∧Va L∧Cf L=f∧L.length≤n∧w'.ownsRow w.heap.size 113 3 (.slice ao L.length cap) L.length (Ag L)∧BW w w':=by
 obtain ⟨i0,hi,hz0,hz1,hz2⟩:=info_parts bY;have hbl:=hM.lt;obtain ⟨W,hW⟩:∃ W,W=w.alloc (.cells #[.slice none 0 0] 29):=⟨_,rfl⟩
 have bW:BW w W:=by rw [hW];go_grown
 have hWs:W.heap.size=w.heap.size+1:=by rw [hW];simp
 have r0:W.cell? ⟨w.heap.size,0,none⟩=some (.slice none 0 0):=by rw [hW];simp
 have rf:W.frozen? ⟨w.heap.size,0,none⟩=false:=by rw [hW];simp [go_sem]
 obtain ⟨D,hown,hview,hwf⟩:=hM.below bW;have HO:Hid (W.ownsMap prog 128 (plainElem (H:=Unit) prog 3) b n D):=hown;have HVW:Hid _:=hview;have HWF:Hid (∀ a c,f a c≠none→Bf a∧Bf c):=hwf;have HBW:Hid (BW w W):=bW;have HR0:Hid _:=r0;have HRF:Hid _:=rf;have HWS:Hid (W.heap.size=w.heap.size+1):=hWs;clear hM hown hview hwf bW r0 rf hWs
 go_enter func316,ntmps316
 go_wp2_with (first
  | (at_range;rw [← hW];clear hW;refine wpList_range_own _ rfl _ 338 rfl 128 3 Tx underlying338 _ b n D rfl HO.o ?_;intro w0 hrg0 hg0 hs0)
  | go_in)
 try go_frame
 have HRG0:Hid (w0.ranges prog 128 (plainElem (H:=Unit) prog 3) b W.heap.size n D (Maps.has D) (Maps.size D)):=hrg0
 have q0:BW w w0:=HBW.o.grown hg0 HBW.o.size (fun j hj=>by cases hj)
 have HC0:Hid (w0.cell? ⟨w.heap.size,0,none⟩=some (.slice none 0 0)∧w0.frozen? ⟨w.heap.size,0,none⟩=false):=⟨(hg0.cell_far ⟨w.heap.size,0,none⟩ (by have:=HWS.o;show w.heap.size<W.heap.size;omega) (by simp)).trans HR0.o,(hg0.frozen_far ⟨w.heap.size,0,none⟩ (by have:=HWS.o;show w.heap.size<W.heap.size;omega) (by simp)).trans HRF.o⟩
 have hszD:=HO.o.size_le;clear hrg0 hg0
 go_loopw [3] (fun v3 wr=>∃ (left:Lit→Bool) (Mw:Nat) (acc:List Ln),wr.ranges prog 128 (plainElem (H:=Unit) prog 3) b W.heap.size n D left Mw∧acc.length+Mw≤n∧pR f left acc ∧
   wr.ownsRow (w.heap.size+2) 113 3 v3 acc.length (Ag acc)∧(wr.cell? ⟨w.heap.size,0,none⟩=some (.slice none 0 0)∧wr.frozen? ⟨w.heap.size,0,none⟩=false)∧BW w wr∧w.heap.size+2≤wr.heap.size) (fun _ wr=>wr.rangeLeft b W.heap.size)
 case atStart =>
  refine ⟨_,_,[],HRG0.o,by simpa using hszD,⟨List.Pairwise.nil,(fun x hx=>by cases hx),fun a c v hf hl=>?_⟩,World.ownsRow_nil _ _ _ _,HC0.o,q0,by have:=HWS.o;omega⟩
  have hwx:=HWF.o a c (by rw [hf];simp)
  rw [(HVW.o a c hwx.1 hwx.2).1,hf] at hl
  cases hl
 case round =>
  obtain ⟨left,Mw,acc,hrg,hcnt,hmet,hacc,hcell,hbr,hs2⟩:=hrel;have HRG:Hid (wr.ranges prog 128 (plainElem (H:=Unit) prog 3) b W.heap.size n D left Mw):=hrg;have HMET:Hid (pR f left acc):=hmet;have HACC:Hid (wr.ownsRow (w.heap.size+2) 113 3 u3 acc.length (Ag acc)):=hacc;have HCELL:Hid _:=hcell;clear hrg hmet hacc hcell HRG0 q0 HC0 hszD hs0
  go_wp2_with (first
   | (at_next;refine Ql _ rfl _ rfl b W.heap.size n D left Mw rfl HRG.o ?_ ?_)
   | go_in)
  ·intro _ hl0
   obtain ⟨ao,cap,hv3,-,-⟩:=Ef HACC.o;subst hv3;have HL0:Hid (∀ kl,left kl=false):=hl0;clear hl0;go_wp2_with fail
   refine (iN ao acc.length cap (w.heap.size+2) acc wr HACC.o (by omega) hs2).mono ?_
   rintro e w2 ⟨rfl,ds,hp,hs,o2,b2⟩
   have d0:=(b2.cell (p:=⟨w.heap.size,0,none⟩) (by show w.heap.size<w.heap.size+2;omega)).trans HCELL.o.1
   have d1:=(b2.frozen (p:=⟨w.heap.size,0,none⟩) (by show w.heap.size<w.heap.size+2;omega)).trans HCELL.o.2
   have hlen:ds.length=acc.length:=hp.length_eq;have HALL:Hid (Va ds∧Cf ds=f):=HMET.o.all HL0.o hp hs;have HO2:Hid (w2.ownsRow (w.heap.size+2) 113 3 (.slice ao acc.length cap) acc.length (Ag ds)):=o2
   have HQ2:Hid (BW w w2):=hbr.trans (b2.mono (by omega))
   have HLEN:Hid _:=hlen;clear hp hs o2 b2 hlen HCELL;go_wp2
   refine bodyPost_ret (by simp [results,results316,go_sem,d0];try rfl) rfl ?_
   have hlen:=HLEN.o
   refine ⟨ao,cap,ds,by rw [hlen],HALL.o.1,HALL.o.2,by omega,?_,HQ2.o.setCell nL _⟩
   have h:=Bi (A5 HO2.o ⟨w.heap.size,0,none⟩ (.slice ao acc.length cap) (fun g hg=>by have:=(HO2.o.lt g hg).1;simp only;omega)) (base':=w.heap.size) (by omega)
   rw [hlen];exact h
  ·intro x c v w1 cnt1 hwx hwc hlx hat hrg1 hlt hg1 hs1 hen
   have hfx:f x c=some v:=by
    have h1:=HVW.o x c hwx hwc;have h2:=Maps.has_true_of_atKey hat;rw [h1.1] at h2;have h3:=(hat (.lit (.int .i64 0))).symm.trans h1.2
    cases hf:f x c with
    | none=>rw [hf] at h2;cases h2
    | some v' =>
     rw [hf] at h3
     injection h3 with e1;injection e1 with _ e2
     simp at e2
     rw [e2]
   have HMET2:Hid (pR f (fun z=>left z && !z.sameKey (Dp x c)) (acc++[(x,c,v)])):=HMET.o.step HWF.o hwx hwc hlx hfx
   have hown3:∀ g,u3.ownBlock=some g→w.heap.size+2≤g:=fun g hg=>(HACC.o.lt g hg).1
   have HACC1:Hid (w1.ownsRow (w.heap.size+2) 113 3 u3 acc.length (Ag acc)):=sH HACC.o hg1 (fun g hg e=>by have:=hown3 g hg;have:=HWS.o;cases e;omega)
   have q1:BW w w1:=hbr.grown hg1 hbr.size (fun j hj=>by have:=HWS.o;cases hj;omega)
   have HRG1:Hid (w1.ranges prog 128 (plainElem (H:=Unit) prog 3) b W.heap.size n D (fun z=>left z && !z.sameKey (Dp x c)) cnt1):=hrg1
   have HC1:Hid (w1.cell? ⟨w.heap.size,0,none⟩=some (.slice none 0 0)∧w1.frozen? ⟨w.heap.size,0,none⟩=false):=⟨(hg1.cell_far ⟨w.heap.size,0,none⟩ (by show w.heap.size<wr.heap.size;omega) (by have:=HWS.o;simp;omega)).trans HCELL.o.1,(hg1.frozen_far ⟨w.heap.size,0,none⟩ (by show w.heap.size<wr.heap.size;omega) (by have:=HWS.o;simp;omega)).trans HCELL.o.2⟩
   obtain ⟨V,hV⟩:∃ V,V=w1.alloc (.cells #[.int .i64 x,.int .i64 c] 128):=⟨_,rfl⟩
   have hVs:V.heap.size=w1.heap.size+1:=by rw [hV];simp
   have v0:V.cell? ⟨w1.heap.size,0,none⟩=some (.int .i64 x):=by rw [hV];simp
   have v1:V.cell? ⟨w1.heap.size,1,none⟩=some (.int .i64 c):=by rw [hV];simp
   have HAV:Hid (V.ownsRow (w.heap.size+2) 113 3 u3 acc.length (Ag acc)):=by rw [Hid,hV];exact HACC1.o.alloc _
   have HRV:Hid (V.ranges prog 128 (plainElem (H:=Unit) prog 3) b W.heap.size n D (fun z=>left z && !z.sameKey (Dp x c)) cnt1):=by rw [Hid,hV];exact HRG1.o.alloc _
   have HCV:Hid (V.cell? ⟨w.heap.size,0,none⟩=some (.slice none 0 0)∧V.frozen? ⟨w.heap.size,0,none⟩=false):=by
    have g:=World.grownBy_alloc w1 (.cells #[.int .i64 x,.int .i64 c] 128) none;rw [Hid,hV]
    exact ⟨(g.cell_far ⟨w.heap.size,0,none⟩ (by show w.heap.size<w1.heap.size;omega) (by simp)).trans HC1.o.1,(g.frozen_far ⟨w.heap.size,0,none⟩ (by show w.heap.size<w1.heap.size;omega) (by simp)).trans HC1.o.2⟩
   have qV:BW w V:=by rw [hV];exact q1.alloc q1.size _
   have HOWN3:Hid _:=hown3;have HLT:Hid _:=hlt
   have HVS:Hid (V.heap.size=wr.heap.size+1):=by rw [Hid,hVs,hs1]
   clear hVs hs1 hat hrg1 hlt hg1 hfx hwx hwc hlx HMET HACC HACC1 HRG1 HC1 HCELL q1 hown3 hbr;go_upto_region 5 with fail
   rw [← hV];clear hV hen
   go_wp2_with (at_builtin;refine wpList_append_own _ rfl (.tmp 13) (.tmp 20) 27 rfl (w.heap.size+2) 113 i0 _ 3 24 underlying27 hi hz0 hz1 hz2 rfl (by decide) _ _ _ rfl (HAV.o.alloc _) ⟨V.heap.size,0,none⟩ 1 1 [.int .i64 x,.int .i64 c,.int .i64 v] rfl rfl (World.news_of_block (heap_alloc_new V _)) (Ve x c v) (by unfold maxLen;omega) (by omega) (by have:=HVS.o;simp;omega) ?_;intro v5 w5 o5 g5 _)
   have gA:=World.grownBy_alloc V (.cells #[.int .i64 x,.int .i64 c,.int .i64 v] 113) none
   have HR5:Hid (w5.ownsRow (w.heap.size+2) 113 3 v5 (acc++[(x,c,v)]).length (Ag (acc++[(x,c,v)]))):=by rw [Hid,List.length_append];exact aD o5
   have hb5:some b≠u3.ownBlock:=fun e=>by have:=HOWN3.o b e.symm;omega
   have hr5:some W.heap.size≠u3.ownBlock:=fun e=>by have:=HOWN3.o _ e.symm;have:=HWS.o;omega
   have hx5:some w.heap.size≠u3.ownBlock:=fun e=>by have:=HOWN3.o _ e.symm;omega
   have HRG5:Hid (w5.ranges prog 128 (plainElem (H:=Unit) prog 3) b W.heap.size n D (fun z=>left z && !z.sameKey (Dp x c)) cnt1):=(HRV.o.alloc _).kept g5 hb5 hr5
   have HC5:Hid (w5.cell? ⟨w.heap.size,0,none⟩=some (.slice none 0 0)∧w5.frozen? ⟨w.heap.size,0,none⟩=false):=⟨(g5.cell_far ⟨w.heap.size,0,none⟩ (by have:=HVS.o;simp;omega) hx5).trans ((gA.cell_far ⟨w.heap.size,0,none⟩ (by have:=HVS.o;show w.heap.size<V.heap.size;omega) (by simp)).trans HCV.o.1),(g5.frozen_far ⟨w.heap.size,0,none⟩ (by have:=HVS.o;simp;omega) hx5).trans ((gA.frozen_far ⟨w.heap.size,0,none⟩ (by have:=HVS.o;show w.heap.size<V.heap.size;omega) (by simp)).trans HCV.o.2)⟩
   have q5:BW w w5:=(qV.alloc qV.size _).grown g5 (by have:=HVS.o;simp;omega) (fun j hj=>by have:=HOWN3.o j hj;omega)
   have hs5:w.heap.size+2≤w5.heap.size:=by have:=g5.size;have:=HVS.o;simp at *;omega
   clear o5 g5 gA HAV HRV HCV qV;go_wp2
   go_roundw
   case rel=>exact ⟨_,cnt1,_,HRG5.o,by have:=HLT.o;simp;omega,HMET2.o,HR5.o,HC5.o,q5,hs5⟩
   case measure=>rw [HRG5.o.left_eq,HRG.o.left_eq];exact HLT.o
end Go.Proofs.YtomiclakhjncbaaGreatDoor
namespace Go.Proofs.YtomiclakhjncbaaGreatDoor
open Go.RowKit Go.Proofs.Tryz
set_option maxRecDepth 100000
set_option maxHeartbeats 12800000
theorem PB.grown {s:Nat} {ao:Option Addr} {cap n:Nat} {a b c m:Int} {u u':World} {g:Nat} (h:PB s ao cap n a b c m u) (hg:u.grownBy u' (some g)) (hne:s+1+1<g):PB s ao cap n a b c m u':=by
 have h1:=h.sz
 exact ⟨(hg.cell_far ⟨s,0,none⟩ (by show s<u.heap.size;omega) (by simp;omega)).trans h.l0,(hg.cell_far ⟨s+1,0,none⟩ (by show s+1<u.heap.size;omega) (by simp;omega)).trans h.e0,(hg.cell_far ⟨s+1,1,none⟩ (by show s+1<u.heap.size;omega) (by simp;omega)).trans h.e1,
  (hg.cell_far ⟨s+1,2,none⟩ (by show s+1<u.heap.size;omega) (by simp;omega)).trans h.e2,(hg.cell_far ⟨s+1,3,none⟩ (by show s+1<u.heap.size;omega) (by simp;omega)).trans h.e3,(hg.cell_far ⟨s+1+1,0,none⟩ h1 (by simp;omega)).trans h.r0,(hg.frozen_far ⟨s+1+1,0,none⟩ h1 (by simp;omega)).trans h.rf,Nat.lt_of_lt_of_le h1 hg.size⟩
theorem jW {ls:List Ln} (h:∀ x ∈ ls,-4000000000000≤x.2.2∧x.2.2≤4000000000000) (a c:Int):-4000000000000≤(Cf ls a c).getD 0∧(Cf ls a c).getD 0≤4000000000000:=by
 cases hl:Cf ls a c with
 | none=>simp
 | some v=>have:=h _ (Mr hl);simpa using this
theorem cR {ls:List Ln} {a c m:Int} (h:∀ x ∈ ls,Hw x) (hb:∀ x ∈ ls,-4000000000000≤x.2.2∧x.2.2≤4000000000000) (ha:Bf a) (hc:Bf c) (hm:-1000000000000≤m∧m≤1000000000000):∀ x ∈ Cr ls a c m,Hw x:=by
 intro x hx
 have hk:Bf x.1∧Bf x.2.1:=by
  rcases Wf hx with h1 | ⟨h1,h2⟩
  ·exact ⟨(h x h1).1,(h x h1).2.1⟩
  ·rw [h1,h2];exact ⟨ha,hc⟩
 refine ⟨hk.1,hk.2,WalkArith.wf_i64 ?_⟩
 rcases P0 x hx with h1 | h1 | ⟨y,hy,h1⟩
 ·have:=hb x h1;omega
 ·omega
 ·have:=hb y hy;omega
theorem K9 (ao:Option Addr) (cap:Nat) (ls:List Ln) (a b c m:Int) (w:World) (hz:Ai w ao ls) (hn:ls.length≤1048576) (hlb:∀ x ∈ ls,Hw x) (heb:Ma (a,b,c,m)) :
  Calls prog 287 #[.agg #[.slice ao ls.length cap],.agg #[.int .i64 a,.int .i64 b,.int .i64 c,.int .i64 m]] w (Jl w (Gg ls (a,b,c,m)) (Cj ls (a,b,c,m))):=by
 obtain ⟨W,hW⟩:∃ W,W=((w.alloc (.cells #[.slice ao ls.length cap] 29)).alloc (.cells #[.int .i64 a,.int .i64 b,.int .i64 c,.int .i64 m] 269)).alloc (.cells #[.slice none 0 0] 29):=⟨_,rfl⟩
 have bW:BW w W:=by rw [hW];go_grown
 have PW:PB w.heap.size ao cap ls.length a b c m W:=by
  rw [hW];exact ⟨by simp [go_sem],by simp [go_sem],by simp [go_sem],by simp [go_sem],by simp [go_sem],by simp [go_sem],by simp [go_sem],by simp⟩
 have HZ0:Hid (Ai w ao ls):=hz;have HZ:Hid (Ai W ao ls):=hz.below bW;have HW:Hid _:=hW;have l0:=PW.l0;have HPW:Hid (PB w.heap.size ao cap ls.length a b c m W):=PW;have HLB:Hid (∀ x ∈ ls,Hw x):=hlb;have HEB:Hid (Ma (a,b,c,m)):=heb;clear hz hW PW hlb heb
 cases hL:At ls
 ·have hno:Cj ls (a,b,c,m)=false:=by simp [Cj,hL]
  have HNL:Hid _:=Hs hno;rw [hno]
  have HC:Hid (Calls prog 39 #[.agg #[.slice ao ls.length cap]] W fun e w'=>e=.returned (.bool false)∧BW W w'):=by
   have h:=Ij ao cap ls W HZ.o (by omega) HLB.o
   rw [hL] at h;exact h
  clear hno hL
  go_enter func287,ntmps287
  go_upto_region 1 with fail
  rw [← HW.o];go_wp2_with fail
  refine HC.o.mono ?_;rintro e w1 ⟨rfl,b1⟩;have P1:=HPW.o.below b1;have q1:=next bW b1;have HZ1:Hid (Ai w1 ao ls):=HZ.o.below b1;have j0:=P1.l0;have HP1:Hid (PB w.heap.size ao cap ls.length a b c m w1):=P1;clear HC b1 P1 l0;go_wp2_with fail
  refine (Hg ao cap ls w1 HZ1.o (by omega)).mono ?_
  rintro e w2 ⟨g2,c2,rfl,o2,b2⟩;have P2:=HP1.o.below b2;have r0:=P2.r0;have rf:=P2.rf;have HE:Hid _:=Gd (w:=w) (ok:=false) HNL.o o2 HP1.o.sz (next q1 b2);clear o2 b2 P2 j0;go_wp2
  refine bodyPost_ret (by simp [results,results287,go_sem,r0];try rfl) rfl ?_
  exact HE.o
 have HCL:Hid (Calls prog 39 #[.agg #[.slice ao ls.length cap]] W fun e w'=>e=.returned (.bool true)∧BW W w'):=by
  have h:=Ij ao cap ls W HZ.o (by omega) HLB.o
  rw [hL] at h;exact h
 cases hE:Bt (a,b,c,m)
 ·have hno:Cj ls (a,b,c,m)=false:=by simp [Cj,hE]
  have HNL:Hid _:=Hs hno;rw [hno];have HEO:Hid _:=hE;clear hno hL hE
  go_enter func287,ntmps287
  go_upto_region 1 with fail
  rw [← HW.o];go_wp2_with fail
  refine HCL.o.mono ?_;rintro e w1 ⟨rfl,b1⟩;have P1:=HPW.o.below b1;have q1:=next bW b1;have HZ1:Hid (Ai w1 ao ls):=HZ.o.below b1;have k0:=P1.e0;have k1:=P1.e1;have k2:=P1.e2;have k3:=P1.e3
  have HCE:Hid (Calls prog 313 #[.agg #[.int .i64 a,.int .i64 b,.int .i64 c,.int .i64 m]] w1 fun e w'=>e=.returned (.bool false)∧BW w1 w'):=by
   have h:=Nm a b c m w1 HEB.o.2.2.1;rw [HEO.o] at h;exact h
  have HP1:Hid (PB w.heap.size ao cap ls.length a b c m w1):=P1;clear HCL b1 P1 l0;go_wp2_with fail
  refine HCE.o.mono ?_;rintro e w2 ⟨rfl,b2⟩;have P2:=HP1.o.below b2;have q2:=next q1 b2;have HZ2:Hid (Ai w2 ao ls):=HZ1.o.below b2;have j0:=P2.l0;have HP2:Hid (PB w.heap.size ao cap ls.length a b c m w2):=P2;clear HCE b2 P2 k0 k1 k2 k3;go_wp2_with fail
  refine (Hg ao cap ls w2 HZ2.o (by omega)).mono ?_
  rintro e w3 ⟨g3,c3,rfl,o3,b3⟩;have P3:=HP2.o.below b3;have r0:=P3.r0;have rf:=P3.rf;have HE:Hid _:=Gd (w:=w) (ok:=false) HNL.o o3 HP2.o.sz (next q2 b3);clear o3 b3 P3 j0;go_wp2
  refine bodyPost_ret (by simp [results,results287,go_sem,r0];try rfl) rfl ?_
  exact HE.o
 ·obtain ⟨hl1,hl2,_⟩:=Dq hL
  obtain ⟨_,_,_,_,hm1,hm2⟩:=Lq hE
  simp only at hm1 hm2
  have hsrt:=Qn hl1;have hnz:=Rz hl1
  have hbd:∀ x ∈ ls,-1000000000000≤x.2.2∧x.2.2≤1000000000000:=fun x hx=>(Ig (Dv hl1 x hx)).2.2.1
  have HB1:Hid (∀ x ∈ ls,-4000000000000≤x.2.2∧x.2.2≤4000000000000):=fun x hx=>by have:=hbd x hx;omega
  have HB2:Hid (∀ x ∈ Cr ls a c (-m),-4000000000000≤x.2.2∧x.2.2≤4000000000000):=fun x hx=>by
   rcases P0 x hx with h | h | ⟨y,hy,h⟩
   ·have:=hbd x h;omega
   ·omega
   ·have:=hbd y hy;omega
  have hla:=Mp ls a c (-m);have hlb:=Mp (Cr ls a c (-m)) b c m;have HPT:Hid (G5 ls (a,b,c,m)=Cr (Cr ls a c (-m)) b c m):=rfl
  have HPO:Hid (Cj ls (a,b,c,m)=At (Cr (Cr ls a c (-m)) b c m)):=by rw [Hid,Cj,hL,hE];rfl
  have HLA1:Hid _:=Tb hsrt a c (show -m≠0 by omega)
  have HLA2:Hid _:=Tb (Rn hsrt a c (-m)) b c (show m≠0 by omega)
  have HSA:Hid (Va (Cr (Cr ls a c (-m)) b c m)):=Rn (Rn hsrt a c (-m)) b c m
  have HBA:Hid (∀ x ∈ Cr (Cr ls a c (-m)) b c m,Hw x):=cR (cR HLB.o HB1.o HEB.o.1 HEB.o.2.2.1 ⟨by omega,by omega⟩) HB2.o HEB.o.2.1 HEB.o.2.2.1 ⟨by omega,by omega⟩
  obtain ⟨A1,hA1⟩:∃ A1,Cr ls a c (-m)=A1:=⟨_,rfl⟩;rw [hA1] at HB2 hla hlb HPT HPO HLA1 HLA2 HSA HBA;obtain ⟨A,hA⟩:∃ A,Cr A1 b c m=A:=⟨_,rfl⟩;rw [hA] at hlb HPT HPO HLA2 HSA HBA;have HEO:Hid _:=hE;have HS:Hid (Va ls):=hsrt;have HNZ:Hid (NZ ls):=hnz;have HBD:Hid (∀ x ∈ ls,-1000000000000≤x.2.2∧x.2.2≤1000000000000):=hbd
  have hAb:A.length≤402:=by omega
  clear hL hE hl1 hbd hla hlb hA1 hA hsrt hnz
  have hwn:IntKind.i64.wrap (-m) = -m:=by simp [IntKind.wrap,IntKind.bits,IntKind.signed];omega
  go_enter func287,ntmps287
  go_upto_region 1 with fail
  rw [← HW.o];go_wp2_with fail
  refine HCL.o.mono ?_;rintro e w1 ⟨rfl,b1⟩;have P1:=HPW.o.below b1;have q1:=next bW b1;have k0:=P1.e0;have k1:=P1.e1;have k2:=P1.e2;have k3:=P1.e3
  have HCE:Hid (Calls prog 313 #[.agg #[.int .i64 a,.int .i64 b,.int .i64 c,.int .i64 m]] w1 fun e w'=>e=.returned (.bool true)∧BW w1 w'):=by
   have h:=Nm a b c m w1 HEB.o.2.2.1;rw [HEO.o] at h;exact h
  have HP1:Hid (PB w.heap.size ao cap ls.length a b c m w1):=P1;clear HCL b1 P1 l0;go_wp2_with fail
  refine HCE.o.mono ?_;rintro e w2 ⟨rfl,b2⟩;have P2:=HP1.o.below b2;have q2:=next q1 b2;have HZ2:Hid (Ai w2 ao ls):=HZ0.o.below q2;have j0:=P2.l0;have HP2:Hid (PB w.heap.size ao cap ls.length a b c m w2):=P2;clear HCE b2 P2 k0 k1 k2 k3;go_wp2_with fail
  refine (Ut ao cap ls w2 HZ2.o hl2 HS.o HNZ.o HBD.o HLB.o).mono ?_;rintro e w3 ⟨g,rfl,hg,m3,b3⟩;have P3:=HP2.o.below b3;have q3:=next q2 b3;have hgs:w.heap.size+1+1<g:=Nat.lt_of_lt_of_le HP2.o.sz hg;have HM3:Hid (F5 w3 g ls.length (Cf ls)):=m3;have i0:=P3.e0;have i2:=P3.e2;have i3:=P3.e3;have HP3:Hid (PB w.heap.size ao cap ls.length a b c m w3):=P3;have HV1:Hid _:=tP HBD.o a c;clear m3 b3 P3 j0 hg;go_wp2_with fail
  refine (U6 g ls.length (Cf ls) a c (-m) _ w3 HM3.o HEB.o.1 HEB.o.2.2.1 rfl (by have:=HV1.o;omega) (by unfold maxLen;omega)).mono ?_
  rintro e w4 ⟨rfl,m4,g4⟩;have P4:=HP3.o.grown g4 hgs
  have q4:BW w w4:=q3.grown g4 q3.size (fun j hj=>by cases hj;omega)
  have HM4:Hid (F5 w4 g (ls.length+1) (Cf A1)):=by rw [HLA1.o];exact m4
  have i1:=P4.e1;have i2:=P4.e2;have i3:=P4.e3;have HP4:Hid (PB w.heap.size ao cap ls.length a b c m w4):=P4;have HV2:Hid _:=jW HB2.o b c;clear m4 g4 P4 i0 HM3 HP3;go_wp2_with fail
  refine (U6 g (ls.length+1) (Cf A1) b c m _ w4 HM4.o HEB.o.2.1 HEB.o.2.2.1 rfl (by have:=HV2.o;omega) (by unfold maxLen;omega)).mono ?_
  rintro e w5 ⟨rfl,m5,g5⟩;have P5:=HP4.o.grown g5 hgs
  have q5:BW w w5:=q4.grown g5 q4.size (fun j hj=>by cases hj;omega)
  have HM5:Hid (F5 w5 g (ls.length+1+1) (Cf A)):=by rw [HLA2.o];exact m5
  have HP5:Hid (PB w.heap.size ao cap ls.length a b c m w5):=P5;clear m5 g5 P5 i1 i2 i3 HM4 HP4 q3 q4;go_wp2_with fail
  refine (Y1 g (ls.length+1+1) (Cf A) w5 HM5.o (by omega)).mono ?_
  rintro e w6 ⟨g6,k6,L,rfl,s6,lk6,_,o6,b6⟩
  have hLA:L=A:=aQ s6 HSA.o (fun x y=>by rw [lk6])
  subst hLA;have P6:=HP5.o.below b6;have q6:=next q5 b6;obtain ⟨V,hV⟩:∃ V,V=w6.alloc (.cells #[.slice g6 L.length k6] 29):=⟨_,rfl⟩
  have bV:BW w6 V:=by rw [hV];go_grown
  have v0:V.cell? ⟨w6.heap.size,0,none⟩=some (.slice g6 L.length k6):=by rw [hV];simp
  have PV:=P6.below bV;have qV:=next q6 bV;have HOV:Hid (V.ownsRow w5.heap.size 113 3 (.slice g6 L.length k6) L.length (Ag L)):=Av o6 bV;have HZV:Hid (Ai V ao ls):=HZ0.o.below qV;have HPV:Hid (PB w.heap.size ao cap ls.length a b c m V):=PV
  have HCL2:Hid (Calls prog 39 #[.agg #[.slice g6 L.length k6]] V fun e w'=>e=.returned (.bool (At L))∧BW V w'):=Ij g6 k6 L V (Df HOV.o) (by omega) HBA.o
  have hs5:w.heap.size+1+1<w5.heap.size:=HP5.o.sz;clear s6 lk6 o6 b6 bV P6 PV q6 HM5 HLA1 HLA2;go_upto_region 7 with fail
  rw [← hV];clear hV
  cases hLA:At L
  ·have hno:Cj ls (a,b,c,m)=false:=HPO.o.trans hLA
   have HNL:Hid _:=Hs hno;have HNO:Hid _:=hno;rw [hLA] at HCL2;clear hno hLA;go_wp2_with fail
   refine HCL2.o.mono ?_;rintro e w7 ⟨rfl,b7⟩;have P7:=HPV.o.below b7;have q7:=next qV b7;have HZ7:Hid (Ai w7 ao ls):=HZV.o.below b7;have j0:=P7.l0;have HP7:Hid (PB w.heap.size ao cap ls.length a b c m w7):=P7;clear HCL2 b7 P7 v0;go_wp2_with fail
   refine (Hg ao cap ls w7 HZ7.o (by omega)).mono ?_
   rintro e w8 ⟨g8,c8,rfl,o8,b8⟩;have P8:=HP7.o.below b8;have r0:=P8.r0;have rf:=P8.rf;have HE:Hid _:=Gd (w:=w) (ok:=false) HNL.o o8 HP7.o.sz (next q7 b8);clear o8 b8 P8 j0;go_wp2
   refine bodyPost_ret (by simp [results,results287,go_sem,r0];try rfl) rfl ?_
   rw [HNO.o];exact HE.o
  ·have hyes:Cj ls (a,b,c,m)=true:=HPO.o.trans hLA
   have HNL:Hid (Gg ls (a,b,c,m)=L):=(N9 hyes).trans HPT.o;have HNO:Hid _:=hyes;rw [hLA] at HCL2;clear hyes hLA;go_wp2_with fail
   refine HCL2.o.mono ?_;rintro e w7 ⟨rfl,b7⟩;have P7:=HPV.o.below b7;have q7:=next qV b7;have v7:=(b7.cell (p:=⟨w6.heap.size,0,none⟩) (World.block_lt_of_cell? V _ v0)).trans v0;have r0:=P7.r0;have rf:=P7.rf;have HE:Hid _:=Gd (w:=w) (ok:=true) HNL.o (Av HOV.o b7) hs5 q7;clear HCL2 b7 P7 v0;go_wp2
   refine bodyPost_ret (by simp [results,results287,go_sem,r0];try rfl) rfl ?_
   rw [HNO.o];exact HE.o
theorem Um (ao:Option Addr) (cap:Nat) (ls:List Ln) (eo:Option Addr) (ec:Nat) (es:List En) (w:World) (hz:Ai w ao ls) (hn:ls.length≤1048576) (hlb:∀ x ∈ ls,Hw x) (hy:C8 w eo es) (hm:es.length≤1048576) (heb:∀ x ∈ es,Ma x) :
  Calls prog 255 #[.agg #[.slice ao ls.length cap],.slice eo es.length ec] w (Jl w (Hv ls es) (allOk ls es)):=by
 obtain ⟨W,hW⟩:∃ W,W=(w.alloc (.cells #[.slice ao ls.length cap] 29)).alloc (.cells #[.slice none 0 0] 29):=⟨_,rfl⟩
 have bW:BW w W:=by rw [hW];go_grown
 have hWs:W.heap.size=w.heap.size+2:=by rw [hW];simp
 have l0:W.cell? ⟨w.heap.size,0,none⟩=some (.slice ao ls.length cap):=by rw [hW];simp [go_sem]
 have r0:W.cell? ⟨w.heap.size+1,0,none⟩=some (.slice none 0 0):=by rw [hW];simp [go_sem]
 have rf:W.frozen? ⟨w.heap.size+1,0,none⟩=false:=by rw [hW];simp [go_sem]
 have HL0:Hid _:=l0;have HR0:Hid _:=r0;have HRF:Hid _:=rf;have HZ:Hid (Ai w ao ls):=hz;have HY:Hid (C8 w eo es):=hy;have HLB:Hid (∀ x ∈ ls,Hw x):=hlb;have HEB:Hid (∀ x ∈ es,Ma x):=heb;have HBW:Hid (BW w W):=bW;have HWS:Hid _:=hWs;clear hz hy hlb heb r0 rf bW hWs
 go_enter func255,ntmps255
 go_upto_region 1 with fail
 rw [← hW];clear hW;go_wp2_with fail
 refine (Hg ao cap ls W (HZ.o.below HBW.o) (by omega)).mono ?_
 rintro e w1 ⟨a1,k1,rfl,o1,b1⟩;have hws:=HWS.o
 have P1:PA w.heap.size w1.heap.size ao cap ls.length ls a1 k1 (w1.alloc (.cells #[.slice a1 ls.length k1] 29)):=Vv ((b1.cell (p:=⟨w.heap.size,0,none⟩) (by show w.heap.size<W.heap.size;omega)).trans HL0.o) ((b1.cell (p:=⟨w.heap.size+1,0,none⟩) (by show w.heap.size+1<W.heap.size;omega)).trans HR0.o) ((b1.frozen (p:=⟨w.heap.size+1,0,none⟩) (by show w.heap.size+1<W.heap.size;omega)).trans HRF.o) (Bi o1 (by omega))
 have q1:=next HBW.o b1;obtain ⟨V,hV⟩:∃ V,V=w1.alloc (.cells #[.slice a1 ls.length k1] 29):=⟨_,rfl⟩
 have qV:BW w V:=by rw [hV];exact q1.alloc q1.size _
 have HPV:Hid (PA w.heap.size w1.heap.size ao cap ls.length ls a1 k1 V):=by rw [Hid,hV];exact P1
 obtain ⟨B,hBe⟩:∃ B,B=w1.heap.size:=⟨_,rfl⟩;clear P1 q1 o1 b1 l0 hws;go_upto_region 2 with fail
 rw [← hV,← hBe];rw [← hBe] at HPV;clear hV hBe;go_wp2
 go_loopw [7,14] (fun v7 i wr=>∃ (k:Nat) (cur:List Ln) (a2:Option Addr) (k2:Nat),k≤es.length∧i=.int .i64 k∧v7=.bool true∧Ch ls es=Ch cur (es.drop k)∧PA w.heap.size B ao cap ls.length cur a2 k2 wr∧(cur.length≤1048576∧∀ x ∈ cur,Hw x)∧BW w wr) (fun _ i _=>es.length - (intOf i).toNat)
 case atStart=>exact ⟨0,ls,a1,k1,Nat.zero_le _,rfl,rfl,rfl,HPV.o,⟨hn,HLB.o⟩,qV⟩
 case round =>
  obtain ⟨k,cur,a2,k2,hk,rfl,rfl,hps,hpa,⟨hcl,hcb⟩,hbr⟩:=hrel;have HPA:Hid (PA w.heap.size B ao cap ls.length cur a2 k2 wr):=hpa;have HCB:Hid (∀ x ∈ cur,Hw x):=hcb;have HPS:Hid (Ch ls es=Ch cur (es.drop k)):=hps;clear hpa hcb hps HPV qV
  by_cases hlt:k<es.length
  ·have hki:(k:Int)<(es.length:Int):=by omega
   obtain ⟨b,off,rfl,hb2,y1,y2,y3,y4⟩:=(HY.o.below hbr).at hlt;have hst:=Rb cur es k hlt;have hek:=HEB.o _ (lJ hlt);obtain ⟨⟨a,a',c,m⟩,hx⟩:∃ x,I4 es k=x:=⟨_,rfl⟩;rw [hx] at y1 y2 y3 y4 hst hek
   simp only at y1 y2 y3 y4
   have HST:Hid _:=HPS.o.trans hst;have HEK:Hid (Ma (a,a',c,m)):=hek;obtain ⟨U,hU⟩:∃ U,U=wr.alloc (.cells #[.int .i64 a,.int .i64 a',.int .i64 c,.int .i64 m] 269):=⟨_,rfl⟩
   have bU:BW wr U:=by rw [hU];go_grown
   have u0:U.cell? ⟨wr.heap.size,0,none⟩=some (.int .i64 a):=by rw [hU];simp
   have u1:U.cell? ⟨wr.heap.size,1,none⟩=some (.int .i64 a'):=by rw [hU];simp
   have u2:U.cell? ⟨wr.heap.size,2,none⟩=some (.int .i64 c):=by rw [hU];simp
   have u3:U.cell? ⟨wr.heap.size,3,none⟩=some (.int .i64 m):=by rw [hU];simp
   have HPU:Hid (PA w.heap.size B ao cap ls.length cur a2 k2 U):=HPA.o.below bU;have c6:=HPU.o.c6;have qU:=next hbr bU;have HBU:Hid (B<U.heap.size):=World.block_lt_of_cell? U _ c6;clear hst hek hx bU hbr;go_upto_region 5 with fail
   rw [← hU];clear hU y1 y2 y3 y4;go_wp2_with fail
   refine (K9 a2 k2 cur a a' c m U (Df HPU.o.own) hcl HCB.o HEK.o).mono ?_;rintro e w2 ⟨a3,k3,rfl,o3,b3⟩;have P3:=HPU.o.below b3;have d6:=P3.c6;have f6:=P3.f6;have q3:=next qU b3;have hbu:=HBU.o;have HP4:Hid (PA w.heap.size B ao cap ls.length (Gg cur (a,a',c,m)) a3 k3 (w2.setCell ⟨B,0,none⟩ (.slice a3 (Gg cur (a,a',c,m)).length k3))):=P3.put o3 hbu;have hBs:=HPA.o.hB
   have q4:Below w.heap.size w (w2.setCell ⟨B,0,none⟩ (.slice a3 (Gg cur (a,a',c,m)).length k3)):=q3.setCell (by show w.heap.size≤B;omega) _
   clear P3 o3 b3 q3 hbu c6 u0 u1 u2 u3 qU hBs
   cases hok:Cj cur (a,a',c,m)
   ·rw [hok] at HST
    have HNO:Hid (Ch ls es=none):=HST.o;have HPL:Hid (Gg cur (a,a',c,m)=cur):=Hs hok;rw [HPL.o] at HP4 q4 ⊢;clear HST hok;obtain ⟨X,hX⟩:∃ X,X=w2.setCell ⟨B,0,none⟩ (.slice a3 cur.length k3):=⟨_,rfl⟩;rw [← hX] at HP4 q4;have l4:=HP4.o.l0;have HZX:Hid (Ai X ao ls):=HZ.o.below q4;go_upto_region 7 with fail
    rw [← hX];clear hX d6 f6;go_wp2_with fail
    refine (Hg ao cap ls X HZX.o (by omega)).mono ?_
    rintro e w5 ⟨a5,k5,rfl,o5,b5⟩;have P5:=HP4.o.below b5;have r5:=P5.r0;have rf5:=P5.rf
    have HE:Hid (Jl w (Hv ls es) (allOk ls es) (.returned (.tuple #[.agg #[.slice a5 ls.length k5],.bool false])) (w5.setCell ⟨w.heap.size+1,0,none⟩ (.slice a5 ls.length k5))):=by
     have h1:allOk ls es=false:=by unfold allOk;rw [HNO.o];rfl
     have h2:Hv ls es=ls:=by unfold Hv;rw [HNO.o];rfl
     rw [Hid,h1];exact Pq (w:=w) h2 o5 (World.block_lt_of_cell? X _ HP4.o.r0) (next q4 b5)
    clear o5 b5 P5 l4;go_wp2
    refine bodyPost_ret (by simp [results,results255,go_sem,r5];try rfl) rfl ?_
    exact HE.o
   ·have hpo:=N1 hok
    rw [hok] at HST
    have HN:Hid (Ch ls es=Ch (Gg cur (a,a',c,m)) (es.drop (k+1))):=by rw [Hid,HST.o,hpo.1];rfl
    have HB2:Hid ((Gg cur (a,a',c,m)).length≤1048576∧∀ x ∈ Gg cur (a,a',c,m),Hw x):=by
     rw [hpo.1]
     exact ⟨by have:=(Dq hpo.2).2.1;omega,Vm hpo.2⟩
    clear HST hok hpo
    generalize Gg cur (a,a',c,m)=nxt at *
    go_wp2
    go_roundw
    case rel=>exact ⟨k+1,nxt,a3,k3,by omega,by go_num,rfl,HN.o,HP4.o,HB2.o,q4⟩
    case measure=>simp [intOf];omega
  ·have hke:k=es.length:=by omega
   subst hke
   have hki:¬ (es.length:Int)<(es.length:Int):=by omega
   have hsome:Ch ls es=some cur:=by rw [HPS.o,Te]
   have c6:=HPA.o.c6;have r0:=HPA.o.r0;have rf:=HPA.o.rf
   have HE:Hid (Jl w (Hv ls es) (allOk ls es) (.returned (.tuple #[.agg #[.slice a2 cur.length k2],.bool true])) (wr.setCell ⟨w.heap.size+1,0,none⟩ (.slice a2 cur.length k2))):=by
    have h1:allOk ls es=true:=by unfold allOk;rw [hsome];rfl
    have h2:Hv ls es=cur:=by unfold Hv;rw [hsome];rfl
    rw [Hid,h1]
    exact Pq (w:=w) h2 HPA.o.own (by omega) hbr
   clear hsome HPS;go_wp2
   refine bodyPost_ret (by simp [results,results255,go_sem,r0];try rfl) rfl ?_
   exact HE.o
end Go.Proofs.YtomiclakhjncbaaGreatDoor
namespace Go.Proofs.YtomiclakhjncbaaGreatDoor.Kb
open Go.RowKit Go.Proofs.Tryz
set_option maxRecDepth 100000
set_option maxHeartbeats 12800000
theorem iV {u:World} {base n size:Nat} {t:TypeId} {v:Value} {xs:List Value} (h:u.ownsRow base t size v n xs):∃ a c,v=.slice a n c:=by
 rcases h.2 with ⟨hv,h0⟩ | ⟨g,cap,cur,hv,_⟩
 ·exact ⟨none,0,by rw [hv,h0]⟩
 ·exact ⟨_,_,hv⟩
theorem fZ (g:Nat) (ao:Option Addr) (cap:Nat) (cs:List Cs) (w:World) (hc:w.cell? ⟨g,0,none⟩=some (.slice ao cs.length cap)) (hz:A0 w ao cs) (hn:cs.length≤1048577) :
  Calls prog 111 #[.slice (some ⟨g,0,none⟩) 1 1] w fun e w'=>∃ a2 k2,e=.returned (.slice a2 cs.length k2) ∧
   w'.ownsRow w.heap.size 61 12 (.slice a2 cs.length k2) cs.length (Aj cs)∧BW w w':=by
 have HZ:Hid (A0 w ao cs):=hz;clear hz
 go_enter func111,ntmps111
 go_wp2;refine wp_loop_rounds 2 ?_;rw [rounds_succ]
 go_wp2_with (at_builtin;refine Eh _ rfl (.tmp 12) (.tmp 13) rfl w.heap.size _ 0 [] rfl (World.ownsRow_nil _ _ _ _) ao cap cs rfl HZ.o (by omega) nL ?_;intro v2 w2 o2 g2 _)
 have q2:BW w w2:=bR.grown g2 nL (fun k hk=>by cases hk)
 rw [Nat.zero_add,List.nil_append] at o2;obtain ⟨a2,k2,hv2⟩:=iV o2;subst hv2;have HO2:Hid (w2.ownsRow w.heap.size 61 12 (.slice a2 cs.length k2) cs.length (Aj cs)):=o2;clear o2 g2 HZ hc;go_wp2;rw [rounds_succ];go_wp2;go_ret;exact ⟨a2,k2,rfl,HO2.o,q2⟩
theorem Sb {F:Ff} {E:World→Prop} {G:Nat} (KI:Rq F E G) (ao:Option Addr) (cap:Nat) (rs:Be) (w:World) (hz:Bh w ao rs) (hn:rs.length≤1048576) (hd:∀ r ∈ rs,r.length≤1048576) :
  Calls prog 112 #[.slice ao rs.length cap] w fun e w'=>e=.returned (.slice (some ⟨w.heap.size,0,none⟩) rs.length rs.length) ∧
   w'.ownsRow w.heap.size 9 1 (.slice (some ⟨w.heap.size,0,none⟩) rs.length rs.length) rs.length (Am rs)∧BW w w':=by
 obtain ⟨i0,hi,hz0,hz1,hz2⟩:=info_parts S1;have hm0:=Qc rs.length
 rcases hz with rfl | ⟨b,off,rfl,hb,hcell⟩
 ·go_enter func112,ntmps112
  go_wp2_with (refine wpList_make_full _ rfl (.tmp 7) (.tmp 7) 23 rfl w.heap.size 9 i0 _ 1 underlying23 hi hz0 hz1 .i64 .i64 _ _ 0 rfl rfl rfl rfl (by rw [hz2];omega) (by unfold maxLen;omega) nL ?_;intro w1 hown hg)
  refine wp_loop_rounds 1 ?_;rw [rounds_succ];go_wp2;go_ret
  exact ⟨rfl,by simpa [madeCells,Am] using hown,bR.grown hg nL (fun k hk=>by cases hk)⟩
 ·have HC:Hid (∀ i,i<rs.length→w.cell? ⟨b,off+i,none⟩=some (.string ⟨(Al rs i).toArray⟩)):=hcell
  have HCL:Hid (∀ (i:Nat) (u:World),i<rs.length→Calls prog 138 #[.string ⟨(Al rs i).toArray⟩] u fun e w'=>e=.returned (.string ⟨(Al rs i).toArray⟩)∧BW u w'):=fun i u h=>KI.clone _ u (hd _ (F7 h))
  clear hcell KI hd
  go_enter func112,ntmps112
  go_wp2_with (refine wpList_make_full _ rfl (.tmp 7) (.tmp 7) 23 rfl w.heap.size 9 i0 _ 1 underlying23 hi hz0 hz1 .i64 .i64 _ _ rs.length rfl rfl rfl rfl (by rw [hz2];omega) (by unfold maxLen;omega) nL ?_;intro w1 hown hg)
  rw [hm0,show List.replicate rs.length ([]:List UInt8)=Eg rs 0 from by simp [Eg]] at hown
  have hb1:BW w w1:=bR.grown hg nL (fun k hk=>by cases hk)
  clear hm0 hg
  go_loopw [11] (fun i wr=>∃ k:Nat,k≤rs.length∧i=.int .i64 k∧wr.ownsRow w.heap.size 9 1 (.slice (some ⟨w.heap.size,0,none⟩) rs.length rs.length) rs.length (Am (Eg rs k))∧BW w wr) (fun i _=>rs.length - (intOf i).toNat)
  case atStart=>exact ⟨0,Nat.zero_le _,rfl,hown,hb1⟩
  case round =>
   obtain ⟨k,hk,rfl,ho,hbr⟩:=hrel;clear hown hb1
   by_cases hlt:k<rs.length
   ·have c1:wr.cell? ⟨b,off+k,none⟩=some (.string ⟨(Al rs k).toArray⟩):=(hbr.cell (p:=⟨b,off+k,none⟩) hb).trans (HC.o k hlt)
    have hki:(k:Int)<(rs.length:Int):=by omega
    have HS:Hid _:=Q8 rs k hlt;have HT:Hid _:=Lu (Eg rs k) k (Al rs k)
    have hat:=Hd (Eg rs k) k (by rw [Tq rs k hk];exact hlt)
    rw [Wd rs k hlt] at hat
    have HCK:Hid (∀ u,Calls prog 138 #[.string ⟨(Al rs k).toArray⟩] u fun e w'=>e=.returned (.string ⟨(Al rs k).toArray⟩)∧BW u w'):=fun u=>HCL.o k u hlt
    obtain ⟨s,hf⟩:∃ f,Al rs k=f:=⟨_,rfl⟩;rw [hf] at c1 HS HT HCK;have HO:Hid (wr.ownsRow w.heap.size 9 1 (.slice (some ⟨w.heap.size,0,none⟩) rs.length rs.length) rs.length (Am (Eg rs k))):=ho;have HBR:Hid (BW w wr):=hbr;have HAT:Hid _:=hat;clear ho hf hbr hat;go_wp2_with fail
    refine Calls.mono (HCK.o wr) ?_;rintro e w2 ⟨rfl,p2⟩;have ho2:=Vs HO.o p2
    have c3:w2.cell? ⟨w.heap.size,k,none⟩=some (.string ⟨#[]⟩):=by rw [ho2.cellAt k (by omega)];exact HAT.o
    have c5:w2.frozen? ⟨w.heap.size,k,none⟩=false:=ho2.frozenAt _
    have HR:Hid ((w2.setCell ⟨w.heap.size,k,none⟩ (.string ⟨s.toArray⟩)).ownsRow w.heap.size 9 1 (.slice (some ⟨w.heap.size,0,none⟩) rs.length rs.length) rs.length (Am (Eg rs (k+1)))):=by
     have R:=(ho2.stored k (.string ⟨s.toArray⟩)).1;rw [HT.o,HS.o] at R;exact R
    have HB2:Hid (BW w w2):=next HBR.o p2;clear ho2 p2 c1;go_wp2
    go_roundw
    case rel=>exact ⟨k+1,by omega,by go_num,HR.o,HB2.o.setCell nL _⟩
    case measure=>simp [intOf];omega
   ·have:k=rs.length:=by omega
    subst this;rw [S5] at ho;go_wp2;go_ret;exact ⟨rfl,ho,hbr⟩
end Go.Proofs.YtomiclakhjncbaaGreatDoor.Kb
namespace Go.Proofs.YtomiclakhjncbaaGreatDoor
open Go.RowKit Go.Proofs.Tryz
set_option maxRecDepth 100000
set_option maxHeartbeats 12800000
theorem zN (x n:Int):(uF x n).length≤18:=by
 rcases uG x n with h | ⟨a,m,_,_,h1,h2,h3,h⟩
 ·rw [h];simp
 ·rw [h,vI h1 h3];omega
structure LS (B g:Nat) (w:World) (b:Bk) (p:Bp) (u:World):Prop where
 z0:u.cell? ⟨w.heap.size,0,none⟩=some (.int .i64 b.today)
 z2:u.cell? ⟨w.heap.size,2,none⟩=some (.slice p.a b.az.length p.ac)
 z3:u.cell? ⟨w.heap.size,3,none⟩=some (.slice p.c b.cs.length p.cc)
 cu:A2 B u g
 gr:w.grownBy u (some g)
 az:Ar u p.a b.az
 cs:A0 u p.c b.cs
 lt:g<w.heap.size
 oa:Im p.a g
 oc:Im p.c g
theorem LS.call {B g:Nat} {w:World} {b:Bk} {p:Bp} {u u':World} (q:LS B g w b p u) (c:A2 B u' g) (r:u.grownBy u' (some g)):LS B g w b p u':=by
 have hl:=q.lt
 refine ⟨r.cell (a:=⟨w.heap.size,0,none⟩) q.z0 (by simp;omega),r.cell (a:=⟨w.heap.size,2,none⟩) q.z2 (by simp;omega),r.cell (a:=⟨w.heap.size,3,none⟩) q.z3 (by simp;omega),c,q.gr.trans r,q.az.far r (fun B' e=>by cases e;exact q.oa),q.cs.far r (fun B' e=>by cases e;exact q.oc),q.lt,q.oa,q.oc⟩
theorem K8 {w w':World} (h:BW w w') (r:Option Nat):w.grownBy w' r:=⟨h.os,h.tape,h.output,h.size,fun k hk _=>h.block k hk⟩
theorem LS.below {B g:Nat} {w:World} {b:Bk} {p:Bp} {u u':World} (q:LS B g w b p u) (h:BW u u'):LS B g w b p u':=q.call (A4 q.cu h) (K8 h _)
theorem LS.alloc {B g:Nat} {w:World} {b:Bk} {p:Bp} {u:World} (q:LS B g w b p u) (o:Obj):LS B g w b p (u.alloc o):=q.below (bR.alloc nL _)
theorem LS.drew {B g:Nat} {w:World} {b:Bk} {p:Bp} {u:World} (q:LS B g w b p u):LS B g w b p u.drew:=q.below (bR.drew)
theorem LS.new {B g:Nat} {w:World} {b:Bk} {p:Bp} (hc:A2 B w g) (hx:Aq w b p) (ho:Wq p g) (t:TypeId) :
  LS B g w b p (w.alloc (.cells #[.int .i64 b.today,.slice p.o b.off.length p.oc,.slice p.a b.az.length p.ac,.slice p.c b.cs.length p.cc,.slice p.l b.ls.length p.lc,.slice p.g b.log.length p.gc] t)):=by
 have z:=Z6.new w (.int .i64 b.today) (.slice p.o b.off.length p.oc) (.slice p.a b.az.length p.ac) (.slice p.c b.cs.length p.cc) (.slice p.l b.ls.length p.lc) (.slice p.g b.log.length p.gc) t;have bA:Below w.heap.size w (w.alloc (.cells #[.int .i64 b.today,.slice p.o b.off.length p.oc,.slice p.a b.az.length p.ac,.slice p.c b.cs.length p.cc,.slice p.l b.ls.length p.lc,.slice p.g b.log.length p.gc] t)):=bR.alloc nL _;have hb:=K6 hc
 exact ⟨z.c0,z.c2,z.c3,A3 hc _,K8 bA _,hx.az.below bA,hx.cs.below bA,by omega,ho.a,ho.c⟩
theorem tY {B g:Nat} {w:World} {b:Bk} {p:Bp} {u:World} (q:LS B g w b p u) (n:Int) (hn:n≤1099511627776) :
  Calls prog 79 #[.pointer (some ⟨g,0,none⟩),.int .i64 n] u fun e u'=>∃ x:Int,e=.returned (.int .i64 x)∧0≤x∧(1≤n→x<n)∧LS B g w b p u' :=
 (G4 g n u q.cu hn).mono (by rintro e u' ⟨x,h1,h2,h3,c,r⟩;exact ⟨x,h1,h2,h3,q.call c r⟩)
theorem Aay {B g:Nat} {w:World} {b:Bk} {p:Bp} {u:World} (q:LS B g w b p u) (n:Int) (hn:n≤1099511627776) :
  Calls prog 97 #[.pointer (some ⟨g,0,none⟩),.int .i64 n] u fun e u'=>∃ x:Bool,e=.returned (.bool x)∧LS B g w b p u' :=
 (Y7 g n u q.cu hn).mono (by rintro e u' ⟨x,h1,c,r⟩;exact ⟨x,h1,q.call c r⟩)
theorem Aai {B g:Nat} {w:World} {b:Bk} {p:Bp} {u:World} (q:LS B g w b p u) :
  Calls prog 131 #[.pointer (some ⟨g,0,none⟩),.slice (some ⟨u.heap.size,0,none⟩) 2 2] (u.alloc (.cells #[.int .i64 840,.int .i64 978] 3)) fun e u'=>∃ x:Int,e=.returned (.int .i64 x)∧LS B g w b p u' :=
 (R2 g u.heap.size 2 [840,978] (u.alloc (.cells #[.int .i64 840,.int .i64 978] 3)) (A3 q.cu _) (R5 q.cu) (tX u [840,978] #[.int .i64 840,.int .i64 978] rfl) (by decide) (by decide)).mono (by rintro e u' ⟨x,h1,-,c,r⟩;exact ⟨x,h1,(q.alloc _).call c r⟩)
theorem O7 (a b:ByteArray):(a++b).size=a.size+b.size:=by simp
structure FrB (q:Bp) (n:Nat):Prop where
 o:Cm q.o n
 a:Cm q.a n
 c:Cm q.c n
 l:Cm q.l n
 g:Cm q.g n
theorem Ey {a:Option Addr} {n m:Nat} (h:Cm a n) (hm:m≤n):Cm a m:=fun x hx=>by have:=h x hx;omega
theorem U7 {a a1:Option Addr} {n m:Nat} (h:a=a1∨Cm a n) (h1:Cm a1 m) (hm:m≤n):Cm a m:=by
 rcases h with rfl | h
 ·exact h1
 ·exact Ey h hm
def BoF (Rel:Bk→List UInt8→Bk×Int→Prop) (b:Bk) (line:List UInt8) (w:World) (e:Ending) (w':World):Prop :=
 ∃ r q,Fg Rel b line r∧e=.returned (.tuple #[C5 r.1 q,.int .i64 r.2])∧Aq w' r.1 q∧BW w w'∧FrB q w.heap.size
theorem T5 {Pre:Bk→Prop} {Rel:Bk→List UInt8→Bk×Int→Prop} (D:cB Pre Rel) (b:Bk) (p:Bp) (line:List UInt8) (w:World) (hx:Aq w b p) (hp:Pre b) (hl:line.length≤1048575) :
  Calls prog 31 #[C5 b p,.string ⟨line.toArray⟩] w (BoF Rel b line w):=by
 have hn:=D.small b hp;have HPRE:Hid (Pre b):=hp;clear hp
 have HX:Hid (∀ u,BW w u→Aq u b p):=fun u h=>hx.below h
 have HN:Hid (D0 b):=hn
 have HCP:Hid (∀ u,BW w u→Calls prog 71 #[C5 b p] u (CpR u b)):=fun u h=>Oq b p u (hx.below h) hn
 clear hx hn;obtain ⟨td,fo,az,cs,ls,lg⟩:=b;obtain ⟨o,oc,a,ac,c,cc,l,lc,g,gc⟩:=p;unfold C5 at HCP ⊢
 simp only at HCP ⊢
 obtain ⟨u0,hu0⟩:∃ u,u=((w.alloc (.cells #[.int .i64 td,.slice o fo.length oc,.slice a az.length ac,.slice c cs.length cc,.slice l ls.length lc,.slice g lg.length gc] 31))).alloc (.cells #[.int .i64 0,.slice none 0 0,.slice none 0 0,.slice none 0 0,.slice none 0 0,.slice none 0 0] 31):=⟨_,rfl⟩
 have HB0:Hid (BW w u0):=by rw [Hid,hu0];go_grown
 have HS0:Hid ((w.heap.size+1)<u0.heap.size):=by rw [Hid,hu0];simp
 have HZ0:Hid (Z6 w.heap.size (.int .i64 td) (.slice o fo.length oc) (.slice a az.length ac) (.slice c cs.length cc) (.slice l ls.length lc) (.slice g lg.length gc) u0):=by
  rw [Hid,hu0];exact ((Z6.new w (.int .i64 td) (.slice o fo.length oc) (.slice a az.length ac) (.slice c cs.length cc) (.slice l ls.length lc) (.slice g lg.length gc) 31)).below (bR.alloc nL _)
 have HR0:Hid (Z6 (w.heap.size+1) (.int .i64 0) (.slice none 0 0) (.slice none 0 0) (.slice none 0 0) (.slice none 0 0) (.slice none 0 0) u0):=by
  have h:=Z6.new ((w.alloc (.cells #[.int .i64 td,.slice o fo.length oc,.slice a az.length ac,.slice c cs.length cc,.slice l ls.length lc,.slice g lg.length gc] 31))) (.int .i64 0) (.slice none 0 0) (.slice none 0 0) (.slice none 0 0) (.slice none 0 0) (.slice none 0 0) 31
  rw [Hid,hu0];simpa using h
 have HU0:Hid _:=hu0;clear hu0
 go_enter func31,ntmps31
 go_upto_region 1 with fail
 rw [← HU0.o];clear HU0
 have hcn:lg.length≤1048576:=by have:=HN.o.2.2.2.2;simpa using this
 obtain ⟨t0,t1,t2,t3,t4,t5,s0,s1,s2,s3,s4,s5⟩:=HZ0.o;obtain ⟨q0,q1,q2,q3,q4,q5,p0,p1,p2,p3,p4,p5⟩:=HR0.o;go_wp2_with fail
 refine Calls.mono (HCP.o _ HB0.o) ?_;rintro e u1 ⟨⟨q1,base,rfl,hb1,ho1,hbs,hbz,hah,hfr⟩,b1⟩;obtain ⟨o1,oc1,a1,ac1,c1,cc1,l1,lc1,g1,gc1⟩:=q1;unfold C5
 simp only at ho1 hah hfr ⊢
 have HZ1:Hid _:=HZ0.o.below b1;have HR1:Hid _:=HR0.o.below b1;have HB1:Hid (BW w u1):=next HB0.o b1;have HK1:Hid (Aq u1 ⟨td,fo,az,cs,ls,lg⟩ ⟨o1,oc1,a1,ac1,c1,cc1,l1,lc1,g1,gc1⟩):=hb1;have HO1:Hid (u1.ownsRow base 9 1 (.slice g1 lg.length gc1) lg.length (Am lg)):=ho1;have hs0:=HS0.o
 have HOB:Hid (Wq ⟨o1,oc1,a1,ac1,c1,cc1,l1,lc1,g1,gc1⟩ w.heap.size):=⟨Bb hfr.1 (by omega),Bb hfr.2.1 (by omega),Bb hfr.2.2.1 (by omega),Bb hfr.2.2.2.1 (by omega),Bb hfr.2.2.2.2 (by omega)⟩
 have HOR:Hid (Wq ⟨o1,oc1,a1,ac1,c1,cc1,l1,lc1,g1,gc1⟩ (w.heap.size+1)):=⟨Bb hfr.1 hs0,Bb hfr.2.1 hs0,Bb hfr.2.2.1 hs0,Bb hfr.2.2.2.1 hs0,Bb hfr.2.2.2.2 hs0⟩;have HAH:Hid (Dt o1 base∧Dt a1 base∧Dt c1 base∧Dt l1 base):=hah
 have HFR:Hid (FrB ⟨o1,oc1,a1,ac1,c1,cc1,l1,lc1,g1,gc1⟩ w.heap.size):=⟨Ey hfr.1 (by omega),Ey hfr.2.1 (by omega),Ey hfr.2.2.1 (by omega),Ey hfr.2.2.2.1 (by omega),Ey hfr.2.2.2.2 (by omega)⟩
 have HBS:Hid (w.heap.size+1<base∧base≤u1.heap.size):=⟨by omega,hbz⟩
 clear t0 t1 t2 t3 t4 t5 s0 s1 s2 s3 s4 s5 q0 q1 q2 q3 q4 q5 p0 p1 p2 p3 p4 p5 HZ0 HR0 HB0 HS0 HCP b1 hb1 ho1 hah hfr hbs hbz hs0;obtain ⟨t0,t1,t2,t3,t4,t5,s0,s1,s2,s3,s4,s5⟩:=HZ1.o;obtain ⟨q0,q1,q2,q3,q4,q5,p0,p1,p2,p3,p4,p5⟩:=HR1.o;go_upto_region 2 with fail
 obtain ⟨u2,hu2⟩:∃ u,u=(((((u1.setCell ⟨w.heap.size,0,none⟩ (.int .i64 td)).setCell ⟨w.heap.size,1,none⟩ (.slice o1 fo.length oc1)).setCell ⟨w.heap.size,2,none⟩ (.slice a1 az.length ac1)).setCell ⟨w.heap.size,3,none⟩ (.slice c1 cs.length cc1)).setCell ⟨w.heap.size,4,none⟩ (.slice l1 ls.length lc1)).setCell ⟨w.heap.size,5,none⟩ (.slice g1 lg.length gc1):=⟨_,rfl⟩
 have HZ2:Hid (Z6 w.heap.size (.int .i64 td) (.slice o1 fo.length oc1) (.slice a1 az.length ac1) (.slice c1 cs.length cc1) (.slice l1 ls.length lc1) (.slice g1 lg.length gc1) u2):=by rw [Hid,hu2];exact HZ1.o.put6 _ _ _ _ _ _
 have HR2:Hid (Z6 (w.heap.size+1) (.int .i64 0) (.slice none 0 0) (.slice none 0 0) (.slice none 0 0) (.slice none 0 0) (.slice none 0 0) u2):=by rw [Hid,hu2];exact HR1.o.far6 (by omega) _ _ _ _ _ _
 have HB2:Hid (BW w u2):=by rw [Hid,hu2];exact Ax nL HB1.o _ _ _ _ _ _
 have HK2:Hid (Aq u2 ⟨td,fo,az,cs,ls,lg⟩ ⟨o1,oc1,a1,ac1,c1,cc1,l1,lc1,g1,gc1⟩):=by rw [Hid,hu2];exact HK1.o.put6 HOB.o _ _ _ _ _ _
 have HO2:Hid (u2.ownsRow base 9 1 (.slice g1 lg.length gc1) lg.length (Am lg)):=by rw [Hid,hu2];exact Ea HO1.o (by have:=HBS.o;omega) _ _ _ _ _ _
 have HB2S:Hid (w.heap.size+1<base∧base≤u2.heap.size):=by rw [Hid,hu2];simpa using HBS.o
 rw [← hu2];clear hu2 HZ1 HR1 HB1 HK1 HO1 HBS t0 t1 t2 t3 t4 t5 s0 s1 s2 s3 s4 s5 q0 q1 q2 q3 q4 q5 p0 p1 p2 p3 p4 p5;obtain ⟨t0,t1,t2,t3,t4,t5,s0,s1,s2,s3,s4,s5⟩:=HZ2.o;obtain ⟨q0,q1,q2,q3,q4,q5,p0,p1,p2,p3,p4,p5⟩:=HR2.o
 by_cases hfull:600≤lg.length
 ·have hf':(600:Int)≤(lg.length:Int):=by omega
  go_wp2
  refine bodyPost_ret (by simp [results,results31,go_sem,q0,q1,q2,q3,q4,q5];try rfl) rfl ?_
  exact ⟨(⟨td,fo,az,cs,ls,lg⟩,2),⟨o1,oc1,a1,ac1,c1,cc1,l1,lc1,g1,gc1⟩,.inl ⟨hfull,rfl⟩,rfl,HK2.o.put6 HOR.o _ _ _ _ _ _,Ax (by omega) HB2.o _ _ _ _ _ _,HFR.o⟩
 have hf':¬ (600:Int)≤(lg.length:Int):=by omega
 have HAB:Vb ⟨o1,oc1,a1,ac1,c1,cc1,l1,lc1,g1,gc1⟩ u2.heap.size:=⟨HAH.o.1.mono HB2S.o.2,HAH.o.2.1.mono HB2S.o.2,HAH.o.2.2.1.mono HB2S.o.2,HAH.o.2.2.2.mono HB2S.o.2,G8 HO2.o nL⟩;have HD:Hid _:=D.calls ⟨td,fo,az,cs,ls,lg⟩ ⟨o1,oc1,a1,ac1,c1,cc1,l1,lc1,g1,gc1⟩ line u2 HK2.o HAB HPRE.o hl;clear HAB;have HLOG:Hid _:=D.log ⟨td,fo,az,cs,ls,lg⟩ line;unfold C5 at HD
 simp only at HD
 go_wp2_with fail
 refine Calls.mono HD.o ?_;rintro e u3 ⟨⟨⟨td2,fo2,az2,cs2,ls2,lg2⟩,code⟩,hrel,q2,rfl,hb3,hg3,hgc3,hpt,b3⟩;obtain ⟨o2,oc2,a2,ac2,c2,cc2,l2,lc2,g2,gc2⟩:=q2
 simp only at hg3 hgc3 hpt hrel hb3
 obtain rfl:lg2=lg:=HLOG.o _ hrel;subst hg3;subst hgc3;unfold C5
 simp only
 have HREL:Hid _:=hrel;have HK3:Hid _:=hb3;have HPT:Hid _:=hpt;obtain ⟨V,hV⟩:∃ V,V=u3.alloc (.cells #[.int .i64 td2,.slice o2 fo2.length oc2,.slice a2 az2.length ac2,.slice c2 cs2.length cc2,.slice l2 ls2.length lc2,.slice g2 lg2.length gc2] 31):=⟨_,rfl⟩
 have bV:BW u3 V:=by rw [hV];exact bR.alloc nL _
 have HT:Hid (Z6 u3.heap.size (.int .i64 td2) (.slice o2 fo2.length oc2) (.slice a2 az2.length ac2) (.slice c2 cs2.length cc2) (.slice l2 ls2.length lc2) (.slice g2 lg2.length gc2) V):=by rw [Hid,hV];exact Z6.new u3 (.int .i64 td2) (.slice o2 fo2.length oc2) (.slice a2 az2.length ac2) (.slice c2 cs2.length cc2) (.slice l2 ls2.length lc2) (.slice g2 lg2.length gc2) 31
 have HTO:Hid (∃ cur,V.heap[u3.heap.size]?=some (.cells cur 31)):=by rw [Hid,hV];exact ⟨_,heap_alloc_new u3 _⟩
 have b23:=next b3 bV;have HZ3:Hid (Z6 w.heap.size (.int .i64 td) (.slice o1 fo.length oc1) (.slice a1 az.length ac1) (.slice c1 cs.length cc1) (.slice l1 ls.length lc1) (.slice g2 lg2.length gc2) V):=HZ2.o.below b23;have HR3:Hid (Z6 (w.heap.size+1) (.int .i64 0) (.slice none 0 0) (.slice none 0 0) (.slice none 0 0) (.slice none 0 0) (.slice none 0 0) V):=HR2.o.below b23;have HB3:Hid (BW w V):=next HB2.o b23;have HKB:Hid (Aq V ⟨td,fo,az,cs,ls,lg2⟩ ⟨o1,oc1,a1,ac1,c1,cc1,l1,lc1,g2,gc2⟩):=HK2.o.below b23;have HO3:Hid (V.ownsRow base 9 1 (.slice g2 lg2.length gc2) lg2.length (Am lg2)):=Av HO2.o b23
 have HLB:Hid (∀ B,(Value.slice g2 lg2.length gc2).ownBlock=some B→base≤B∧B<u2.heap.size):=fun B h=>HO2.o.lt B h
 have HG3:Hid (∀ row,u3.grownBy V row):=fun row=>by rw [hV];exact World.grownBy_alloc u3 _ row
 have HS3:Hid (w.heap.size+1<base∧base≤u2.heap.size∧u2.heap.size≤u3.heap.size∧u3.heap.size<V.heap.size):=⟨HB2S.o.1,HB2S.o.2,b3.size,HT.o.lt⟩;have HV:Hid _:=hV;clear hV bV b3 b23 hb3 hpt hrel HZ2 HR2 HB2 HK2 HO2 HB2S HD t0 t1 t2 t3 t4 t5 s0 s1 s2 s3 s4 s5 q0 q1 q2 q3 q4 q5 p0 p1 p2 p3 p4 p5;go_upto_region 5 with fail
 rw [← HV.o];clear HV
 by_cases hcode:code=0
 case neg =>
  have hcb:(code != 0)=true:=by simpa using hcode
  obtain ⟨t0,t1,t2,t3,t4,t5,s0,s1,s2,s3,s4,s5⟩:=HZ3.o;obtain ⟨q0,q1,q2,q3,q4,q5,p0,p1,p2,p3,p4,p5⟩:=HR3.o;go_wp2
  refine bodyPost_ret (by simp [results,results31,go_sem,q0,q1,q2,q3,q4,q5];try rfl) rfl ?_
  exact ⟨(⟨td,fo,az,cs,ls,lg2⟩,code),⟨o1,oc1,a1,ac1,c1,cc1,l1,lc1,g2,gc2⟩,.inr ⟨by show lg2.length<600;omega,_,HREL.o,.inl ⟨hcode,rfl⟩⟩,rfl,HKB.o.put6 HOR.o _ _ _ _ _ _,Ax (by omega) HB3.o _ _ _ _ _ _,HFR.o⟩
 subst hcode;obtain ⟨i0,hi,hz0,hz1,hz2⟩:=info_parts S1;have t5:=(HT.o.below (bR.alloc nL (.cells #[.string ⟨line.toArray⟩] 9))).c5;have t5':=HT.o.c5;obtain ⟨LL,hLL⟩:∃ L,lg2++[line]=L:=⟨_,rfl⟩;have HEQ:Hid (lg2++[line]=LL):=hLL;clear hLL
 have HP:Hid (∀ v5 w5,w5.ownsRow base 9 1 v5 (lg2.length+1) (Am lg2++[.string ⟨line.toArray⟩])→(V.alloc (.cells #[.string ⟨line.toArray⟩] 9)).grownBy w5 (Value.slice g2 lg2.length gc2).ownBlock →
   ∃ a5 k5,v5=.slice a5 LL.length k5∧w5.ownsRow base 9 1 (.slice a5 LL.length k5) LL.length (Am LL)∧Z6 u3.heap.size (.int .i64 td2) (.slice o2 fo2.length oc2) (.slice a2 az2.length ac2) (.slice c2 cs2.length cc2) (.slice l2 ls2.length lc2) (.slice g2 lg2.length gc2) w5∧Z6 (w.heap.size+1) (.int .i64 0) (.slice none 0 0) (.slice none 0 0) (.slice none 0 0) (.slice none 0 0) (.slice none 0 0) w5∧u3.grownBy w5 (Value.slice g2 lg2.length gc2).ownBlock∧BW w w5∧Im a5 u3.heap.size):=by
  intro v5 w5 o5 g5;have hs3:=HS3.o
  have hne:some u3.heap.size≠(Value.slice g2 lg2.length gc2).ownBlock:=fun e=>by have:=HLB.o _ e.symm;omega
  have hneR:some (w.heap.size+1)≠(Value.slice g2 lg2.length gc2).ownBlock:=fun e=>by have:=HLB.o _ e.symm;omega
  have ga:=World.grownBy_alloc V (.cells #[.string ⟨line.toArray⟩] 9) (Value.slice g2 lg2.length gc2).ownBlock;have gv:=ga.trans g5
  have e1:lg2.length+1=LL.length:=by rw [← HEQ.o];simp
  have e2:Am lg2++[.string ⟨line.toArray⟩]=Am LL:=by rw [← HEQ.o,F6];rfl
  rw [e1,e2] at o5;obtain ⟨a5,k5,hv⟩:=Hb o5;subst hv
  refine ⟨a5,k5,rfl,o5,HT.o.grown gv hne,HR3.o.grown gv hneR,(HG3.o _).trans gv,HB3.o.grown gv HB3.o.size (fun B hB=>by have:=HLB.o B hB;omega),?_⟩
  intro x hx e;subst hx;obtain ⟨cur,hcur⟩:=HTO.o;have hT:w5.heap[u3.heap.size]?=some (.cells cur 31):=(gv.block _ hs3.2.2.2 hne).trans hcur
  rcases o5.2 with ⟨h,_⟩ | ⟨g,cap,cr,h,_,hg,_⟩
  ·cases h
  ·have hxg:x.block=g:=by
     injection h with h _ _
     injection h with h
     rw [h]
   rw [← hxg,e,hT] at hg
   injection hg with hg
   injection hg with _ h2
   exact absurd h2 (by decide)
 have HOA:Hid ((V.alloc (.cells #[.string ⟨line.toArray⟩] 9)).ownsRow base 9 1 (.slice g2 lg2.length gc2) lg2.length (Am lg2)):=HO3.o.alloc _
 go_upto_region 8 with (at_builtin;refine wpList_append_own _ rfl (.tmp 26) (.tmp 28) 23 rfl base 9 i0 (.string ⟨#[]⟩) 1 16 underlying23 hi hz0 hz1 hz2 rfl (by decide) _ _ _ rfl HOA.o ⟨V.heap.size,0,none⟩ 1 1 [.string ⟨line.toArray⟩] rfl rfl (World.news_of_block (heap_alloc_new V _)) (Rf _) (by unfold maxLen;omega) (by omega) (by have:=HS3.o;simp;omega) ?_;intro v5 w5 o5 g5 _;obtain ⟨a5,k5,hv5,o6,zt,zr,gg,bb,hoff⟩:=HP.o v5 w5 o5 g5;subst hv5;have y5:=zt.c5;have f5:=zt.z5;have HO6:Hid _:=o6;have HZT:Hid _:=zt;have HZR:Hid _:=zr;have HGG:Hid _:=gg;have HBB:Hid _:=bb;have HOF:Hid _:=hoff;clear o5 g5 o6 zt zr gg bb hoff)
 obtain ⟨u6,hu6⟩:∃ u,u=w5.setCell ⟨u3.heap.size,5,none⟩ (.slice a5 LL.length k5):=⟨_,rfl⟩;have hs3:=HS3.o
 have HT6:Hid (Z6 u3.heap.size (.int .i64 td2) (.slice o2 fo2.length oc2) (.slice a2 az2.length ac2) (.slice c2 cs2.length cc2) (.slice l2 ls2.length lc2) (.slice a5 LL.length k5) u6):=by rw [Hid,hu6];exact HZT.o.set5 _
 have HR6:Hid (Z6 (w.heap.size+1) (.int .i64 0) (.slice none 0 0) (.slice none 0 0) (.slice none 0 0) (.slice none 0 0) (.slice none 0 0) u6):=by rw [Hid,hu6];exact HZR.o.far (by omega)
 have HB6:Hid (BW w u6):=by rw [Hid,hu6];exact HBB.o.setCell (show w.heap.size≤u3.heap.size by omega) _
 have HG6:Hid (u3.grownBy u6 (Value.slice g2 lg2.length gc2).ownBlock):=by rw [Hid,hu6];exact aC HGG.o nL
 have HL6:Hid (u6.ownsRow base 9 1 (.slice a5 LL.length k5) LL.length (Am LL)):=by
  rw [Hid,hu6];refine World.ownsRow.kept HO6.o (An _ _ _ _) ?_
  by_cases e:(Value.slice a5 LL.length k5).ownBlock=none
  ·exact .inl e
  ·refine .inr fun e2=>?_
   cases a5 with
   | none=>simp [Value.ownBlock] at e
   | some x =>
    have hx:x.block=u3.heap.size:=by simpa [Value.ownBlock] using e2
    exact HOF.o x rfl hx
 rw [← hu6];clear hu6 HZT HZR HBB HGG HO6 HOF HOA HP y5 f5 t5 t5' HT HTO HZ3 HR3 HB3 HKB HO3;obtain ⟨t0,t1,t2,t3,t4,t5,-,-,-,-,-,-⟩:=HT6.o;obtain ⟨q0,q1,q2,q3,q4,q5,p0,p1,p2,p3,p4,p5⟩:=HR6.o;go_wp2
 refine bodyPost_ret (by simp [results,results31,go_sem,q0,q1,q2,q3,q4,q5];try rfl) rfl ?_
 obtain ⟨pe,pa,pc,pl⟩:=HPT.o;have hK:=HK3.o;have hah:=HAH.o;have hor:=HOR.o;have hgg:=HG6.o;have hlb:=HLB.o
 have HF:Aq u6 ⟨td2,fo2,az2,cs2,ls2,LL⟩ ⟨o2,oc2,a2,ac2,c2,cc2,l2,lc2,a5,k5⟩ :=
  ⟨hK.off.far hgg (fun B e=>Mz (.inl pe) hah.1 (hlb B e).1 (hlb B e).2),hK.az.far hgg (fun B e=>Mz pa hah.2.1 (hlb B e).1 (hlb B e).2),hK.cs.far hgg (fun B e=>Mz pc hah.2.2.1 (hlb B e).1 (hlb B e).2),hK.ls.far hgg (fun B e=>Mz pl hah.2.2.2 (hlb B e).1 (hlb B e).2),Ep HL6.o⟩
 have HQ:Wq ⟨o2,oc2,a2,ac2,c2,cc2,l2,lc2,a5,k5⟩ (w.heap.size+1) :=
  ⟨Ky (n:=u2.heap.size) (.inl pe) hor.o (by omega),Ky pa hor.a (by omega),Ky pc hor.c (by omega),Ky pl hor.l (by omega),Bb (Cw HL6.o) (by omega)⟩
 refine ⟨(⟨td2,fo2,az2,cs2,ls2,LL⟩,0),⟨o2,oc2,a2,ac2,c2,cc2,l2,lc2,a5,k5⟩,.inr ⟨by show lg2.length<600;omega,_,HREL.o,.inr ⟨rfl,by rw [← HEQ.o]⟩⟩,rfl,HF.put6 HQ _ _ _ _ _ _,Ax (by omega) HB6.o _ _ _ _ _ _,?_⟩
 have hfr:=HFR.o
 exact ⟨pe ▸ hfr.o,U7 pa hfr.a (by omega),U7 pc hfr.c (by omega),U7 pl hfr.l (by omega),Ey (Cw HL6.o) (by omega)⟩
def NoB (x:List UInt8):Prop:=∀ c ∈ x,c≠32
theorem L2 {x:List UInt8} (h:x.all (fun c=>c != 32)=true):NoB x:=fun c hc e=>by
 have:=List.all_eq_true.1 h c hc
 rw [e] at this
 exact absurd this (by decide)
theorem xI {x r:List UInt8} (hx:NoB x):∀ i,i≤x.length→B0 (x++32::r) i=([],0):=by
 intro i
 induction i with
 | zero=>intro _;rfl
 | succ i ih =>
  intro hi
  have hg:(x++32::r).getD i 0=x[i]:=by
   rw [List.getD_eq_getElem?_getD,List.getElem?_append_left (by omega),List.getElem?_eq_getElem (by omega)]
   rfl
  rw [J7 (by rw [hg];exact hx _ (List.getElem_mem _))]
  exact ih (by omega)
theorem yK (x r:List UInt8) (s:Nat):(x++32::r).drop (x.length+1+s)=r.drop s:=by
 rw [List.drop_append,List.drop_of_length_le (by omega),List.nil_append,show x.length+1+s - x.length=s+1 from by omega]
 rfl
theorem xB {x r:List UInt8} (hx:NoB x):∀ j,j≤r.length→B0 (x++32::r) (x.length+1+j)=(x::(B0 r j).1,x.length+1+(B0 r j).2):=by
 intro j
 induction j with
 | zero =>
  intro _
  have hg:(x++32::r).getD x.length 0=32:=by simp [List.getD_eq_getElem?_getD]
  show B0 (x++32::r) (x.length+1)=_
  rw [Kw hg,xI hx _ nL]
  simp [B0]
 | succ j ih =>
  intro hj
  have h:=ih (by omega)
  have hg:(x++32::r).getD (x.length+1+j) 0=r.getD j 0:=by
   rw [List.getD_eq_getElem?_getD,List.getElem?_append_right (by omega),show x.length+1+j - x.length=j+1 from by omega]
   simp [List.getD_eq_getElem?_getD]
  have hle:=(Mo r j).1
  by_cases h32:r.getD j 0=32
  ·rw [show x.length+1+(j+1)=(x.length+1+j)+1 from by omega,Kw (by rw [hg];exact h32),h,Kw h32]
   simp only [List.cons_append]
   rw [yK,show x.length+1+j - (x.length+1+(B0 r j).2)=j - (B0 r j).2 from by omega]
   rfl
  ·rw [show x.length+1+(j+1)=(x.length+1+j)+1 from by omega,J7 (by rw [hg];exact h32),h,J7 h32]
theorem L4 {x r:List UInt8} (hx:NoB x):Ab (x++32::r)=x::Ab r:=by
 have h:=xB hx (r:=r) r.length nL
 have hl:(x++32::r).length=x.length+1+r.length:=by simp;omega
 rw [Ab,hl,h,Ab]
 simp only [List.cons_append]
 rw [yK]
def K5 (l:List UInt8):Prop:=(Bq (Ab l)=true→Al (Ab l) 1≠[]∧Ae (Al (Ab l) 2)≤8)∧(Da (Ab l)=true→Ae (Al (Ab l) 1)≤8∧Ae (Al (Ab l) 2)≤8)
theorem wN {s:List UInt8} (h:Dr s≤8):Ae s≤8:=by
 unfold Ae
 split
 ·omega
 ·split
  ·omega
  ·exact h
theorem xF {m:Nat} (h:m≤8):Dr [UInt8.ofNat (48+m)]≤8:=by
 rcases (show m=0∨m=1∨m=2∨m=3∨m=4∨m=5∨m=6∨m=7∨m=8 from by omega) with rfl | rfl | rfl | rfl | rfl | rfl | rfl | rfl | rfl <;> decide
theorem Aac {m:Nat} (h:m≤9):NoB [UInt8.ofNat (48+m)]:=by
 intro c hc;rw [List.mem_singleton] at hc;subst hc
 rcases (show m=0∨m=1∨m=2∨m=3∨m=4∨m=5∨m=6∨m=7∨m=8∨m=9 from by omega) with rfl | rfl | rfl | rfl | rfl | rfl | rfl | rfl | rfl | rfl <;> decide
theorem Pl {x:List UInt8} (hx:NoB x) (h1:x≠Dy) (h2:x≠I7) (r:List UInt8):K5 (x++32::r):=by
 have e:Al (Ab (x++32::r)) 0=x:=by rw [L4 hx];rfl
 constructor
 ·intro h
  unfold Bq at h;rw [e,decide_eq_false h1] at h
  cases h
 ·intro h
  unfold Da at h;rw [e,decide_eq_false h2] at h
  cases h
theorem uC {A D:List UInt8} (hA0:A≠[]) (hA:NoB A) (hD:NoB D) (h:Dr D≤8) (r:List UInt8):K5 ([97,117,116,104]++32::(A++32::(D++32::r))):=by
 have e:Ab ([97,117,116,104]++32::(A++32::(D++32::r)))=[97,117,116,104]::A::D::Ab r:=by
  rw [L4 (L2 (by decide)),L4 hA,L4 hD]
 constructor
 ·intro _
  rw [e];exact ⟨hA0,wN h⟩
 ·intro h
  unfold Da at h
  rw [e,show Al ([97,117,116,104]::A::D::Ab r) 0=[97,117,116,104] from rfl,show decide (([97,117,116,104]:List UInt8)=I7)=false from by decide] at h
  cases h
theorem tT {A D:List UInt8} (hA:NoB A) (hD:NoB D) (h:Dr A≤8) (h':Dr D≤8) (r:List UInt8):K5 ([112,97,121]++32::(A++32::(D++32::r))):=by
 have e:Ab ([112,97,121]++32::(A++32::(D++32::r)))=[112,97,121]::A::D::Ab r:=by
  rw [L4 (L2 (by decide)),L4 hA,L4 hD]
 constructor
 ·intro h
  unfold Bq at h
  rw [e,show Al ([112,97,121]::A::D::Ab r) 0=[112,97,121] from rfl,show decide (([112,97,121]:List UInt8)=Dy)=false from by decide] at h
  cases h
 ·intro _
  rw [e];exact ⟨wN h,wN h'⟩
structure Par (b:Bk):Prop where
 ia:∀ a ∈ b.az,1≤a.iss∧a.iss≤8
 pc:∀ c ∈ b.cs,(1≤c.iss∧c.iss≤8)∧(1≤c.acq∧c.acq≤8)
end Go.Proofs.YtomiclakhjncbaaGreatDoor
