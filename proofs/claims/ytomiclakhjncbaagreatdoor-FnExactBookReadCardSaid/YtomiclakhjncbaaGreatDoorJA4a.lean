import Derived.Test.YtomiclakhjncbaaGreatDoorKASAddL
import Derived.Deep.RegionLaw
import Derived.Deep.AppendLies
import Derived.Lib.AppendZeros
import Derived.Test.YtomiclakhjncbaaGreatDoorJA3a
import Derived.Test.YtomiclakhjncbaaGreatDoorJA1a
import Derived.Test.YtomiclakhjncbaaGreatDoorKABkNumW
import Derived.Test.YtomiclakhjncbaaGreatDoorJA0a
import Derived.Test.YtomiclakhjncbaaGreatDoorJA2a
import Derived.Test.YtomiclakhjncbaaGreatDoorKACStart
import Derived.Test.YtomiclakhjncbaaGreatDoorKACLaw
import Derived.Test.YtomiclakhjncbaaGreatDoorKAOff
import Derived.Deep.DeepCutAuto
import Derived.Deep.RegionHeld3
import Derived.Deep.RegionWith
import Derived.Test.YtomiclakhjncbaaGreatDoorKALnLaw2
import Derived.WalkKit
import Derived.Test.YtomiclakhjncbaaGreatDoorKAHpBest
namespace Go.Proofs.YtomiclakhjncbaaGreatDoor
open Go.RowKit
set_option maxRecDepth 100000
set_option maxHeartbeats 12800000
theorem lines_news {w:World} {a:Addr} {ls:List Ln} (h:LinesAt w (some a) ls):∀ j u,(lcells ls)[j]?=some u→w.cell? (a.add j)=some u:=by
 intro j u hj
 have hlt:j<ls.length*3:=by
  rw [← lcells_len]
  exact (List.getElem?_eq_some_iff.1 hj).1
 rcases h with rfl | ⟨b',off',hq,hb,hc⟩
 ·simp at hlt
 ·obtain rfl:a=⟨b',off',none⟩:=by simpa using hq
  have e:((⟨b',off',none⟩:Addr).add j)=⟨b',off'+j,none⟩:=by unfold Addr.add;split <;> simp_all
  have hk:=hc (j / 3) (by omega)
  have hf:=lcells_at ls (j / 3) (by omega)
  rw [e]
  rcases (show j % 3=0∨j % 3=1∨j % 3=2 by omega) with m | m | m
  ·have hj':j=j / 3*3:=by omega
   rw [hj',hf.1] at hj
   rw [hj',hk.1];exact hj
  ·have hj':j=j / 3*3+1:=by omega
   rw [hj',hf.2.1] at hj
   rw [hj',← Nat.add_assoc,hk.2.1];exact hj
  ·have hj':j=j / 3*3+2:=by omega
   rw [hj',hf.2.2] at hj
   rw [hj',← Nat.add_assoc,hk.2.2];exact hj
theorem run_append_lines (w:World) (base:Nat) (ty:TypeId) (v:Value) (n:Nat) (cs:List Value) (hown:w.ownsRow base 113 3 v n cs) (ao:Option Addr) (c:Nat) (ls:List Ln) (hz:LinesAt w ao ls)
  (hn:n+ls.length≤4000000) (hbase:base≤w.heap.size) :
  ∃ v' w',(Builtin.append_ #[27,27] ty #[v,.slice ao ls.length c]).run Tryz.prog w=.ok v' w'∧w'.ownsRow base 113 3 v' (n+ls.length) (cs++lcells ls)∧w.grownBy w' v.ownBlock:=by
 obtain ⟨i0,hi,hz0,hz1,hz2⟩:=info_parts infoL
 cases ao with
 | none =>
  have hf:ls=[]:=by
   rcases hz with h | ⟨b,off,h,_⟩
   ·exact h
   ·cases h
  subst hf
  refine ⟨v,w,?_,by simpa [lcells] using hown,⟨rfl,rfl,rfl,Nat.le_refl _,fun _ _ _=>rfl⟩⟩
  have hu:=Tryz.underlying27
  rcases hown.2 with ⟨rfl,rfl⟩ | ⟨g,cap,cur,rfl,hbg,hg,hnc,hcm,hcs,htake⟩
  ·simp [Builtin.append_,run_underlying hu,sizeOf,typeInfo,hi,Builtin.lenOf,Builtin.firstCells]
  ·simp [Builtin.append_,run_underlying hu,sizeOf,typeInfo,hi,Builtin.lenOf,Builtin.firstCells,loadCells,hnc,storeCells]
 | some a =>
  obtain ⟨v',w',h1,h2,h3,_,_⟩:=run_append_own_at (P:=Tryz.prog) w base 27 ty 113 i0 _ 3 24 Tryz.underlying27 hi hz0 hz1 hz2 rfl (by decide) v n cs hown a ls.length c (lcells ls) (lcells_len ls) (lines_news hz) (lcells_one ls) (by unfold maxLen;omega) (by omega) hbase
  exact ⟨v',w',h1,h2,h3⟩
theorem wpList_append_lines {ops:Array Oper} {rest:List Oper} {o:Oper} {a:Act} {Q:Exit→Act→World→Prop} (w:World) (hgd:o.guard=none) (s x:Operand)
  (ho:o.op=.call { callee:=.builtin .append,args:=#[s,x],argTypes:=#[27,27] }) (base:Nat) (v:Value) (n:Nat) (cs:List Value) (hs:a.eval s=v) (hown:w.ownsRow base 113 3 v n cs)
  (ao:Option Addr) (c:Nat) (ls:List Ln) (hx:a.eval x=.slice ao ls.length c) (hz:LinesAt w ao ls) (hn:n+ls.length≤4000000) (hbase:base≤w.heap.size)
  (h:∀ v' w',w'.ownsRow base 113 3 v' (n+ls.length) (cs++lcells ls)→w.grownBy w' v.ownBlock→wpList Tryz.prog ops Q rest (a.put o.dst v') w'):wpList Tryz.prog ops Q (o::rest) a w:=by
 obtain ⟨v',w',hr,h1,h2⟩:=run_append_lines w base o.type v n cs hown ao c ls hz hn hbase
 exact Lib.wpList_append_run w hgd s x _ _ ho _ _ hs hx v' w' hr (h v' w' h1 h2)
def LedR (w:World) (ls:List Ln) (e:Ending) (w':World):Prop :=
 ∃ ao cap,e=.returned (.agg #[.slice ao ls.length cap])∧w'.ownsRow w.heap.size 113 3 (.slice ao ls.length cap) ls.length (lcells ls)∧Below w.heap.size w w'
theorem sCopy_any (ao:Option Addr) (cap:Nat) (ls:List Ln) (w:World) (hz:LinesAt w ao ls) (hn:ls.length≤1048577) :
  Calls Tryz.prog 123 #[.agg #[.slice ao ls.length cap]] w (LedR w ls):=by
 obtain ⟨W,hW⟩:∃ W,W=((w.alloc (.cells #[.slice ao ls.length cap] 29)).alloc (.cells #[.slice none 0 0] 29)).alloc (.cells #[] 113):=⟨_,rfl⟩
 have hWs:W.heap.size=w.heap.size+3:=by rw [hW];simp
 have bW:Below w.heap.size w W:=by rw [hW];go_grown
 have HOE:Hid (W.ownsRow (w.heap.size+2) 113 3 (.slice (some ⟨w.heap.size+1+1,0,none⟩) 0 0) 0 (lcells [])):=by
  have h:=World.ownsRow_lit (base:=w.heap.size+2) (e:=113) (size:=3) ((w.alloc (.cells #[.slice ao ls.length cap] 29)).alloc (.cells #[.slice none 0 0] 29)) #[] 0 (by simp) (by unfold maxLen;omega) rfl
  rw [Hid,hW];simpa [lcells] using h
 have HZ:Hid (LinesAt W ao ls):=hz.below bW
 have c1:W.cell? ⟨w.heap.size+1,0,none⟩=some (.slice none 0 0):=by rw [hW];simp [go_sem]
 have c0:W.cell? ⟨w.heap.size,0,none⟩=some (.slice ao ls.length cap):=by rw [hW];simp [go_sem]
 have z1:W.frozen? ⟨w.heap.size+1,0,none⟩=false:=by rw [hW];simp [go_sem]
 have HWE:Hid _:=hW
 have HWZ:Hid _:=hWs
 clear hz
 go_enter Tryz.func123,Tryz.ntmps123
 have HSTEP:Hid (∀ v2 w2,w2.ownsRow (w.heap.size+2) 113 3 v2 (0+ls.length) (lcells []++lcells ls)→W.grownBy w2 (Value.slice (some ⟨w.heap.size+1+1,0,none⟩) 0 0).ownBlock→∃ a2 k2,v2=.slice a2 ls.length k2∧w2.ownsRow (w.heap.size+2) 113 3 (.slice a2 ls.length k2) ls.length (lcells ls) ∧
   w2.cell? ⟨w.heap.size+1,0,none⟩=some (.slice none 0 0)∧w2.frozen? ⟨w.heap.size+1,0,none⟩=false∧Below w.heap.size w w2):=by
  intro v2 w2 o2 g2
  rw [Nat.zero_add,show lcells []++lcells ls=lcells ls from rfl] at o2
  obtain ⟨a2,k2,hv2,-,-⟩:=lines_of_own o2
  subst hv2
  have hne:some (w.heap.size+1)≠(Value.slice (some ⟨w.heap.size+1+1,0,none⟩) 0 0).ownBlock:=by simp [Value.ownBlock]
  exact ⟨a2,k2,rfl,o2,(g2.cell_far ⟨w.heap.size+1,0,none⟩ (by show w.heap.size+1<W.heap.size;omega) hne).trans c1,(g2.frozen_far ⟨w.heap.size+1,0,none⟩ (by show w.heap.size+1<W.heap.size;omega) hne).trans z1,bW.grown g2 bW.size (fun j hj=>by
   have:w.heap.size+1+1=j:=by simpa [Value.ownBlock] using hj
   omega)⟩
 clear c1 z1
 go_wp2_with (at_builtin;rw [← HWE.out];refine wpList_append_lines _ rfl (.tmp 3) (.tmp 5) rfl (w.heap.size+2) _ 0 _ rfl HOE.out ao cap ls rfl HZ.out (by omega) (by have:=HWZ.out;omega) ?_;intro v2 w2 o2 g2;obtain ⟨a2,k2,hv2,o3,d1,e1,b2⟩:=HSTEP.out v2 w2 o2 g2;subst hv2;have HO3:Hid (w2.ownsRow (w.heap.size+2) 113 3 (.slice a2 ls.length k2) ls.length (lcells ls)):=o3;have HB2:Hid (Below w.heap.size w w2):=b2;clear o2 g2 o3 b2)
 refine bodyPost_ret (by simp [results,Tryz.results123,go_sem,d1];try rfl) rfl ?_
 refine ⟨a2,k2,rfl,?_,HB2.out.setCell (by show w.heap.size≤w.heap.size+1;omega) _⟩
 exact lowerL (keepSetL HO3.out _ _ (fun g hg=>by have:=(HO3.out.lt g hg).1;simp only;omega)) (by omega)
theorem any_shape {w:World} {base n sz:Nat} {t:TypeId} {v:Value} {xs:List Value} (h:w.ownsRow base t sz v n xs):∃ ao cap,v=.slice ao n cap:=by
 rcases h.2 with ⟨rfl,rfl⟩ | ⟨g,c,cur,rfl,_⟩
 ·exact ⟨none,0,rfl⟩
 ·exact ⟨_,c,rfl⟩
theorem app_step {u w2:World} {o:Obj} {g:Nat} (hg:g=u.heap.size) (h:(u.alloc o).grownBy w2 (some g)):Below u.heap.size u w2 :=
 (((Below.refl u.heap.size u).alloc (Nat.le_refl _) o)).grown h (by simp) (fun k hk=>by cases hk;omega)
def Ahead (a:Option Addr) (n:Nat):Prop:=∀ x,a=some x→x.block<n
def Fresh (a:Option Addr) (n:Nat):Prop:=∀ x,a=some x→n≤x.block
theorem own_ahead {w:World} {base n cap sz m:Nat} {t:TypeId} {a:Option Addr} {xs:List Value} (h:w.ownsRow base t sz (.slice a n cap) n xs) (hm:w.heap.size≤m):Ahead a m:=by
 intro x hx
 subst hx
 have:=(h.lt x.block rfl).2
 omega
theorem own_fresh {w:World} {base n cap sz:Nat} {t:TypeId} {a:Option Addr} {xs:List Value} (h:w.ownsRow base t sz (.slice a n cap) n xs):Fresh a base:=by
 intro x hx
 subst hx
 exact (h.lt x.block rfl).1
structure CpR (w:World) (b:Bk) (e:Ending) (w':World):Prop where
 res:∃ q base,e=.returned (bkv b q)∧BookAt w' b q∧w'.ownsRow base 9 1 (.slice q.g b.log.length q.gc) b.log.length (scells b.log)∧w.heap.size≤base∧base≤w'.heap.size∧(Ahead q.o base∧Ahead q.a base∧Ahead q.c base∧Ahead q.l base)∧(Fresh q.o w.heap.size∧Fresh q.a w.heap.size∧Fresh q.c w.heap.size∧Fresh q.l w.heap.size∧Fresh q.g w.heap.size)
 bel:Below w.heap.size w w'
theorem sBkCopy_any (b:Bk) (p:Bp) (w:World) (hx:BookAt w b p) (hn:bkSm b) :
  Calls Tryz.prog 71 #[bkv b p] w (CpR w b):=by
 have HX:Hid (∀ u,Below w.heap.size w u→BookAt u b p):=fun u h=>hx.below h
 have HN:Hid (bkSm b):=hn
 clear hx hn
 obtain ⟨td,fo,az,cs,ls,lg⟩:=b
 obtain ⟨o,oc,a,ac,c,cc,l,lc,g,gc⟩:=p
 unfold bkv
 simp only
 obtain ⟨u0,hu0⟩:∃ u,u=(w.alloc (.cells #[.int .i64 td,.slice o fo.length oc,.slice a az.length ac,.slice c cs.length cc,.slice l ls.length lc,.slice g lg.length gc] 31)).alloc (.cells #[.int .i64 0,.slice none 0 0,.slice none 0 0,.slice none 0 0,.slice none 0 0,.slice none 0 0] 31):=⟨_,rfl⟩
 have HB0:Hid (Below w.heap.size w u0):=by rw [Hid,hu0];go_grown
 have HS0:Hid (w.heap.size+1+1≤u0.heap.size):=by rw [Hid,hu0];simp
 have HZ0:Hid (Z6 w.heap.size (.int .i64 td) (.slice o fo.length oc) (.slice a az.length ac) (.slice c cs.length cc) (.slice l ls.length lc) (.slice g lg.length gc) u0):=by
  rw [Hid,hu0]
  exact (Z6.new w (.int .i64 td) (.slice o fo.length oc) (.slice a az.length ac) (.slice c cs.length cc) (.slice l ls.length lc) (.slice g lg.length gc) 31).below ((Below.refl _ _).alloc (Nat.le_refl _) _)
 have HR0:Hid (Z6 (w.heap.size+1) (.int .i64 0) (.slice none 0 0) (.slice none 0 0) (.slice none 0 0) (.slice none 0 0) (.slice none 0 0) u0):=by
  have h:=Z6.new (w.alloc (.cells #[.int .i64 td,.slice o fo.length oc,.slice a az.length ac,.slice c cs.length cc,.slice l ls.length lc,.slice g lg.length gc] 31)) (.int .i64 0) (.slice none 0 0) (.slice none 0 0) (.slice none 0 0) (.slice none 0 0) (.slice none 0 0) 31
  rw [Hid,hu0];simpa using h
 have HU0:Hid _:=hu0
 clear hu0
 go_enter Tryz.func71,Tryz.ntmps71
 go_upto_region 1 with fail
 rw [← HU0.out]
 clear HU0
 have n1:fo.length≤1048576:=by have:=HN.out.1;simpa using this
 have x1:=(HZ0.out.below ((Below.refl _ _).alloc (Nat.le_refl _) (.cells #[] 3))).c1
 have HE1:Hid ((u0.alloc (.cells #[] 3)).ownsRow (w.heap.size+1+1) 3 1 (.slice (some ⟨u0.heap.size,0,none⟩) 0 0) 0 []):=by
  have h:=World.ownsRow_lit (base:=w.heap.size+1+1) (e:=3) (size:=1) u0 #[] 0 HS0.out (by unfold maxLen;omega) rfl
  rw [Hid];simpa using h
 have HI1:Hid _:=(HX.out _ (HB0.out.alloc HB0.out.size (.cells #[] 3))).off
 simp only at HI1
 have HP1:Hid (∀ v2 w2,w2.ownsRow (w.heap.size+1+1) 3 1 v2 (0+fo.length) ([]++(fo.map (Value.int .i64)))→(u0.alloc (.cells #[] 3)).grownBy w2 (some u0.heap.size)→∃ a9 k9,v2=.slice a9 fo.length k9∧w2.ownsRow (w.heap.size+1+1) 3 1 (.slice a9 fo.length k9) fo.length (fo.map (Value.int .i64))∧Z6 w.heap.size (.int .i64 td) (.slice o fo.length oc) (.slice a az.length ac) (.slice c cs.length cc) (.slice l ls.length lc) (.slice g lg.length gc) w2∧Below u0.heap.size u0 w2):=by
  intro v2 w2 o2 g2
  rw [Nat.zero_add,List.nil_append] at o2
  obtain ⟨a9,k9,hv⟩:=any_shape o2
  subst hv
  have b2:=app_step rfl g2
  exact ⟨a9,k9,rfl,o2,HZ0.out.below b2,b2⟩
 go_upto_region 2 with (at_builtin;refine wpList_append_intsAt _ rfl (.tmp 3) (.tmp 5) rfl (w.heap.size+1+1) _ 0 [] rfl HE1.out o oc fo rfl HI1.out (by omega) (by have:=HS0.out;simp;omega) ?_;intro v2 w2 o2 g2;obtain ⟨b1,k1,hv2,r1,zz,bb⟩:=HP1.out v2 w2 o2 g2;subst hv2;have y1:=zz.c1;have f1:=zz.z1;have HRW1:Hid _:=r1;have HZW1:Hid _:=zz;have HBB1:Hid _:=bb;clear o2 g2 zz bb r1)
 clear HE1 HI1 HP1 x1
 obtain ⟨u1,hu1⟩:∃ u,u=w2.setCell ⟨w.heap.size,1,none⟩ (.slice b1 fo.length k1):=⟨_,rfl⟩
 have HZ1:Hid (Z6 w.heap.size (.int .i64 td) (.slice b1 fo.length k1) (.slice a az.length ac) (.slice c cs.length cc) (.slice l ls.length lc) (.slice g lg.length gc) u1):=by rw [Hid,hu1];exact HZW1.out.set1 _
 have HR1:Hid (Z6 (w.heap.size+1) (.int .i64 0) (.slice none 0 0) (.slice none 0 0) (.slice none 0 0) (.slice none 0 0) (.slice none 0 0) u1):=by rw [Hid,hu1];exact (HR0.out.below HBB1.out).far (by omega)
 have HB1:Hid (Below w.heap.size w u1):=by rw [Hid,hu1];exact (next HB0.out HBB1.out).setCell (Nat.le_refl _) _
 have HS1:Hid (w.heap.size+1+1≤u1.heap.size):=by rw [Hid,hu1];have:=HBB1.out.size;have:=HS0.out;simp;omega
 have HO1_1:Hid (u1.ownsRow (w.heap.size+1+1) 3 1 (.slice b1 fo.length k1) fo.length (fo.map (Value.int .i64))):=by rw [Hid,hu1];exact row_far (HRW1.out) (by omega)
 rw [← hu1]
 clear hu1 y1 f1 HZW1 HRW1 HBB1 HZ0 HR0 HB0 HS0 n1
 have n2:az.length≤1048576:=by have:=HN.out.2.1;simpa using this
 have x2:=(HZ1.out.below ((Below.refl _ _).alloc (Nat.le_refl _) (.cells #[] 107))).c2
 have HE2:Hid ((u1.alloc (.cells #[] 107)).ownsRow (w.heap.size+1+1) 107 6 (.slice (some ⟨u1.heap.size,0,none⟩) 0 0) 0 []):=by
  have h:=World.ownsRow_lit (base:=w.heap.size+1+1) (e:=107) (size:=6) u1 #[] 0 HS1.out (by unfold maxLen;omega) rfl
  rw [Hid];simpa using h
 have HI2:Hid _:=(HX.out _ (HB1.out.alloc HB1.out.size (.cells #[] 107))).az
 simp only at HI2
 have HP2:Hid (∀ v2 w2,w2.ownsRow (w.heap.size+1+1) 107 6 v2 (0+az.length) ([]++(acells az))→(u1.alloc (.cells #[] 107)).grownBy w2 (some u1.heap.size)→∃ a9 k9,v2=.slice a9 az.length k9∧w2.ownsRow (w.heap.size+1+1) 107 6 (.slice a9 az.length k9) az.length (acells az)∧Z6 w.heap.size (.int .i64 td) (.slice b1 fo.length k1) (.slice a az.length ac) (.slice c cs.length cc) (.slice l ls.length lc) (.slice g lg.length gc) w2∧Below u1.heap.size u1 w2):=by
  intro v2 w2 o2 g2
  rw [Nat.zero_add,List.nil_append] at o2
  obtain ⟨a9,k9,hv⟩:=any_shape o2
  subst hv
  have b2:=app_step rfl g2
  exact ⟨a9,k9,rfl,o2,HZ1.out.below b2,b2⟩
 go_upto_region 3 with (at_builtin;refine wpList_append_auths _ rfl (.tmp 8) (.tmp 10) rfl (w.heap.size+1+1) _ 0 [] rfl HE2.out a ac az rfl HI2.out (by omega) (by have:=HS1.out;simp;omega) ?_;intro v2 w2 o2 g2 _;obtain ⟨b2,k2,hv2,r2,zz,bb⟩:=HP2.out v2 w2 o2 g2;subst hv2;have y2:=zz.c2;have f2:=zz.z2;have HRW2:Hid _:=r2;have HZW2:Hid _:=zz;have HBB2:Hid _:=bb;clear o2 g2 zz bb r2)
 clear HE2 HI2 HP2 x2
 obtain ⟨u2,hu2⟩:∃ u,u=w2.setCell ⟨w.heap.size,2,none⟩ (.slice b2 az.length k2):=⟨_,rfl⟩
 have HZ2:Hid (Z6 w.heap.size (.int .i64 td) (.slice b1 fo.length k1) (.slice b2 az.length k2) (.slice c cs.length cc) (.slice l ls.length lc) (.slice g lg.length gc) u2):=by rw [Hid,hu2];exact HZW2.out.set2 _
 have HR2:Hid (Z6 (w.heap.size+1) (.int .i64 0) (.slice none 0 0) (.slice none 0 0) (.slice none 0 0) (.slice none 0 0) (.slice none 0 0) u2):=by rw [Hid,hu2];exact (HR1.out.below HBB2.out).far (by omega)
 have HB2:Hid (Below w.heap.size w u2):=by rw [Hid,hu2];exact (next HB1.out HBB2.out).setCell (Nat.le_refl _) _
 have HS2:Hid (w.heap.size+1+1≤u2.heap.size):=by rw [Hid,hu2];have:=HBB2.out.size;have:=HS1.out;simp;omega
 have HO1_2:Hid (u2.ownsRow (w.heap.size+1+1) 3 1 (.slice b1 fo.length k1) fo.length (fo.map (Value.int .i64))):=by rw [Hid,hu2];exact row_far (keepL HO1_1.out HBB2.out) (by omega)
 have HO2_2:Hid (u2.ownsRow (w.heap.size+1+1) 107 6 (.slice b2 az.length k2) az.length (acells az)):=by rw [Hid,hu2];exact row_far (HRW2.out) (by omega)
 rw [← hu2]
 clear hu2 y2 f2 HZW2 HRW2 HBB2 HZ1 HR1 HB1 HS1 n2 HO1_1
 have n3:cs.length≤1048576:=by have:=HN.out.2.2.1;simpa using this
 have x3:=(HZ2.out.below ((Below.refl _ _).alloc (Nat.le_refl _) (.cells #[] 61))).c3
 have HE3:Hid ((u2.alloc (.cells #[] 61)).ownsRow (w.heap.size+1+1) 61 12 (.slice (some ⟨u2.heap.size,0,none⟩) 0 0) 0 []):=by
  have h:=World.ownsRow_lit (base:=w.heap.size+1+1) (e:=61) (size:=12) u2 #[] 0 HS2.out (by unfold maxLen;omega) rfl
  rw [Hid];simpa using h
 have HI3:Hid _:=(HX.out _ (HB2.out.alloc HB2.out.size (.cells #[] 61))).cs
 simp only at HI3
 have HP3:Hid (∀ v2 w2,w2.ownsRow (w.heap.size+1+1) 61 12 v2 (0+cs.length) ([]++(cscells cs))→(u2.alloc (.cells #[] 61)).grownBy w2 (some u2.heap.size)→∃ a9 k9,v2=.slice a9 cs.length k9∧w2.ownsRow (w.heap.size+1+1) 61 12 (.slice a9 cs.length k9) cs.length (cscells cs)∧Z6 w.heap.size (.int .i64 td) (.slice b1 fo.length k1) (.slice b2 az.length k2) (.slice c cs.length cc) (.slice l ls.length lc) (.slice g lg.length gc) w2∧Below u2.heap.size u2 w2):=by
  intro v2 w2 o2 g2
  rw [Nat.zero_add,List.nil_append] at o2
  obtain ⟨a9,k9,hv⟩:=any_shape o2
  subst hv
  have b2:=app_step rfl g2
  exact ⟨a9,k9,rfl,o2,HZ2.out.below b2,b2⟩
 go_upto_region 4 with (at_builtin;refine wpList_append_cases _ rfl (.tmp 13) (.tmp 15) rfl (w.heap.size+1+1) _ 0 [] rfl HE3.out c cc cs rfl HI3.out (by omega) (by have:=HS2.out;simp;omega) ?_;intro v2 w2 o2 g2 _;obtain ⟨b3,k3,hv2,r3,zz,bb⟩:=HP3.out v2 w2 o2 g2;subst hv2;have y3:=zz.c3;have f3:=zz.z3;have HRW3:Hid _:=r3;have HZW3:Hid _:=zz;have HBB3:Hid _:=bb;clear o2 g2 zz bb r3)
 clear HE3 HI3 HP3 x3
 obtain ⟨u3,hu3⟩:∃ u,u=w2.setCell ⟨w.heap.size,3,none⟩ (.slice b3 cs.length k3):=⟨_,rfl⟩
 have HZ3:Hid (Z6 w.heap.size (.int .i64 td) (.slice b1 fo.length k1) (.slice b2 az.length k2) (.slice b3 cs.length k3) (.slice l ls.length lc) (.slice g lg.length gc) u3):=by rw [Hid,hu3];exact HZW3.out.set3 _
 have HR3:Hid (Z6 (w.heap.size+1) (.int .i64 0) (.slice none 0 0) (.slice none 0 0) (.slice none 0 0) (.slice none 0 0) (.slice none 0 0) u3):=by rw [Hid,hu3];exact (HR2.out.below HBB3.out).far (by omega)
 have HB3:Hid (Below w.heap.size w u3):=by rw [Hid,hu3];exact (next HB2.out HBB3.out).setCell (Nat.le_refl _) _
 have HS3:Hid (w.heap.size+1+1≤u3.heap.size):=by rw [Hid,hu3];have:=HBB3.out.size;have:=HS2.out;simp;omega
 have HO1_3:Hid (u3.ownsRow (w.heap.size+1+1) 3 1 (.slice b1 fo.length k1) fo.length (fo.map (Value.int .i64))):=by rw [Hid,hu3];exact row_far (keepL HO1_2.out HBB3.out) (by omega)
 have HO2_3:Hid (u3.ownsRow (w.heap.size+1+1) 107 6 (.slice b2 az.length k2) az.length (acells az)):=by rw [Hid,hu3];exact row_far (keepL HO2_2.out HBB3.out) (by omega)
 have HO3_3:Hid (u3.ownsRow (w.heap.size+1+1) 61 12 (.slice b3 cs.length k3) cs.length (cscells cs)):=by rw [Hid,hu3];exact row_far (HRW3.out) (by omega)
 rw [← hu3]
 clear hu3 y3 f3 HZW3 HRW3 HBB3 HZ2 HR2 HB2 HS2 n3 HO1_2 HO2_2
 have n4:ls.length≤1048576:=by have:=HN.out.2.2.2.1;simpa using this
 have x4:=HZ3.out.c4
 have zf4:=HZ3.out.z4
 go_wp2_with fail
 refine (sCopy_any _ _ ls _ (HX.out _ HB3.out).ls (by omega)).mono ?_
 rintro e w2 ⟨b4,k4,rfl,o4,bb⟩
 have HRW4:Hid (w2.ownsRow (w.heap.size+1+1) 113 3 (.slice b4 ls.length k4) ls.length (lcells ls)):=lowerL o4 HS3.out
 have HZW4:Hid (Z6 w.heap.size (.int .i64 td) (.slice b1 fo.length k1) (.slice b2 az.length k2) (.slice b3 cs.length k3) (.slice l ls.length lc) (.slice g lg.length gc) w2):=HZ3.out.below bb
 have HBB4:Hid _:=bb
 have y4:=HZW4.out.c4
 have f4:=HZW4.out.z4
 clear bb o4 x4 zf4
 go_upto_region 5 with fail
 obtain ⟨u4,hu4⟩:∃ u,u=w2.setCell ⟨w.heap.size,4,none⟩ (.slice b4 ls.length k4):=⟨_,rfl⟩
 have HZ4:Hid (Z6 w.heap.size (.int .i64 td) (.slice b1 fo.length k1) (.slice b2 az.length k2) (.slice b3 cs.length k3) (.slice b4 ls.length k4) (.slice g lg.length gc) u4):=by rw [Hid,hu4];exact HZW4.out.set4 _
 have HR4:Hid (Z6 (w.heap.size+1) (.int .i64 0) (.slice none 0 0) (.slice none 0 0) (.slice none 0 0) (.slice none 0 0) (.slice none 0 0) u4):=by rw [Hid,hu4];exact (HR3.out.below HBB4.out).far (by omega)
 have HB4:Hid (Below w.heap.size w u4):=by rw [Hid,hu4];exact (next HB3.out HBB4.out).setCell (Nat.le_refl _) _
 have HS4:Hid (w.heap.size+1+1≤u4.heap.size):=by rw [Hid,hu4];have:=HBB4.out.size;have:=HS3.out;simp;omega
 have HO1_4:Hid (u4.ownsRow (w.heap.size+1+1) 3 1 (.slice b1 fo.length k1) fo.length (fo.map (Value.int .i64))):=by rw [Hid,hu4];exact row_far (keepL HO1_3.out HBB4.out) (by omega)
 have HO2_4:Hid (u4.ownsRow (w.heap.size+1+1) 107 6 (.slice b2 az.length k2) az.length (acells az)):=by rw [Hid,hu4];exact row_far (keepL HO2_3.out HBB4.out) (by omega)
 have HO3_4:Hid (u4.ownsRow (w.heap.size+1+1) 61 12 (.slice b3 cs.length k3) cs.length (cscells cs)):=by rw [Hid,hu4];exact row_far (keepL HO3_3.out HBB4.out) (by omega)
 have HO4_4:Hid (u4.ownsRow (w.heap.size+1+1) 113 3 (.slice b4 ls.length k4) ls.length (lcells ls)):=by rw [Hid,hu4];exact row_far (HRW4.out) (by omega)
 rw [← hu4]
 clear hu4 y4 f4 HZW4 HRW4 HBB4 HZ3 HR3 HB3 HS3 n4 HO1_3 HO2_3 HO3_3
 have n5:lg.length≤1048576:=by have:=HN.out.2.2.2.2;simpa using this
 have x5:=(HZ4.out.below ((Below.refl _ _).alloc (Nat.le_refl _) (.cells #[] 9))).c5
 obtain ⟨BS5,hBS⟩:∃ n,n=u4.heap.size:=⟨_,rfl⟩
 have HBS:Hid (w.heap.size+1+1≤BS5∧BS5≤u4.heap.size):=by rw [Hid,hBS];exact ⟨HS4.out,Nat.le_refl _⟩
 have HAH:Hid (Ahead b1 BS5∧Ahead b2 BS5∧Ahead b3 BS5∧Ahead b4 BS5):=by
  rw [Hid,hBS]
  exact ⟨own_ahead HO1_4.out (Nat.le_refl _),own_ahead HO2_4.out (Nat.le_refl _),own_ahead HO3_4.out (Nat.le_refl _),own_ahead HO4_4.out (Nat.le_refl _)⟩
 clear hBS
 have HE5:Hid ((u4.alloc (.cells #[] 9)).ownsRow BS5 9 1 (.slice (some ⟨u4.heap.size,0,none⟩) 0 0) 0 []):=by
  have h:=World.ownsRow_lit (base:=BS5) (e:=9) (size:=1) u4 #[] 0 HBS.out.2 (by unfold maxLen;omega) rfl
  rw [Hid];simpa using h
 have HI5:Hid _:=(HX.out _ (HB4.out.alloc HB4.out.size (.cells #[] 9))).log
 simp only at HI5
 have HP5:Hid (∀ v2 w2,w2.ownsRow BS5 9 1 v2 (0+lg.length) ([]++(scells lg))→(u4.alloc (.cells #[] 9)).grownBy w2 (some u4.heap.size)→∃ a9 k9,v2=.slice a9 lg.length k9∧w2.ownsRow BS5 9 1 (.slice a9 lg.length k9) lg.length (scells lg)∧Z6 w.heap.size (.int .i64 td) (.slice b1 fo.length k1) (.slice b2 az.length k2) (.slice b3 cs.length k3) (.slice b4 ls.length k4) (.slice g lg.length gc) w2∧Below u4.heap.size u4 w2):=by
  intro v2 w2 o2 g2
  rw [Nat.zero_add,List.nil_append] at o2
  obtain ⟨a9,k9,hv⟩:=any_shape o2
  subst hv
  have b2:=app_step rfl g2
  exact ⟨a9,k9,rfl,o2,HZ4.out.below b2,b2⟩
 go_upto_region 6 with (at_builtin;refine wpList_append_txtsAt _ rfl (.tmp 22) (.tmp 24) rfl BS5 _ 0 [] rfl HE5.out g gc lg rfl HI5.out (by omega) (by have:=HBS.out;simp;omega) ?_;intro v2 w2 o2 g2;obtain ⟨b5,k5,hv2,r5,zz,bb⟩:=HP5.out v2 w2 o2 g2;subst hv2;have y5:=zz.c5;have f5:=zz.z5;have HRW5:Hid _:=r5;have HZW5:Hid _:=zz;have HBB5:Hid _:=bb;clear o2 g2 zz bb r5)
 clear HE5 HI5 HP5 x5
 obtain ⟨u5,hu5⟩:∃ u,u=w2.setCell ⟨w.heap.size,5,none⟩ (.slice b5 lg.length k5):=⟨_,rfl⟩
 have HZ5:Hid (Z6 w.heap.size (.int .i64 td) (.slice b1 fo.length k1) (.slice b2 az.length k2) (.slice b3 cs.length k3) (.slice b4 ls.length k4) (.slice b5 lg.length k5) u5):=by rw [Hid,hu5];exact HZW5.out.set5 _
 have HR5:Hid (Z6 (w.heap.size+1) (.int .i64 0) (.slice none 0 0) (.slice none 0 0) (.slice none 0 0) (.slice none 0 0) (.slice none 0 0) u5):=by rw [Hid,hu5];exact (HR4.out.below HBB5.out).far (by omega)
 have HB5S:Hid (BS5≤u5.heap.size):=by rw [Hid,hu5];have:=HBB5.out.size;have:=HBS.out;simp;omega
 have HB5:Hid (Below w.heap.size w u5):=by rw [Hid,hu5];exact (next HB4.out HBB5.out).setCell (Nat.le_refl _) _
 have HS5:Hid (w.heap.size+1+1≤u5.heap.size):=by rw [Hid,hu5];have:=HBB5.out.size;have:=HS4.out;simp;omega
 have HO1_5:Hid (u5.ownsRow (w.heap.size+1+1) 3 1 (.slice b1 fo.length k1) fo.length (fo.map (Value.int .i64))):=by rw [Hid,hu5];exact row_far (keepL HO1_4.out HBB5.out) (by omega)
 have HO2_5:Hid (u5.ownsRow (w.heap.size+1+1) 107 6 (.slice b2 az.length k2) az.length (acells az)):=by rw [Hid,hu5];exact row_far (keepL HO2_4.out HBB5.out) (by omega)
 have HO3_5:Hid (u5.ownsRow (w.heap.size+1+1) 61 12 (.slice b3 cs.length k3) cs.length (cscells cs)):=by rw [Hid,hu5];exact row_far (keepL HO3_4.out HBB5.out) (by omega)
 have HO4_5:Hid (u5.ownsRow (w.heap.size+1+1) 113 3 (.slice b4 ls.length k4) ls.length (lcells ls)):=by rw [Hid,hu5];exact row_far (keepL HO4_4.out HBB5.out) (by omega)
 have HO5_5:Hid (u5.ownsRow BS5 9 1 (.slice b5 lg.length k5) lg.length (scells lg)):=by rw [Hid,hu5];exact row_far (HRW5.out) (by have:=HBS.out;omega)
 rw [← hu5]
 clear hu5 y5 f5 HZW5 HRW5 HBB5 HZ4 HR4 HB4 HS4 n5 HO1_4 HO2_4 HO3_4 HO4_4
 have HBZ:Hid (BS5≤u5.heap.size):=HB5S.out
 obtain ⟨t0,t1,t2,t3,t4,t5,-,-,-,-,-,-⟩:=HZ5.out
 obtain ⟨q0,q1,q2,q3,q4,q5,p0,p1,p2,p3,p4,p5⟩:=HR5.out
 go_wp2
 refine bodyPost_ret (by simp [results,Tryz.results71,go_sem,q0,q1,q2,q3,q4,q5];try rfl) rfl ?_
 have bel:∀ (i:Nat) (x:Value) (u:World),Below w.heap.size w u→Below w.heap.size w (u.setCell ⟨w.heap.size+1,i,none⟩ x):=fun i x u h=>h.setCell (show w.heap.size≤w.heap.size+1 by omega) x
 have hbs:=HBS.out
 refine ⟨⟨⟨b1,k1,b2,k2,b3,k3,b4,k4,b5,k5⟩,BS5,rfl,⟨ints_own (row_far (row_far (row_far (row_far (row_far (row_far (HO1_5.out) (by omega)) (by omega)) (by omega)) (by omega)) (by omega)) (by omega)),auths_any (row_far (row_far (row_far (row_far (row_far (row_far (HO2_5.out) (by omega)) (by omega)) (by omega)) (by omega)) (by omega)) (by omega)),cases_own (row_far (row_far (row_far (row_far (row_far (row_far (HO3_5.out) (by omega)) (by omega)) (by omega)) (by omega)) (by omega)) (by omega)),lines_any (row_far (row_far (row_far (row_far (row_far (row_far (HO4_5.out) (by omega)) (by omega)) (by omega)) (by omega)) (by omega)) (by omega)),txts_any (row_far (row_far (row_far (row_far (row_far (row_far (HO5_5.out) (by omega)) (by omega)) (by omega)) (by omega)) (by omega)) (by omega))⟩,(row_far (row_far (row_far (row_far (row_far (row_far (HO5_5.out) (by omega)) (by omega)) (by omega)) (by omega)) (by omega)) (by omega)),by omega,by simpa using HBZ.out,HAH.out,⟨own_fresh (lowerL HO1_5.out (show w.heap.size≤_ by omega)),own_fresh (lowerL HO2_5.out (show w.heap.size≤_ by omega)),own_fresh (lowerL HO3_5.out (show w.heap.size≤_ by omega)),own_fresh (lowerL HO4_5.out (show w.heap.size≤_ by omega)),own_fresh (lowerL HO5_5.out (show w.heap.size≤_ by omega))⟩⟩,bel _ _ _ (bel _ _ _ (bel _ _ _ (bel _ _ _ (bel _ _ _ (bel _ _ _ HB5.out)))))⟩
def Off1 (a:Option Addr) (B:Nat):Prop:=∀ x,a=some x→x.block≠B
theorem set_grown (u:World) (B i:Nat) (x:Value):u.grownBy (u.setCell ⟨B,i,none⟩ x) (some B):=⟨rfl,rfl,rfl,by simp,fun j _ hj=>Below.heap_setCell _ _ _ _ (fun e=>hj (by rw [e]))⟩
theorem off_row {b off:Nat} {a:Option Addr} {row:Option Nat} (ha:a=some ⟨b,off,none⟩) (h:∀ B,row=some B→Off1 a B):some b≠row:=fun e=>h b e.symm _ ha rfl
theorem IntsAt.far {u u':World} {a:Option Addr} {zs:List Int} {row:Option Nat} (h:IntsAt u a zs) (g:u.grownBy u' row) (hne:∀ B,row=some B→Off1 a B):IntsAt u' a zs:=by
 rcases h with h | ⟨b,off,h1,h2,h3⟩
 ·exact .inl h
 ·exact .inr ⟨b,off,h1,Nat.lt_of_lt_of_le h2 g.size,fun i hi=>(g.cell_far ⟨b,off+i,none⟩ h2 (off_row h1 hne)).trans (h3 i hi)⟩
theorem TxtsAt.far {u u':World} {a:Option Addr} {rs:Recs} {row:Option Nat} (h:TxtsAt u a rs) (g:u.grownBy u' row) (hne:∀ B,row=some B→Off1 a B):TxtsAt u' a rs:=by
 rcases h with h | ⟨b,off,h1,h2,h3⟩
 ·exact .inl h
 ·exact .inr ⟨b,off,h1,Nat.lt_of_lt_of_le h2 g.size,fun i hi=>(g.cell_far ⟨b,off+i,none⟩ h2 (off_row h1 hne)).trans (h3 i hi)⟩
theorem AuthsAt.far {u u':World} {a:Option Addr} {az:List Au} {row:Option Nat} (h:AuthsAt u a az) (g:u.grownBy u' row) (hne:∀ B,row=some B→Off1 a B):AuthsAt u' a az:=by
 rcases h with h | ⟨b,off,h1,h2,h3⟩
 ·exact .inl h
 ·have hs:=off_row h1 hne
  exact .inr ⟨b,off,h1,Nat.lt_of_lt_of_le h2 g.size,fun i hi=>⟨(g.cell_far ⟨b,off+i*6,none⟩ h2 hs).trans (h3 i hi).1,(g.cell_far ⟨b,off+i*6+1,none⟩ h2 hs).trans (h3 i hi).2.1,(g.cell_far ⟨b,off+i*6+2,none⟩ h2 hs).trans (h3 i hi).2.2.1,(g.cell_far ⟨b,off+i*6+3,none⟩ h2 hs).trans (h3 i hi).2.2.2.1,(g.cell_far ⟨b,off+i*6+4,none⟩ h2 hs).trans (h3 i hi).2.2.2.2.1,(g.cell_far ⟨b,off+i*6+5,none⟩ h2 hs).trans (h3 i hi).2.2.2.2.2⟩⟩
theorem CasesAt.far {u u':World} {a:Option Addr} {cs:List Cs} {row:Option Nat} (h:CasesAt u a cs) (g:u.grownBy u' row) (hne:∀ B,row=some B→Off1 a B):CasesAt u' a cs:=by
 rcases h with h | ⟨b,off,h1,h2,h3⟩
 ·exact .inl h
 ·exact .inr ⟨b,off,h1,Nat.lt_of_lt_of_le h2 g.size,fun i hi=>(h3 i hi).grown g (off_row h1 hne)⟩
theorem LinesAt.far {u u':World} {a:Option Addr} {ls:List Ln} {row:Option Nat} (h:LinesAt u a ls) (g:u.grownBy u' row) (hne:∀ B,row=some B→Off1 a B):LinesAt u' a ls:=by
 rcases h with h | ⟨b,off,h1,h2,h3⟩
 ·exact .inl h
 ·have hs:=off_row h1 hne
  exact .inr ⟨b,off,h1,Nat.lt_of_lt_of_le h2 g.size,fun i hi=>⟨(g.cell_far ⟨b,off+i*3,none⟩ h2 hs).trans (h3 i hi).1,(g.cell_far ⟨b,off+i*3+1,none⟩ h2 hs).trans (h3 i hi).2.1,(g.cell_far ⟨b,off+i*3+2,none⟩ h2 hs).trans (h3 i hi).2.2⟩⟩
structure OffB (q:Bp) (B:Nat):Prop where
 o:Off1 q.o B
 a:Off1 q.a B
 c:Off1 q.c B
 l:Off1 q.l B
 g:Off1 q.g B
theorem BookAt.set {u:World} {b:Bk} {q:Bp} {B i:Nat} {x:Value} (h:BookAt u b q) (n:OffB q B):BookAt (u.setCell ⟨B,i,none⟩ x) b q :=
 ⟨h.off.far (set_grown u B i x) (fun B' e=>by cases e;exact n.o),h.az.far (set_grown u B i x) (fun B' e=>by cases e;exact n.a),h.cs.far (set_grown u B i x) (fun B' e=>by cases e;exact n.c),h.ls.far (set_grown u B i x) (fun B' e=>by cases e;exact n.l),h.log.far (set_grown u B i x) (fun B' e=>by cases e;exact n.g)⟩
theorem BookAt.put6 {u:World} {b:Bk} {q:Bp} {B:Nat} (h:BookAt u b q) (n:OffB q B) (x0 x1 x2 x3 x4 x5:Value) :
  BookAt ((((((u.setCell ⟨B,0,none⟩ x0).setCell ⟨B,1,none⟩ x1).setCell ⟨B,2,none⟩ x2).setCell ⟨B,3,none⟩ x3).setCell ⟨B,4,none⟩ x4).setCell ⟨B,5,none⟩ x5) b q :=
 (((((h.set n).set n).set n).set n).set n).set n
theorem fresh_off {a:Option Addr} {n B:Nat} (h:Fresh a n) (hB:B<n):Off1 a B:=fun x hx e=>by have:=h x hx;omega
theorem ahead_off {a:Option Addr} {n B:Nat} (h:Ahead a n) (hB:n≤B):Off1 a B:=fun x hx e=>by have:=h x hx;omega
structure AhB (p:Bp) (n:Nat):Prop where
 o:Ahead p.o n
 a:Ahead p.a n
 c:Ahead p.c n
 l:Ahead p.l n
 g:Ahead p.g n
theorem Ahead.mono {a:Option Addr} {n m:Nat} (h:Ahead a n) (hm:n≤m):Ahead a m:=fun x hx=>by have:=h x hx;omega
theorem same_off {a a1:Option Addr} {n m B:Nat} (h:a=a1∨Fresh a m) (h1:Ahead a1 n) (hb:n≤B) (hB:B<m):Off1 a B:=by
 rcases h with rfl | h
 ·exact ahead_off h1 hb
 ·exact fresh_off h hB
theorem offB_of {p q:Bp} {n m B:Nat} (h:AhB p n) (hg:q.g=p.g) (hp:q.o=p.o∧(q.a=p.a∨Fresh q.a m)∧(q.c=p.c∨Fresh q.c m)∧(q.l=p.l∨Fresh q.l m)) (hb:n≤B) (hB:B<m):OffB q B :=
 ⟨same_off (m:=m) (.inl hp.1) h.o hb hB,same_off hp.2.1 h.a hb hB,same_off hp.2.2.1 h.c hb hB,same_off hp.2.2.2 h.l hb hB,same_off (m:=m) (.inl hg) h.g hb hB⟩
theorem Z6.put6 {B:Nat} {v0 v1 v2 v3 v4 v5:Value} {u:World} (h:Z6 B v0 v1 v2 v3 v4 v5 u) (x0 x1 x2 x3 x4 x5:Value) :
  Z6 B x0 x1 x2 x3 x4 x5 ((((((u.setCell ⟨B,0,none⟩ x0).setCell ⟨B,1,none⟩ x1).setCell ⟨B,2,none⟩ x2).setCell ⟨B,3,none⟩ x3).setCell ⟨B,4,none⟩ x4).setCell ⟨B,5,none⟩ x5) :=
 (((((h.set0 x0).set1 x1).set2 x2).set3 x3).set4 x4).set5 x5
theorem Z6.far6 {B B':Nat} {v0 v1 v2 v3 v4 v5:Value} {u:World} (h:Z6 B v0 v1 v2 v3 v4 v5 u) (hne:B'≠B) (x0 x1 x2 x3 x4 x5:Value) :
  Z6 B v0 v1 v2 v3 v4 v5 ((((((u.setCell ⟨B',0,none⟩ x0).setCell ⟨B',1,none⟩ x1).setCell ⟨B',2,none⟩ x2).setCell ⟨B',3,none⟩ x3).setCell ⟨B',4,none⟩ x4).setCell ⟨B',5,none⟩ x5) :=
 (((((h.far hne).far hne).far hne).far hne).far hne).far hne
structure Fns where
 prune:List Au→Int→List Au
 use:List Au→Int→List Au
 useOk:List Au→Int→Bool
 add:List Au→Au→List Au
 addOk:List Au→Au→Bool
 best:List Au→Int→Int→Int→Int→Int→Prop
 stC:Int→Int→Int→Int→Int→Cs
 stE:Int→Int→Int→Int→Int→List En
 stOk:Int→Int→Int→Int→Int→Bool
 doC:Cs→Ac→Int→List Int→Cs
 doE:Cs→Ac→Int→List Int→List En
 doV:Cs→Ac→Int→List Int→Int
 all:List Ln→List En→List Ln
 allOk:List Ln→List En→Bool
structure Known (F:Fns):Prop where
 prune:∀ (ao:Option Addr) (cap:Nat) (az:List Au) (t:Int) (w:World),AuthsAt w ao az→az.length≤1048576→Calls Tryz.prog 178 #[.slice ao az.length cap,.int .i64 t] w (AuR1 w (F.prune az t))
 use:∀ (ao:Option Addr) (cap:Nat) (az:List Au) (i:Int) (w:World),AuthsAt w ao az→az.length≤1048576→Calls Tryz.prog 183 #[.slice ao az.length cap,.int .i64 i] w (AuR2 w (F.use az i) (F.useOk az i))
 add:∀ (ao:Option Addr) (cap:Nat) (az:List Au) (a:Au) (w:World),AuthsAt w ao az→az.length≤1048576→a.ref.length≤1048576→Calls Tryz.prog 143 #[.slice ao az.length cap,auv a] w (AuR2 w (F.add az a) (F.addOk az a))
 best:∀ (ao:Option Addr) (cap:Nat) (az:List Au) (iss cur am day:Int) (w:World),AuthsAt w ao az→az.length≤1048576→(∀ a ∈ az,a.ref.length≤1048576)→(Lit.int .i64 am).wf=true→(Lit.int .i64 day).wf=true →
  Calls Tryz.prog 180 #[.slice ao az.length cap,.int .i64 iss,.int .i64 cur,.int .i64 am,.int .i64 day] w fun e w'=>∃ x,e=.returned (.int .i64 x)∧F.best az iss cur am day x∧Below w.heap.size w w'
 start:∀ (iss acq cur am day:Int) (w:World),Calls Tryz.prog 181 #[.int .i64 iss,.int .i64 acq,.int .i64 cur,.int .i64 am,.int .i64 day] w fun e w'=>∃ ao cap,e=.returned (.tuple #[cv (F.stC iss acq cur am day),.slice ao (F.stE iss acq cur am day).length cap,.bool (F.stOk iss acq cur am day)])∧w'.ownsRow w.heap.size 269 4 (.slice ao (F.stE iss acq cur am day).length cap) (F.stE iss acq cur am day).length (ecells (F.stE iss acq cur am day))∧Below w.heap.size w w'
 small:∀ iss acq cur am day,(F.stE iss acq cur am day).length≤1048576
 act:∀ (c:Cs) (a:Ac) (t:Int) (ao:Option Addr) (cp:Nat) (zs:List Int) (w:World),IntsAt w ao zs→zs.length≤1048576→Calls Tryz.prog 184 #[cv c,av a,.int .i64 t,.slice ao zs.length cp] w fun e w'=>∃ ao cap,e=.returned (.tuple #[cv (F.doC c a t zs),.slice ao (F.doE c a t zs).length cap,.int .i64 (F.doV c a t zs)])∧w'.ownsRow w.heap.size 269 4 (.slice ao (F.doE c a t zs).length cap) (F.doE c a t zs).length (ecells (F.doE c a t zs))∧Below w.heap.size w w'
 few:∀ c a t zs,(F.doE c a t zs).length≤1048576
 code:∀ c a t zs,0≤F.doV c a t zs∧F.doV c a t zs≤1000
 post:∀ (ao:Option Addr) (cap:Nat) (ls:List Ln) (eo:Option Addr) (ec:Nat) (es:List En) (w:World),LinesAt w ao ls→ls.length≤1048576→EntsAt w eo es→es.length≤1048576 →
  Calls Tryz.prog 182 #[.agg #[.slice ao ls.length cap],.slice eo es.length ec] w fun e w'=>∃ ao cap,e=.returned (.tuple #[.agg #[.slice ao (F.all ls es).length cap],.bool (F.allOk ls es)])∧w'.ownsRow w.heap.size 113 3 (.slice ao (F.all ls es).length cap) (F.all ls es).length (lcells (F.all ls es))∧Below w.heap.size w w'
def BdR (w:World) (p:Bp) (b':Bk) (code:Int) (e:Ending) (w':World):Prop :=
 ∃ q,e=.returned (.tuple #[bkv b' q,.int .i64 code])∧BookAt w' b' q∧q.g=p.g∧q.gc=p.gc∧(q.o=p.o∧(q.a=p.a∨Fresh q.a w.heap.size)∧(q.c=p.c∨Fresh q.c w.heap.size)∧(q.l=p.l∨Fresh q.l w.heap.size))∧Below w.heap.size w w'
theorem put6_below {w u:World} {R:Nat} (hR:w.heap.size≤R) (h:Below w.heap.size w u) (x0 x1 x2 x3 x4 x5:Value) :
  Below w.heap.size w ((((((u.setCell ⟨R,0,none⟩ x0).setCell ⟨R,1,none⟩ x1).setCell ⟨R,2,none⟩ x2).setCell ⟨R,3,none⟩ x3).setCell ⟨R,4,none⟩ x4).setCell ⟨R,5,none⟩ x5) :=
 (((((h.setCell (p:=⟨R,0,none⟩) hR _).setCell (p:=⟨R,1,none⟩) hR _).setCell (p:=⟨R,2,none⟩) hR _).setCell (p:=⟨R,3,none⟩) hR _).setCell (p:=⟨R,4,none⟩) hR _).setCell (p:=⟨R,5,none⟩) hR _
theorem put6_row {u:World} {base n size R:Nat} {t:TypeId} {v:Value} {xs:List Value} (o:u.ownsRow base t size v n xs) (hB:R<base) (x0 x1 x2 x3 x4 x5:Value) :
  ((((((u.setCell ⟨R,0,none⟩ x0).setCell ⟨R,1,none⟩ x1).setCell ⟨R,2,none⟩ x2).setCell ⟨R,3,none⟩ x3).setCell ⟨R,4,none⟩ x4).setCell ⟨R,5,none⟩ x5).ownsRow base t size v n xs :=
 row_far (row_far (row_far (row_far (row_far (row_far o hB) hB) hB) hB) hB) hB
theorem row_put12 {u:World} {base n size X:Nat} {t:TypeId} {v:Value} {xs:List Value} (c:Cs) (o:u.ownsRow base t size v n xs) (hB:X<base):(put12 u X c).ownsRow base t size v n xs :=
 row_far (row_far (row_far (row_far (row_far (row_far (row_far (row_far (row_far (row_far (row_far (row_far o hB) hB) hB) hB) hB) hB) hB) hB) hB) hB) hB) hB
theorem box_kept {u u2:World} {t:TypeId} (bb:Below (u.alloc (.cells #[.int .i64 0,.int .i64 0,.int .i64 0,.int .i64 0,.int .i64 0,.int .i64 0,.int .i64 0,.int .i64 0,.int .i64 0,.bool false,.int .i64 0,.int .i64 0] t)).drew.heap.size (u.alloc (.cells #[.int .i64 0,.int .i64 0,.int .i64 0,.int .i64 0,.int .i64 0,.int .i64 0,.int .i64 0,.int .i64 0,.int .i64 0,.bool false,.int .i64 0,.int .i64 0] t)).drew u2) :
  CB u.heap.size 0 ⟨0,0,0,0,0,0,0,0,0,false,0,0⟩ u2∧FZ u.heap.size 0 u2∧Below (u.heap.size+1) (u.alloc (.cells #[.int .i64 0,.int .i64 0,.int .i64 0,.int .i64 0,.int .i64 0,.int .i64 0,.int .i64 0,.int .i64 0,.int .i64 0,.bool false,.int .i64 0,.int .i64 0] t)) u2:=by
 have h1:=(CB.new u ⟨0,0,0,0,0,0,0,0,0,false,0,0⟩ t).below ((Below.refl _ _).drew)
 have h2:=(FZ.new u #[.int .i64 0,.int .i64 0,.int .i64 0,.int .i64 0,.int .i64 0,.int .i64 0,.int .i64 0,.int .i64 0,.int .i64 0,.bool false,.int .i64 0,.int .i64 0] t).below (by simp) ((Below.refl _ _).drew)
 refine ⟨h1.below bb,h2.below (by simp) bb,?_⟩
 exact ((Below.refl (u.heap.size+1) _).drew).trans (bb.mono (by simp))
def dayB (F:Fns) (b:Bk) (n:Int):Bk×Int:=if dOk n=true∧b.today<n then (⟨n,b.off,F.prune b.az n,b.cs,b.ls,b.log⟩,0) else (b,4)
theorem day_no1 (F:Fns) (b:Bk) {n:Int} (h:dOk n=false):dayB F b n=(b,4):=if_neg (by rw [h];simp)
theorem day_no2 (F:Fns) {b:Bk} {n:Int} (h:¬ b.today<n):dayB F b n=(b,4):=if_neg (fun e=>h e.2)
theorem day_yes (F:Fns) {b:Bk} {n:Int} (h:dOk n=true) (g:b.today<n):dayB F b n=(⟨n,b.off,F.prune b.az n,b.cs,b.ls,b.log⟩,0):=if_pos ⟨h,g⟩
def putAt (u:World) (g k:Nat) (D:Cs):World:=((((((((((((u.setCell ⟨g,k*12,none⟩ (.int .i64 D.iss)).setCell ⟨g,k*12+1,none⟩ (.int .i64 D.acq)).setCell ⟨g,k*12+2,none⟩ (.int .i64 D.cur)).setCell ⟨g,k*12+3,none⟩ (.int .i64 D.am)).setCell ⟨g,k*12+4,none⟩ (.int .i64 D.st)).setCell ⟨g,k*12+5,none⟩ (.int .i64 D.rsn)).setCell ⟨g,k*12+6,none⟩ (.int .i64 D.cl)).setCell ⟨g,k*12+7,none⟩ (.int .i64 D.bk)).setCell ⟨g,k*12+8,none⟩ (.int .i64 D.fee)).setCell ⟨g,k*12+9,none⟩ (.bool D.cop)).setCell ⟨g,k*12+10,none⟩ (.int .i64 D.sta)).setCell ⟨g,k*12+11,none⟩ (.int .i64 D.due))
theorem putAt_below {w u:World} {g n:Nat} (k:Nat) (D:Cs) (b:Below n w u) (hn:n≤g):Below n w (putAt u g k D) :=
 (((((((((((b.setCell hn _).setCell hn _).setCell hn _).setCell hn _).setCell hn _).setCell hn _).setCell hn _).setCell hn _).setCell hn _).setCell hn _).setCell hn _).setCell hn _
theorem putAt_row {u:World} {base g cap:Nat} {t:TypeId} {cs:List Cs} {k:Nat} (D:Cs) (hk:k<cs.length) (ho:u.ownsRow base t 12 (.slice (some ⟨g,0,none⟩) cs.length cap) cs.length (cscells cs)) :
  (putAt u g k D).ownsRow base t 12 (.slice (some ⟨g,0,none⟩) cs.length cap) cs.length (cscells (cs.set k D)):=by
 have R:=((((((((((((ho.stored (k*12) (.int .i64 D.iss)).1.stored (k*12+1) (.int .i64 D.acq)).1.stored (k*12+2) (.int .i64 D.cur)).1.stored (k*12+3) (.int .i64 D.am)).1.stored (k*12+4) (.int .i64 D.st)).1.stored (k*12+5) (.int .i64 D.rsn)).1.stored (k*12+6) (.int .i64 D.cl)).1.stored (k*12+7) (.int .i64 D.bk)).1.stored (k*12+8) (.int .i64 D.fee)).1.stored (k*12+9) (.bool D.cop)).1.stored (k*12+10) (.int .i64 D.sta)).1.stored (k*12+11) (.int .i64 D.due)).1
 rw [cscells_set cs D k hk] at R
 exact R
theorem lines_under {u u':World} {a:Option Addr} {ls:List Ln} {B:Nat} (h:LinesAt u a ls) (ha:Ahead a B) (hb:Below B u u'):LinesAt u' a ls:=by
 rcases h with h | ⟨b,off,rfl,h2,h3⟩
 ·exact .inl h
 ·have hl:b<B:=ha _ rfl
  exact .inr ⟨b,off,rfl,Nat.lt_of_lt_of_le h2 hb.size,fun i hi=>by
   obtain ⟨c1,c2,c3⟩:=h3 i hi
   exact ⟨(hb.cell (p:=⟨b,_,none⟩) hl).trans c1,(hb.cell (p:=⟨b,_,none⟩) hl).trans c2,(hb.cell (p:=⟨b,_,none⟩) hl).trans c3⟩⟩
theorem row_block {u:World} {base n cap sz:Nat} {t:TypeId} {a:Option Addr} {xs:List Value} (h:u.ownsRow base t sz (.slice a n cap) n xs) (hn:0<n):∃ g,a=some ⟨g,0,none⟩∧base≤g∧g<u.heap.size:=by
 rcases h.2 with ⟨_,h0⟩ | ⟨g,c,cur,hv,hr⟩
 ·omega
 ·obtain ⟨rfl,rfl⟩:a=some ⟨g,0,none⟩∧cap=c:=by simpa using hv
  exact ⟨g,rfl,(h.lt g rfl).1,(h.lt g rfl).2⟩
theorem lines_put6 {u:World} {a:Option Addr} {ls:List Ln} {R:Nat} (h:LinesAt u a ls) (n:Off1 a R) (x0 x1 x2 x3 x4 x5:Value) :
  LinesAt ((((((u.setCell ⟨R,0,none⟩ x0).setCell ⟨R,1,none⟩ x1).setCell ⟨R,2,none⟩ x2).setCell ⟨R,3,none⟩ x3).setCell ⟨R,4,none⟩ x4).setCell ⟨R,5,none⟩ x5) a ls:=by
 have s:∀ (v:World) (i:Nat) (x:Value),LinesAt v a ls→LinesAt (v.setCell ⟨R,i,none⟩ x) a ls:=fun v i x hv=>hv.far (set_grown _ _ _ _) (fun Q hQ=>by cases hQ;exact n)
 exact s _ _ _ (s _ _ _ (s _ _ _ (s _ _ _ (s _ _ _ (s _ _ _ h)))))
theorem cv_is {D:Cs} : cv D=.agg #[.int .i64 D.iss,.int .i64 D.acq,.int .i64 D.cur,.int .i64 D.am,.int .i64 D.st,.int .i64 D.rsn,.int .i64 D.cl,.int .i64 D.bk,.int .i64 D.fee,.bool D.cop,.int .i64 D.sta,.int .i64 D.due]:=rfl
def actB (F:Fns) (b:Bk) (i:Int) (x:Ac):Bk×Int :=
 if ¬ (0≤i∧i≤(b.cs.length:Int) - 1) then (b,5)
 else if F.doV (csAt b.cs i.toNat) x b.today b.off≠0 then (b,10+F.doV (csAt b.cs i.toNat) x b.today b.off)
 else if F.allOk b.ls (F.doE (csAt b.cs i.toNat) x b.today b.off)=false then (b,6)
 else (⟨b.today,b.off,b.az,b.cs.set i.toNat (F.doC (csAt b.cs i.toNat) x b.today b.off),F.all b.ls (F.doE (csAt b.cs i.toNat) x b.today b.off),b.log⟩,0)
theorem act_no1 (F:Fns) {b:Bk} {i:Int} (x:Ac) (h:¬ (0≤i∧i≤(b.cs.length:Int) - 1)):actB F b i x=(b,5):=if_pos h
theorem act_no2 (F:Fns) {b:Bk} {i:Int} {x:Ac} (h:0≤i∧i≤(b.cs.length:Int) - 1) (g:F.doV (csAt b.cs i.toNat) x b.today b.off≠0):actB F b i x=(b,10+F.doV (csAt b.cs i.toNat) x b.today b.off):=by
 rw [actB,if_neg (fun e=>e h),if_pos g]
theorem act_no3 (F:Fns) {b:Bk} {i:Int} {x:Ac} (h:0≤i∧i≤(b.cs.length:Int) - 1) (g:F.doV (csAt b.cs i.toNat) x b.today b.off=0) (k:F.allOk b.ls (F.doE (csAt b.cs i.toNat) x b.today b.off)=false):actB F b i x=(b,6):=by
 rw [actB,if_neg (fun e=>e h),if_neg (fun e=>e g),if_pos k]
theorem act_yes (F:Fns) {b:Bk} {i:Int} {x:Ac} (h:0≤i∧i≤(b.cs.length:Int) - 1) (g:F.doV (csAt b.cs i.toNat) x b.today b.off=0) (k:F.allOk b.ls (F.doE (csAt b.cs i.toNat) x b.today b.off)=true) :
  actB F b i x=(⟨b.today,b.off,b.az,b.cs.set i.toNat (F.doC (csAt b.cs i.toNat) x b.today b.off),F.all b.ls (F.doE (csAt b.cs i.toNat) x b.today b.off),b.log⟩,0):=by
 rw [actB,if_neg (fun e=>e h),if_neg (fun e=>e g),if_neg (by rw [k];decide)]
def payB (F:Fns) (b:Bk) (n0 n1 n2 n3 x:Int):Bk×Int :=
 if x<0 then (b,3)
 else if 150≤b.cs.length then (b,2)
 else if F.stOk n0 n1 n2 n3 b.today=false then (b,5)
 else if F.allOk b.ls (F.stE n0 n1 n2 n3 b.today)=false then (b,6)
 else (⟨b.today,b.off,F.use b.az x,b.cs++[F.stC n0 n1 n2 n3 b.today],F.all b.ls (F.stE n0 n1 n2 n3 b.today),b.log⟩,0)
theorem pay_no1 (F:Fns) {b:Bk} {n0 n1 n2 n3 x:Int} (h:x<0):payB F b n0 n1 n2 n3 x=(b,3):=if_pos h
theorem pay_no2 (F:Fns) {b:Bk} {n0 n1 n2 n3 x:Int} (h:¬ x<0) (g:150≤b.cs.length):payB F b n0 n1 n2 n3 x=(b,2):=by rw [payB,if_neg h,if_pos g]
theorem pay_no3 (F:Fns) {b:Bk} {n0 n1 n2 n3 x:Int} (h:¬ x<0) (g:¬ 150≤b.cs.length) (k:F.stOk n0 n1 n2 n3 b.today=false):payB F b n0 n1 n2 n3 x=(b,5):=by rw [payB,if_neg h,if_neg g,if_pos k]
theorem pay_no4 (F:Fns) {b:Bk} {n0 n1 n2 n3 x:Int} (h:¬ x<0) (g:¬ 150≤b.cs.length) (k:F.stOk n0 n1 n2 n3 b.today=true) (m:F.allOk b.ls (F.stE n0 n1 n2 n3 b.today)=false):payB F b n0 n1 n2 n3 x=(b,6):=by
 rw [payB,if_neg h,if_neg g,if_neg (by rw [k];decide),if_pos m]
theorem pay_yes (F:Fns) {b:Bk} {n0 n1 n2 n3 x:Int} (h:¬ x<0) (g:¬ 150≤b.cs.length) (k:F.stOk n0 n1 n2 n3 b.today=true) (m:F.allOk b.ls (F.stE n0 n1 n2 n3 b.today)=true) :
  payB F b n0 n1 n2 n3 x=(⟨b.today,b.off,F.use b.az x,b.cs++[F.stC n0 n1 n2 n3 b.today],F.all b.ls (F.stE n0 n1 n2 n3 b.today),b.log⟩,0):=by
 rw [payB,if_neg h,if_neg g,if_neg (by rw [k];decide),if_neg (by rw [m];decide)]
theorem not_nilC {w:World} {base n:Nat} {v:Value} {xs:List Value} (h:w.ownsRow base 61 12 v n xs) (hv:v≠.slice none 0 0):∃ g c,v=.slice (some ⟨g,0,none⟩) n c:=by
 rcases h.2 with ⟨h,_⟩ | ⟨g,c,cur,h,_⟩
 ·exact absurd h hv
 ·exact ⟨g,c,h⟩
theorem step_append_cases {ops:Array Oper} {o:Oper} {a:Act} {w:World} {K:Act→World→Prop} {Q:Exit→Act→World→Prop} {E:Prop} (hgd:o.guard=none) (s x:Operand)
  (ho:o.op=.call { callee:=.builtin .append,args:=#[s,x],argTypes:=#[26,26] }) (base:Nat) (v:Value) (n:Nat) (xs:List Value) (hs:a.eval s=v) (hown:w.ownsRow base 61 12 v n xs)
  (ao:Option Addr) (c:Nat) (fs:List Cs) (hx:a.eval x=.slice ao fs.length c) (hz:CasesAt w ao fs) (hn:n+fs.length≤5000000) (hbase:base≤w.heap.size)
  (h:∀ v' w',w'.ownsRow base 61 12 v' (n+fs.length) (xs++cscells fs)→w.grownBy w' v.ownBlock→(v≠.slice none 0 0→v'≠.slice none 0 0)→K (a.put o.dst v') w') :
  if Region.wanted o (yielded ops a.tmps)=true then Oper.wp Tryz.prog o a w K Q else E:=by
 have hw:Region.wanted o (yielded ops a.tmps)=true:=by simp [Region.wanted,hgd]
 rw [if_pos hw]
 obtain ⟨v',w',hr,h1,h2,h3⟩:=run_append_cases w base o.type v n xs hown ao c fs hz hn hbase
 unfold Oper.wp execOp
 simp only [ho,resolve,invoke,builtin,Sem.run_bind,Sem.run_pure,Result.andThen_ok,List.map_toArray,List.map_cons,List.map_nil,hs,hx,hr]
 exact h v' w' h1 h2 h3
theorem one_case {u:World} {g:Nat} {C:Cs} (h:CB g 0 C u):CasesAt u (some ⟨g,0,none⟩) [C] :=
 .inr ⟨g,0,rfl,h.lt,fun i hi=>by
  obtain rfl:i=0:=by simpa using hi
  simpa [csAt] using h⟩
theorem caLit2 (w:World) (C:Cs):((w.alloc (.cells #[.int .i64 C.iss,.int .i64 C.acq,.int .i64 C.cur,.int .i64 C.am,.int .i64 C.st,.int .i64 C.rsn,.int .i64 C.cl,.int .i64 C.bk,.int .i64 C.fee,.bool C.cop,.int .i64 C.sta,.int .i64 C.due] 61)).alloc (.cells #[] 61)).ownsRow w.heap.size 61 12 (.slice (some ⟨w.heap.size+1,0,none⟩) 0 0) 0 []:=by
 have h:=World.ownsRow_lit (base:=w.heap.size) (e:=61) (size:=12) (w.alloc (.cells #[.int .i64 C.iss,.int .i64 C.acq,.int .i64 C.cur,.int .i64 C.am,.int .i64 C.st,.int .i64 C.rsn,.int .i64 C.cl,.int .i64 C.bk,.int .i64 C.fee,.bool C.cop,.int .i64 C.sta,.int .i64 C.due] 61)) #[] 0 (by simp) (by unfold maxLen;omega) rfl
 simpa using h
theorem cb_two (w:World) (C:Cs):CB (w.heap.size+1) 0 C ((w.alloc (.cells #[] 61)).alloc (.cells #[.int .i64 C.iss,.int .i64 C.acq,.int .i64 C.cur,.int .i64 C.am,.int .i64 C.st,.int .i64 C.rsn,.int .i64 C.cl,.int .i64 C.bk,.int .i64 C.fee,.bool C.cop,.int .i64 C.sta,.int .i64 C.due] 61)):=by
 have h:=CB.new (w.alloc (.cells #[] 61)) C 61
 simpa using h
def dayT:List UInt8:=[100,97,121]
def authW:List UInt8:=[97,117,116,104]
def payT:List UInt8:=[112,97,121]
def actT:List UInt8:=[97,99,116]
def isDay (ws:Recs):Bool:=decide (nth ws 0=dayT) && (decide (ws.length=2) && decide (0≤numW (nth ws 1)))
def isAuth (ws:Recs):Bool:=decide (nth ws 0=authW) && decide (ws.length=5)
def isPay (ws:Recs):Bool:=decide (nth ws 0=payT) && decide (ws.length=5)
def isAct (ws:Recs):Bool:=decide (nth ws 0=actT) && (decide (ws.length=5) && decide (0≤kindW (nth ws 2)))
def authB (F:Fns) (b:Bk) (ref:List UInt8) (n0 n1 n2:Int):Bk×Int :=
 if F.addOk b.az ⟨ref,n0,n1,n2,b.today,false⟩=true then (⟨b.today,b.off,F.add b.az ⟨ref,n0,n1,n2,b.today,false⟩,b.cs,b.ls,b.log⟩,0) else (b,3)
def LineRel (F:Fns) (Pay:Bk→Int→Int→Int→Int→Bk×Int→Prop) (Act:Bk→Int→Ac→Bk×Int) (b:Bk) (line:List UInt8) (r:Bk×Int):Prop :=
 if isDay (wordsW line)=true then r=dayB F b (numW (nth (wordsW line) 1))
 else if isAuth (wordsW line)=true then (if numsOk ((wordsW line).drop 2)=true then r=authB F b (nth (wordsW line) 1) (numW (nth (wordsW line) 2)) (numW (nth (wordsW line) 3)) (numW (nth (wordsW line) 4)) else r=(b,1))
 else if isPay (wordsW line)=true then (if numsOk ((wordsW line).drop 1)=true then Pay b (numW (nth (wordsW line) 1)) (numW (nth (wordsW line) 2)) (numW (nth (wordsW line) 3)) (numW (nth (wordsW line) 4)) r else r=(b,1))
 else if isAct (wordsW line)=true then (if numsOk [nth (wordsW line) 1,nth (wordsW line) 3,nth (wordsW line) 4]=true then r=Act b (numW (nth (wordsW line) 1)) ⟨kindW (nth (wordsW line) 2),numW (nth (wordsW line) 3),numW (nth (wordsW line) 4)⟩ else r=(b,1))
 else r=(b,1)
end Go.Proofs.YtomiclakhjncbaaGreatDoor
namespace Go.Proofs.YtomiclakhjncbaaGreatDoor.Kb
open Go.RowKit
set_option maxRecDepth 100000
set_option maxHeartbeats 12800000
structure Z8 (B:Nat) (v0 v1 v2 v3 v4 v5 v6 v7:Value) (u:World):Prop where
 c0:u.cell? ⟨B,0,none⟩=some v0
 c1:u.cell? ⟨B,1,none⟩=some v1
 c2:u.cell? ⟨B,2,none⟩=some v2
 c3:u.cell? ⟨B,3,none⟩=some v3
 c4:u.cell? ⟨B,4,none⟩=some v4
 c5:u.cell? ⟨B,5,none⟩=some v5
 c6:u.cell? ⟨B,6,none⟩=some v6
 c7:u.cell? ⟨B,7,none⟩=some v7
 z0:u.frozen? ⟨B,0,none⟩=false
 z1:u.frozen? ⟨B,1,none⟩=false
 z2:u.frozen? ⟨B,2,none⟩=false
 z3:u.frozen? ⟨B,3,none⟩=false
 z4:u.frozen? ⟨B,4,none⟩=false
 z5:u.frozen? ⟨B,5,none⟩=false
 z6:u.frozen? ⟨B,6,none⟩=false
 z7:u.frozen? ⟨B,7,none⟩=false
theorem Z8.lt {B:Nat} {v0 v1 v2 v3 v4 v5 v6 v7:Value} {u:World} (h:Z8 B v0 v1 v2 v3 v4 v5 v6 v7 u):B<u.heap.size:=World.block_lt_of_cell? u _ h.c0
theorem Z8.grown {B:Nat} {v0 v1 v2 v3 v4 v5 v6 v7:Value} {u u':World} (h:Z8 B v0 v1 v2 v3 v4 v5 v6 v7 u) {row:Option Nat} (g:u.grownBy u' row) (hr:some B≠row):Z8 B v0 v1 v2 v3 v4 v5 v6 v7 u':=by
 have l:=h.lt
 obtain ⟨c0,c1,c2,c3,c4,c5,c6,c7,z0,z1,z2,z3,z4,z5,z6,z7⟩:=h
 exact ⟨(g.cell_far ⟨B,0,none⟩ l hr).trans c0,(g.cell_far ⟨B,1,none⟩ l hr).trans c1,(g.cell_far ⟨B,2,none⟩ l hr).trans c2,(g.cell_far ⟨B,3,none⟩ l hr).trans c3,(g.cell_far ⟨B,4,none⟩ l hr).trans c4,(g.cell_far ⟨B,5,none⟩ l hr).trans c5,(g.cell_far ⟨B,6,none⟩ l hr).trans c6,(g.cell_far ⟨B,7,none⟩ l hr).trans c7,(g.frozen_far ⟨B,0,none⟩ l hr).trans z0,(g.frozen_far ⟨B,1,none⟩ l hr).trans z1,(g.frozen_far ⟨B,2,none⟩ l hr).trans z2,(g.frozen_far ⟨B,3,none⟩ l hr).trans z3,(g.frozen_far ⟨B,4,none⟩ l hr).trans z4,(g.frozen_far ⟨B,5,none⟩ l hr).trans z5,(g.frozen_far ⟨B,6,none⟩ l hr).trans z6,(g.frozen_far ⟨B,7,none⟩ l hr).trans z7⟩
theorem Z8.set0 {B:Nat} {v0 v1 v2 v3 v4 v5 v6 v7:Value} {u:World} (h:Z8 B v0 v1 v2 v3 v4 v5 v6 v7 u) (x:Value):Z8 B x v1 v2 v3 v4 v5 v6 v7 (u.setCell ⟨B,0,none⟩ x):=by
 obtain ⟨c0,c1,c2,c3,c4,c5,c6,c7,z0,z1,z2,z3,z4,z5,z6,z7⟩:=h
 exact ⟨by simp [go_sem,c0],by simp [go_sem,c1],by simp [go_sem,c2],by simp [go_sem,c3],by simp [go_sem,c4],by simp [go_sem,c5],by simp [go_sem,c6],by simp [go_sem,c7],by simp [go_sem,z0],by simp [go_sem,z1],by simp [go_sem,z2],by simp [go_sem,z3],by simp [go_sem,z4],by simp [go_sem,z5],by simp [go_sem,z6],by simp [go_sem,z7]⟩
theorem Z8.set2 {B:Nat} {v0 v1 v2 v3 v4 v5 v6 v7:Value} {u:World} (h:Z8 B v0 v1 v2 v3 v4 v5 v6 v7 u) (x:Value):Z8 B v0 v1 x v3 v4 v5 v6 v7 (u.setCell ⟨B,2,none⟩ x):=by
 obtain ⟨c0,c1,c2,c3,c4,c5,c6,c7,z0,z1,z2,z3,z4,z5,z6,z7⟩:=h
 exact ⟨by simp [go_sem,c0],by simp [go_sem,c1],by simp [go_sem,c2],by simp [go_sem,c3],by simp [go_sem,c4],by simp [go_sem,c5],by simp [go_sem,c6],by simp [go_sem,c7],by simp [go_sem,z0],by simp [go_sem,z1],by simp [go_sem,z2],by simp [go_sem,z3],by simp [go_sem,z4],by simp [go_sem,z5],by simp [go_sem,z6],by simp [go_sem,z7]⟩
theorem Z8.set3 {B:Nat} {v0 v1 v2 v3 v4 v5 v6 v7:Value} {u:World} (h:Z8 B v0 v1 v2 v3 v4 v5 v6 v7 u) (x:Value):Z8 B v0 v1 v2 x v4 v5 v6 v7 (u.setCell ⟨B,3,none⟩ x):=by
 obtain ⟨c0,c1,c2,c3,c4,c5,c6,c7,z0,z1,z2,z3,z4,z5,z6,z7⟩:=h
 exact ⟨by simp [go_sem,c0],by simp [go_sem,c1],by simp [go_sem,c2],by simp [go_sem,c3],by simp [go_sem,c4],by simp [go_sem,c5],by simp [go_sem,c6],by simp [go_sem,c7],by simp [go_sem,z0],by simp [go_sem,z1],by simp [go_sem,z2],by simp [go_sem,z3],by simp [go_sem,z4],by simp [go_sem,z5],by simp [go_sem,z6],by simp [go_sem,z7]⟩
theorem Z8.set5 {B:Nat} {v0 v1 v2 v3 v4 v5 v6 v7:Value} {u:World} (h:Z8 B v0 v1 v2 v3 v4 v5 v6 v7 u) (x:Value):Z8 B v0 v1 v2 v3 v4 x v6 v7 (u.setCell ⟨B,5,none⟩ x):=by
 obtain ⟨c0,c1,c2,c3,c4,c5,c6,c7,z0,z1,z2,z3,z4,z5,z6,z7⟩:=h
 exact ⟨by simp [go_sem,c0],by simp [go_sem,c1],by simp [go_sem,c2],by simp [go_sem,c3],by simp [go_sem,c4],by simp [go_sem,c5],by simp [go_sem,c6],by simp [go_sem,c7],by simp [go_sem,z0],by simp [go_sem,z1],by simp [go_sem,z2],by simp [go_sem,z3],by simp [go_sem,z4],by simp [go_sem,z5],by simp [go_sem,z6],by simp [go_sem,z7]⟩
theorem Z8.set6 {B:Nat} {v0 v1 v2 v3 v4 v5 v6 v7:Value} {u:World} (h:Z8 B v0 v1 v2 v3 v4 v5 v6 v7 u) (x:Value):Z8 B v0 v1 v2 v3 v4 v5 x v7 (u.setCell ⟨B,6,none⟩ x):=by
 obtain ⟨c0,c1,c2,c3,c4,c5,c6,c7,z0,z1,z2,z3,z4,z5,z6,z7⟩:=h
 exact ⟨by simp [go_sem,c0],by simp [go_sem,c1],by simp [go_sem,c2],by simp [go_sem,c3],by simp [go_sem,c4],by simp [go_sem,c5],by simp [go_sem,c6],by simp [go_sem,c7],by simp [go_sem,z0],by simp [go_sem,z1],by simp [go_sem,z2],by simp [go_sem,z3],by simp [go_sem,z4],by simp [go_sem,z5],by simp [go_sem,z6],by simp [go_sem,z7]⟩
theorem Z8.set7 {B:Nat} {v0 v1 v2 v3 v4 v5 v6 v7:Value} {u:World} (h:Z8 B v0 v1 v2 v3 v4 v5 v6 v7 u) (x:Value):Z8 B v0 v1 v2 v3 v4 v5 v6 x (u.setCell ⟨B,7,none⟩ x):=by
 obtain ⟨c0,c1,c2,c3,c4,c5,c6,c7,z0,z1,z2,z3,z4,z5,z6,z7⟩:=h
 exact ⟨by simp [go_sem,c0],by simp [go_sem,c1],by simp [go_sem,c2],by simp [go_sem,c3],by simp [go_sem,c4],by simp [go_sem,c5],by simp [go_sem,c6],by simp [go_sem,c7],by simp [go_sem,z0],by simp [go_sem,z1],by simp [go_sem,z2],by simp [go_sem,z3],by simp [go_sem,z4],by simp [go_sem,z5],by simp [go_sem,z6],by simp [go_sem,z7]⟩
theorem Z8.new (w:World) (v0 v1 v2 v3 v4 v5 v6 v7:Value) (ty:TypeId):Z8 w.heap.size v0 v1 v2 v3 v4 v5 v6 v7 (w.alloc (.cells #[v0,v1,v2,v3,v4,v5,v6,v7] ty)) :=
 ⟨by simp,by simp,by simp,by simp,by simp,by simp,by simp,by simp,by simp [go_sem],by simp [go_sem],by simp [go_sem],by simp [go_sem],by simp [go_sem],by simp [go_sem],by simp [go_sem],by simp [go_sem]⟩
theorem own_obj {u:World} {base n size:Nat} {t:TypeId} {v:Value} {xs:List Value} (h:u.ownsRow base t size v n xs):∀ g,v.ownBlock=some g→∃ cur fz,u.heap[g]?=some (.cells cur t fz):=by
 intro g hg
 rcases h.2 with ⟨hv,_⟩ | ⟨g',cap,cur,hv,_,hh,_⟩
 ·rw [hv] at hg;cases hg
 ·rw [hv] at hg
  injection hg with hg
  subst hg
  exact ⟨cur,(0,0),hh⟩
def Holds1 (u:World) (g:Nat) (t:TypeId):Prop:=∃ cur fz,u.heap[g]?=some (.cells cur t fz)
theorem own_ne {u:World} {b1 n1 s1 b2 n2 s2:Nat} {t1 t2:TypeId} {v1 v2:Value} {x1 x2:List Value} (h1:u.ownsRow b1 t1 s1 v1 n1 x1) (h2:u.ownsRow b2 t2 s2 v2 n2 x2) (ht:t1≠t2):v1.ownBlock=none∨v1.ownBlock≠v2.ownBlock:=by
 cases hv:v1.ownBlock with
 | none=>exact .inl rfl
 | some g =>
  refine .inr fun e=>ht ?_
  obtain ⟨c1,f1,e1⟩:=own_obj h1 g hv
  obtain ⟨c2,f2,e2⟩:=own_obj h2 g e.symm
  rw [e1] at e2
  simp only [Option.some.injEq,Obj.cells.injEq] at e2
  exact e2.2.1
theorem own_neK {u:World} {b1 n1 s1 K:Nat} {t1 t2:TypeId} {v1:Value} {x1:List Value} (h1:u.ownsRow b1 t1 s1 v1 n1 x1) (h2:Holds1 u K t2) (ht:t1≠t2):v1.ownBlock=none∨v1.ownBlock≠some K:=by
 cases hv:v1.ownBlock with
 | none=>exact .inl rfl
 | some g =>
  refine .inr fun e=>ht ?_
  injection e with e
  subst e
  obtain ⟨c1,f1,e1⟩:=own_obj h1 g hv
  obtain ⟨c2,f2,e2⟩:=h2
  rw [e1] at e2
  simp only [Option.some.injEq,Obj.cells.injEq] at e2
  exact e2.2.1
theorem own_neR {u:World} {b1 n1 s1 K:Nat} {t1 t2:TypeId} {v1:Value} {x1:List Value} (h1:u.ownsRow b1 t1 s1 v1 n1 x1) (h2:Holds1 u K t2) (ht:t1≠t2):some K≠v1.ownBlock:=by
 rcases own_neK h1 h2 ht with h | h
 ·rw [h];exact fun e=>by cases e
 ·exact fun e=>h e.symm
theorem Holds1.grown {u u':World} {g:Nat} {t:TypeId} {row:Option Nat} (h:Holds1 u g t) (hg:u.grownBy u' row) (hr:some g≠row):Holds1 u' g t:=by
 obtain ⟨cur,fz,e⟩:=h
 have hl:g<u.heap.size:=by
  rcases Nat.lt_or_ge g u.heap.size with h | h
  ·exact h
  ·rw [Array.getElem?_eq_none h] at e;cases e
 exact ⟨cur,fz,(hg.block g hl hr).trans e⟩
theorem Holds1.set {u:World} {g:Nat} {t:TypeId} (h:Holds1 u g t) (i:Nat) (x:Value):Holds1 (u.setCell ⟨g,i,none⟩ x) g t:=by
 obtain ⟨cur,fz,e⟩:=h
 refine ⟨cur.setIfInBounds i x,fz,?_⟩
 unfold World.setCell
 simp only [Array.getElem?_modify,if_true,e,Option.map_some]
 rfl
theorem own_low {u:World} {base base' n size:Nat} {t:TypeId} {v:Value} {xs:List Value} (h:u.ownsRow base t size v n xs) (hb:base'≤base):u.ownsRow base' t size v n xs :=
 ⟨h.1,h.2.imp id (fun ⟨g,cap,cur,hv,hg,r⟩=>⟨g,cap,cur,hv,Nat.le_trans hb hg,r⟩)⟩
structure KS (B K:Nat) (st:Int) (b:Bk) (q:Bp) (u:World):Prop where
 z:Z8 K (.int .i32 st) (.int .u32 0) (.slice q.l b.ls.length q.lc) (.int .i64 b.today) (.slice q.o b.off.length q.oc) (.slice q.a b.az.length q.ac) (.slice q.c b.cs.length q.cc) (.slice q.g b.log.length q.gc) u
 kt:Holds1 u K 143
 off:u.ownsRow B 3 1 (.slice q.o b.off.length q.oc) b.off.length (b.off.map (Value.int .i64))
 az:u.ownsRow B 107 6 (.slice q.a b.az.length q.ac) b.az.length (acells b.az)
 cs:u.ownsRow B 61 12 (.slice q.c b.cs.length q.cc) b.cs.length (cscells b.cs)
 ls:u.ownsRow B 113 3 (.slice q.l b.ls.length q.lc) b.ls.length (lcells b.ls)
 log:u.ownsRow B 9 1 (.slice q.g b.log.length q.gc) b.log.length (scells b.log)
 hK:B≤K
theorem KS.at {B K:Nat} {st:Int} {b:Bk} {q:Bp} {u:World} (h:KS B K st b q u):BookAt u b q:=⟨ints_own h.off,auths_any h.az,cases_own h.cs,lines_any h.ls,txts_any h.log⟩
theorem KS.far {B K:Nat} {st:Int} {b:Bk} {q:Bp} {u u':World} {row:Option Nat} (h:KS B K st b q u) (g:u.grownBy u' row) (hr:∀ x,row=some x→x<B):KS B K st b q u':=by
 have hK:=h.hK
 have ne:∀ {t:TypeId} {s n:Nat} {v:Value} {xs:List Value},u.ownsRow B t s v n xs→v.ownBlock=none∨v.ownBlock≠row:=fun o=>by
  rename_i t s n v xs
  cases hv:v.ownBlock with
  | none=>exact .inl rfl
  | some j =>
   refine .inr fun e=>?_
   have h1:=(o.lt j hv).1
   have h2:=hr j e.symm
   omega
 have nK:some K≠row:=fun e=>by have:=hr K e.symm;omega
 exact ⟨h.z.grown g nK,h.kt.grown g nK,h.off.kept g (ne h.off),h.az.kept g (ne h.az),h.cs.kept g (ne h.cs),h.ls.kept g (ne h.ls),h.log.kept g (ne h.log),h.hK⟩
theorem KS.below {B K:Nat} {st:Int} {b:Bk} {q:Bp} {u u':World} (h:KS B K st b q u) (hb:Below u.heap.size u u'):KS B K st b q u' :=
 h.far (row:=none) ⟨hb.os,hb.tape,hb.output,hb.size,fun k hk _=>hb.block k hk⟩ (fun x hx=>by cases hx)
theorem KS.drew {B K:Nat} {st:Int} {b:Bk} {q:Bp} {u:World} (h:KS B K st b q u):KS B K st b q u.drew:=h.below ((Below.refl _ _).drew)
theorem KS.al {B K:Nat} {st:Int} {b:Bk} {q:Bp} {u:World} (h:KS B K st b q u) (o:Obj):KS B K st b q (u.alloc o):=h.below ((Below.refl _ _).alloc (Nat.le_refl _) _)
theorem rowK {u:World} {b1 n1 s1 K i:Nat} {t1 t2:TypeId} {v1 x:Value} {x1:List Value} (h1:u.ownsRow b1 t1 s1 v1 n1 x1) (h2:Holds1 u K t2) (ht:t1≠t2):(u.setCell ⟨K,i,none⟩ x).ownsRow b1 t1 s1 v1 n1 x1 :=
 h1.kept (set_grown u K i x) (own_neK h1 h2 ht)
theorem KS.setSt {B K:Nat} {st:Int} {b:Bk} {q:Bp} {u:World} (h:KS B K st b q u) (s:Int):KS B K s b q (u.setCell ⟨K,0,none⟩ (.int .i32 s)) :=
 ⟨h.z.set0 _,h.kt.set _ _,rowK h.off h.kt (by decide),rowK h.az h.kt (by decide),rowK h.cs h.kt (by decide),rowK h.ls h.kt (by decide),rowK h.log h.kt (by decide),h.hK⟩
theorem KS.setDay {B K:Nat} {st:Int} {b:Bk} {q:Bp} {u:World} (h:KS B K st b q u) (n:Int):KS B K st ⟨n,b.off,b.az,b.cs,b.ls,b.log⟩ q (u.setCell ⟨K,3,none⟩ (.int .i64 n)) :=
 ⟨h.z.set3 _,h.kt.set _ _,rowK h.off h.kt (by decide),rowK h.az h.kt (by decide),rowK h.cs h.kt (by decide),rowK h.ls h.kt (by decide),rowK h.log h.kt (by decide),h.hK⟩
theorem KS.setA {B K:Nat} {st:Int} {b:Bk} {q:Bp} {u:World} (h:KS B K st b q u) {L:List Au} {a:Option Addr} {c m:Nat} (o:u.ownsRow m 107 6 (.slice a L.length c) L.length (acells L)) (hm:B≤m) :
  KS B K st ⟨b.today,b.off,L,b.cs,b.ls,b.log⟩ ⟨q.o,q.oc,a,c,q.c,q.cc,q.l,q.lc,q.g,q.gc⟩ (u.setCell ⟨K,5,none⟩ (.slice a L.length c)) :=
 ⟨h.z.set5 _,h.kt.set _ _,rowK h.off h.kt (by decide),rowK (own_low o hm) h.kt (by decide),rowK h.cs h.kt (by decide),rowK h.ls h.kt (by decide),rowK h.log h.kt (by decide),h.hK⟩
theorem KS.setL {B K:Nat} {st:Int} {b:Bk} {q:Bp} {u:World} (h:KS B K st b q u) {L:List Ln} {a:Option Addr} {c m:Nat} (o:u.ownsRow m 113 3 (.slice a L.length c) L.length (lcells L)) (hm:B≤m) :
  KS B K st ⟨b.today,b.off,b.az,b.cs,L,b.log⟩ ⟨q.o,q.oc,q.a,q.ac,q.c,q.cc,a,c,q.g,q.gc⟩ (u.setCell ⟨K,2,none⟩ (.slice a L.length c)) :=
 ⟨h.z.set2 _,h.kt.set _ _,rowK h.off h.kt (by decide),rowK h.az h.kt (by decide),rowK h.cs h.kt (by decide),rowK (own_low o hm) h.kt (by decide),rowK h.log h.kt (by decide),h.hK⟩
theorem KS.setC {B K:Nat} {st:Int} {b:Bk} {q:Bp} {u u':World} (h:KS B K st b q u) (g:u.grownBy u' (Value.slice q.c b.cs.length q.cc).ownBlock) {L:List Cs} {a:Option Addr} {c:Nat} (o:u'.ownsRow B 61 12 (.slice a L.length c) L.length (cscells L)) :
  KS B K st ⟨b.today,b.off,b.az,L,b.ls,b.log⟩ ⟨q.o,q.oc,q.a,q.ac,a,c,q.l,q.lc,q.g,q.gc⟩ (u'.setCell ⟨K,6,none⟩ (.slice a L.length c)):=by
 have nK:=own_neR h.cs h.kt (by decide)
 have kt:=h.kt.grown g nK
 exact ⟨(h.z.grown g nK).set6 _,kt.set _ _,rowK (h.off.kept g (own_ne h.off h.cs (by decide))) kt (by decide),rowK (h.az.kept g (own_ne h.az h.cs (by decide))) kt (by decide),rowK o kt (by decide),rowK (h.ls.kept g (own_ne h.ls h.cs (by decide))) kt (by decide),rowK (h.log.kept g (own_ne h.log h.cs (by decide))) kt (by decide),h.hK⟩
theorem KS.setG {B K:Nat} {st:Int} {b:Bk} {q:Bp} {u u':World} (h:KS B K st b q u) (g:u.grownBy u' (Value.slice q.g b.log.length q.gc).ownBlock) {L:Recs} {a:Option Addr} {c:Nat} (o:u'.ownsRow B 9 1 (.slice a L.length c) L.length (scells L)) :
  KS B K st ⟨b.today,b.off,b.az,b.cs,b.ls,L⟩ ⟨q.o,q.oc,q.a,q.ac,q.c,q.cc,q.l,q.lc,a,c⟩ (u'.setCell ⟨K,7,none⟩ (.slice a L.length c)):=by
 have nK:=own_neR h.log h.kt (by decide)
 have kt:=h.kt.grown g nK
 exact ⟨(h.z.grown g nK).set7 _,kt.set _ _,rowK (h.off.kept g (own_ne h.off h.log (by decide))) kt (by decide),rowK (h.az.kept g (own_ne h.az h.log (by decide))) kt (by decide),rowK (h.cs.kept g (own_ne h.cs h.log (by decide))) kt (by decide),rowK (h.ls.kept g (own_ne h.ls h.log (by decide))) kt (by decide),rowK o kt (by decide),h.hK⟩
def N18 (x:Int):Prop:=0≤x∧x<1000000000000000000
structure KnI (F:Fns) (E:World→Prop) (G:Nat):Prop where
 keep:∀ w w',E w→Below G w w'→E w'
 size:∀ w,E w→G≤w.heap.size
 num:∀ (l:List UInt8) (w:World),l.length≤1048576→Calls Tryz.prog 275 #[.string ⟨l.toArray⟩] w fun e w'=>e=.returned (.int .i64 (numOf l))∧Below w.heap.size w w'
 dec:∀ (m:Nat) (w:World),m<1000000000000000000→E w→Calls Tryz.prog 127 #[.int .i64 m] w fun e w'=>e=.returned (.string ⟨(Lib.decDigits m).toArray⟩)∧Below w.heap.size w w'
 clone:∀ (l:List UInt8) (w:World),l.length≤1048576→Calls Tryz.prog 138 #[.string ⟨l.toArray⟩] w fun e w'=>e=.returned (.string ⟨l.toArray⟩)∧Below w.heap.size w w'
 split:∀ (l:List UInt8) (w:World),l.length≤1048576→E w→Calls Tryz.prog 66 #[.string ⟨l.toArray⟩,.string ⟨#[32]⟩] w fun e w'=>∃ a,e=.returned (.slice a (wordsW l).length (wordsW l).length)∧TxtsAt w' a (wordsW l)∧Below w.heap.size w w'
 eFull:∀ w,E w→∃ t a,w.cell? ⟨1,0,none⟩=some (.iface t (.pointer (some a)))
 eLine:∀ w,E w→∃ t a,w.cell? ⟨3,0,none⟩=some (.iface t (.pointer (some a)))
 eDay:∀ w,E w→∃ t a,w.cell? ⟨4,0,none⟩=some (.iface t (.pointer (some a)))
 eAuth:∀ w,E w→∃ t a,w.cell? ⟨5,0,none⟩=some (.iface t (.pointer (some a)))
 eCases:∀ w,E w→∃ t a,w.cell? ⟨6,0,none⟩=some (.iface t (.pointer (some a)))
 eCase:∀ w,E w→∃ t a,w.cell? ⟨7,0,none⟩=some (.iface t (.pointer (some a)))
 eMoney:∀ w,E w→∃ t a,w.cell? ⟨8,0,none⟩=some (.iface t (.pointer (some a)))
 eAct:∀ w,E w→∃ t a,w.cell? ⟨9,0,none⟩=some (.iface t (.pointer (some a)))
 words:∀ w,E w→∀ k,k<10→w.cell? ⟨0,k,none⟩=some (.string ⟨(nth actsW k).toArray⟩)
 prune:∀ (ao:Option Addr) (cap:Nat) (az:List Au) (t:Int) (w:World),AuthsAt w ao az→az.length≤1048576→(∀ a ∈ az,a.ref.length≤1048576)→Calls Tryz.prog 207 #[.slice ao az.length cap,.int .i64 t] w (AuR1 w (F.prune az t))
 use:∀ (ao:Option Addr) (cap:Nat) (az:List Au) (i:Int) (w:World),AuthsAt w ao az→az.length≤1048576→(∀ a ∈ az,a.ref.length≤1048576)→Calls Tryz.prog 212 #[.slice ao az.length cap,.int .i64 i] w (AuR2 w (F.use az i) (F.useOk az i))
 add:∀ (ao:Option Addr) (cap:Nat) (az:List Au) (a:Au) (w:World),AuthsAt w ao az→az.length≤1048576→(∀ x ∈ az,x.ref.length≤1048576)→a.ref.length≤1048576→N18 a.cur→Calls Tryz.prog 208 #[.slice ao az.length cap,auv a] w (AuR2 w (F.add az a) (F.addOk az a))
 best:∀ (ao:Option Addr) (cap:Nat) (az:List Au) (iss cur am day:Int) (w:World),AuthsAt w ao az→az.length≤1048576→(∀ a ∈ az,a.ref.length≤1048576)→(∀ a ∈ az,(Lit.int .i64 a.cur).wf=true)→(Lit.int .i64 am).wf=true→(Lit.int .i64 day).wf=true →
  Calls Tryz.prog 209 #[.slice ao az.length cap,.int .i64 iss,.int .i64 cur,.int .i64 am,.int .i64 day] w fun e w'=>∃ x,e=.returned (.int .i64 x)∧F.best az iss cur am day x∧Below w.heap.size w w'
 start:∀ (iss acq cur am day:Int) (w:World),N18 cur→Calls Tryz.prog 210 #[.int .i64 iss,.int .i64 acq,.int .i64 cur,.int .i64 am,.int .i64 day] w fun e w'=>∃ ao cap,e=.returned (.tuple #[cv (F.stC iss acq cur am day),.slice ao (F.stE iss acq cur am day).length cap,.bool (F.stOk iss acq cur am day)])∧w'.ownsRow w.heap.size 269 4 (.slice ao (F.stE iss acq cur am day).length cap) (F.stE iss acq cur am day).length (ecells (F.stE iss acq cur am day))∧Below w.heap.size w w'
 small:∀ iss acq cur am day,(F.stE iss acq cur am day).length≤1048576∧(N18 iss→N18 acq→N18 cur→N18 am→∀ x ∈ F.stE iss acq cur am day,enBd x)
 act:∀ (c:Cs) (a:Ac) (t:Int) (ao:Option Addr) (cp:Nat) (zs:List Int) (w:World),IntsAt w ao zs→zs.length≤1048576→E w→csBd c→Calls Tryz.prog 214 #[cv c,av a,.int .i64 t,.slice ao zs.length cp] w fun e w'=>∃ ao cap,e=.returned (.tuple #[cv (F.doC c a t zs),.slice ao (F.doE c a t zs).length cap,.int .i64 (F.doV c a t zs)])∧w'.ownsRow w.heap.size 269 4 (.slice ao (F.doE c a t zs).length cap) (F.doE c a t zs).length (ecells (F.doE c a t zs))∧Below w.heap.size w w'
 few:∀ c a t zs,(F.doE c a t zs).length≤1048576∧(csBd c→N18 a.am→∀ x ∈ F.doE c a t zs,enBd x)
 low:∀ az i c a d x,F.best az i c a d x→-1≤x
 stay:∀ ls es,F.allOk ls es=false→F.all ls es=ls
 code:∀ c a t zs,0≤F.doV c a t zs∧F.doV c a t zs≤1000
 post:∀ (ao:Option Addr) (cap:Nat) (ls:List Ln) (eo:Option Addr) (ec:Nat) (es:List En) (w:World),LinesAt w ao ls→ls.length≤1048576→(∀ x ∈ ls,lnBd x)→EntsAt w eo es→es.length≤1048576→(∀ x ∈ es,enBd x) →
  Calls Tryz.prog 255 #[.agg #[.slice ao ls.length cap],.slice eo es.length ec] w fun e w'=>∃ ao cap,e=.returned (.tuple #[.agg #[.slice ao (F.all ls es).length cap],.bool (F.allOk ls es)])∧w'.ownsRow w.heap.size 113 3 (.slice ao (F.all ls es).length cap) (F.all ls es).length (lcells (F.all ls es))∧Below w.heap.size w w'
theorem KnI.grow {F:Fns} {E:World→Prop} {G:Nat} (K:KnI F E G) {w w':World} (h:E w) (hb:Below w.heap.size w w'):E w':=K.keep w w' h (hb.mono (K.size w h))
def numP (s:List UInt8):Int:=if 0≤numW s then numW s else 0
theorem numW_neg {s:List UInt8} (h:numOf s<0):numW s = -1:=by
 unfold numW
 split
 ·rfl
 ·rw [if_pos (.inl h)]
theorem numW_dd {s:List UInt8} (h:Lib.decDigits (numOf s).toNat≠s):numW s = -1:=by
 unfold numW
 split
 ·rfl
 ·rw [if_pos (.inr h)]
theorem dec_ne (m:Nat):Lib.decDigits m≠[]:=by
 intro h
 rw [Lib.decDigits] at h
 split at h <;> simp at h
theorem two_nb {a b:Int} {p q:Bool} (h1:a=b) (h2:p=q):Ending.returned (.tuple #[.int .i64 a,.bool p])=.returned (.tuple #[.int .i64 b,.bool q]):=by rw [h1,h2]
theorem no_num {s:List UInt8} (h:numW s = -1):numP s=0∧decide (0≤numW s)=false:=by
 unfold numP
 rw [h]
 exact ⟨by simp,by simp⟩
theorem iNum1_any {F:Fns} {E:World→Prop} {G:Nat} (K:KnI F E G) (s:List UInt8) (w:World) (hl:s.length≤1048576) (hE:E w) :
  Calls Tryz.prog 246 #[.string ⟨s.toArray⟩] w fun e w'=>e=.returned (.tuple #[.int .i64 (numP s),.bool (decide (0≤numW s))])∧Below w.heap.size w w':=by
 have HN:Hid (∀ u,Calls Tryz.prog 275 #[.string ⟨s.toArray⟩] u fun e w'=>e=.returned (.int .i64 (numOf s))∧Below u.heap.size u w'):=fun u=>K.num s u hl
 have hbd:=numOf_bd s
 by_cases h2:numOf s<0
 ·obtain ⟨e1,e2⟩:=no_num (numW_neg h2)
  have HE:Hid (numP s=0∧decide (0≤numW s)=false):=⟨e1,e2⟩
  obtain ⟨n,hn⟩:∃ n,numOf s=n:=⟨_,rfl⟩
  rw [hn] at HN h2 hbd
  clear hn e1 e2
  go_enter Tryz.func246,Tryz.ntmps246
  go_wp2_with (go_at_call 275;refine (HN.out _).mono ?_;rintro e w' ⟨rfl,b1⟩)
  go_ret2
  exact ⟨two_nb HE.out.1.symm HE.out.2.symm,b1⟩
 obtain ⟨m,hm⟩:=Int.eq_ofNat_of_zero_le (show 0≤numOf s by omega)
 have HD:Hid (∀ u,E u→Calls Tryz.prog 127 #[.int .i64 (m:Int)] u fun e w'=>e=.returned (.string ⟨(Lib.decDigits m).toArray⟩)∧Below u.heap.size u w'):=fun u h=>K.dec m u (by omega) h
 have HG:Hid (∀ u,Below w.heap.size w u→E u):=fun u h=>K.grow hE h
 by_cases h1:15<s.length
 ·have h1':(15:Int)<(s.length:Int):=by omega
  obtain ⟨e1,e2⟩:=no_num (numW_l h1)
  have HE:Hid (numP s=0∧decide (0≤numW s)=false):=⟨e1,e2⟩
  rw [hm] at HN h2 hbd
  have hmm:¬ (m:Int)<0:=by omega
  clear hm e1 e2 h1
  go_enter Tryz.func246,Tryz.ntmps246
  go_wp2_with (go_at_call 275;refine (HN.out _).mono ?_;rintro e w' ⟨rfl,b1⟩)
  go_ret2
  exact ⟨two_nb HE.out.1.symm HE.out.2.symm,b1⟩
 have h1':¬ (15:Int)<(s.length:Int):=by omega
 by_cases h3:Lib.decDigits m=s
 ·have h0:s≠[]:=fun e=>dec_ne m (h3.trans e)
  have hW:numW s=(m:Int):=by rw [numW_y h0 h1 h2 (by rw [hm];exact h3),hm]
  have HE:Hid (numP s=(m:Int)∧decide (0≤numW s)=true):=by
   unfold numP
   rw [hW]
   exact ⟨if_pos (by omega),decide_eq_true (by omega)⟩
  rw [hm] at HN h2 hbd
  rw [h3] at HD
  have hmm:¬ (m:Int)<0:=by omega
  clear h1 h3 hW h0 hm
  go_enter Tryz.func246,Tryz.ntmps246
  go_wp2_with (first | (go_at_call 275;refine (HN.out _).mono ?_;rintro e w' ⟨rfl,b1⟩) | (go_at_call 127;refine (HD.out _ (HG.out _ b1)).mono ?_;rintro e w2 ⟨rfl,b2⟩))
  go_ret2
  exact ⟨two_nb HE.out.1.symm HE.out.2.symm,next b1 b2⟩
 ·obtain ⟨e1,e2⟩:=no_num (numW_dd (s:=s) (by rw [hm];exact h3))
  have HE:Hid (numP s=0∧decide (0≤numW s)=false):=⟨e1,e2⟩
  rw [hm] at HN h2 hbd
  obtain ⟨D,hD⟩:∃ D,Lib.decDigits m=D:=⟨_,rfl⟩
  rw [hD] at HD h3
  have hds:(D == s)=false:=by simpa using h3
  have hmm:¬ (m:Int)<0:=by omega
  clear h1 hD hm e1 e2
  go_enter Tryz.func246,Tryz.ntmps246
  go_wp2_with (first | (go_at_call 275;refine (HN.out _).mono ?_;rintro e w' ⟨rfl,b1⟩) | (go_at_call 127;refine (HD.out _ (HG.out _ b1)).mono ?_;rintro e w2 ⟨rfl,b2⟩))
  go_ret2
  exact ⟨two_nb HE.out.1.symm HE.out.2.symm,next b1 b2⟩
theorem iNums_any {F:Fns} {E:World→Prop} {G:Nat} (K:KnI F E G) (ao:Option Addr) (cap:Nat) (rs:Recs) (w:World) (hz:TxtsAt w ao rs) (hn:rs.length≤1048576) (hd:∀ r ∈ rs,r.length≤1048576) (hE:E w) :
  Calls Tryz.prog 206 #[.slice ao rs.length cap] w fun e w'=>∃ a k,e=.returned (.tuple #[.slice a (numsV rs).length k,.bool (numsOk rs)])∧w'.ownsRow w.heap.size 3 1 (.slice a (numsV rs).length k) (numsV rs).length ((numsV rs).map (Value.int .i64))∧Below w.heap.size w w':=by
 obtain ⟨i0,hi,hz0,hz1,hz2⟩:=info_parts infoI2
 have HX:Hid (TxtsAt w ao rs):=hz
 have HD:Hid (∀ k,k<rs.length→(nth rs k).length≤1048576):=fun k hk=>hd _ (nth_mem hk)
 have HG:Hid (∀ u,Below w.heap.size w u→E u):=fun u h=>K.grow hE h
 have HK:Hid (KnI F E G):=K
 clear hz hd hE K
 go_enter Tryz.func206,Tryz.ntmps206
 go_wp2
 go_loopw [4,11] (fun s i wr=>∃ (v:Value) (k:Nat),v=s∧k≤rs.length∧i=.int .i64 (k:Int)∧(∀ j,j<k→0≤numW (nth rs j))∧wr.ownsRow w.heap.size 3 1 v ((rs.take k).map numW).length (((rs.take k).map numW).map (Value.int .i64))∧Below w.heap.size w wr) (fun _ i _=>rs.length - (intOf i).toNat)
 case atStart=>exact ⟨_,0,rfl,Nat.zero_le _,rfl,fun j hj=>absurd hj (Nat.not_lt_zero _),World.ownsRow_nil _ _ _ _,Below.refl _ _⟩
 case round =>
  obtain ⟨v,k,hvs,hk,rfl,hall,hown,hbr⟩:=hrel
  subst hvs
  have HBR:Hid (Below w.heap.size w wr):=hbr
  have HALL:Hid (∀ j,j<k→0≤numW (nth rs j)):=hall
  have HSZ:Hid (w.heap.size≤wr.heap.size):=hbr.size
  have HLT:Hid (∀ j,v.ownBlock=some j→w.heap.size≤j):=fun j hj=>(hown.lt j hj).1
  have hml:((rs.take k).map numW).length≤1048576:=by simp;omega
  by_cases hlt:k<rs.length
  ·have hki:(k:Int)<(rs.length:Int):=by omega
   obtain ⟨gb,off,rfl,hgb,hcell⟩:∃ gb off,ao=some ⟨gb,off,none⟩∧gb<wr.heap.size∧wr.cell? ⟨gb,off+k,none⟩=some (.string ⟨(nth rs k).toArray⟩):=by
    rcases HX.out.below hbr with h | ⟨gb,off,h1,h2,h3⟩
    ·rw [h] at hlt;simp at hlt
    ·exact ⟨gb,off,h1,h2,h3 k hlt⟩
   have HNX:Hid _:=nums_next rs k hlt
   have hrl:=HD.out k hlt
   have HNO:Hid _:=@numsOk_no rs k hlt
   have HNM:Hid (∀ u,Below w.heap.size w u→Calls Tryz.prog 246 #[.string ⟨(nth rs k).toArray⟩] u fun e w'=>e=.returned (.tuple #[.int .i64 (numP (nth rs k)),.bool (decide (0≤numW (nth rs k)))])∧Below u.heap.size u w'):=fun u h=>iNum1_any HK.out _ u hrl (HG.out u h)
   have HAL2:Hid (0≤numW (nth rs k)→∀ j,j<k+1→0≤numW (nth rs j)):=fun h j hj=>by
    rcases (show j<k∨j=k by omega) with hj | rfl
    ·exact HALL.out j hj
    ·exact h
   have HPN:Hid (0≤numW (nth rs k)→numP (nth rs k)=numW (nth rs k)):=fun h=>if_pos h
   obtain ⟨L,hL⟩:∃ L,(rs.take k).map numW=L:=⟨_,rfl⟩
   rw [hL] at HNX hown hml
   obtain ⟨y,hy⟩:∃ y,numP (nth rs k)=y:=⟨_,rfl⟩
   rw [hy] at HNM HPN
   obtain ⟨x,hx⟩:∃ x,numW (nth rs k)=x:=⟨_,rfl⟩
   rw [hx] at HNX HNM HNO HAL2 HPN
   obtain ⟨r,hr⟩:∃ r,nth rs k=r:=⟨_,rfl⟩
   rw [hr] at hcell HNM hrl
   have HO:Hid (wr.ownsRow w.heap.size 3 1 v L.length (L.map (Value.int .i64))):=hown
   clear hL hx hr hy hown hbr hall
   by_cases hxn:x<0
   ·have HE:Hid (numsOk rs=false):=HNO.out hxn
    have HE2:Hid (numsV rs=[]):=if_neg (by rw [HE.out];decide)
    have hdx:decide (0≤x)=false:=decide_eq_false (by omega)
    rw [hdx] at HNM
    clear hdx
    go_wp2_with (go_at_call 246;refine (HNM.out _ HBR.out).mono ?_;rintro e w' ⟨rfl,b1⟩)
    have HB1:Hid (Below w.heap.size w w'):=next HBR.out b1
    clear b1
    go_ret2
    rw [HE.out,HE2.out]
    exact ⟨_,_,rfl,World.ownsRow_nil _ _ _ _,HB1.out⟩
   ·have hdx:decide (0≤x)=true:=decide_eq_true (by omega)
    rw [hdx] at HNM
    have HYX:Hid (y=x):=HPN.out (by omega)
    clear hdx
    go_wp2_with fail
    refine (HNM.out _ HBR.out).mono ?_
    rintro e w1 ⟨rfl,b1⟩
    have HB1:Hid (Below w.heap.size w w1):=next HBR.out b1
    have HO1:Hid (w1.ownsRow w.heap.size 3 1 v L.length (L.map (Value.int .i64))):=keepL HO.out b1
    have HS1:Hid (w.heap.size≤w1.heap.size):=HB1.out.size
    rw [HYX.out]
    clear b1 hcell
    go_wp2_with (at_builtin;refine wpList_append_own _ rfl (.tmp 22) (.tmp 24) 22 rfl w.heap.size 3 i0 (.int .i64 0) 1 8 Tryz.underlying22 hi hz0 hz1 hz2 rfl (by decide) _ _ _ rfl (HO1.out.alloc _) ⟨w1.heap.size,0,none⟩ 1 1 [.int .i64 x] rfl rfl (World.news_of_block (heap_alloc_new w1 _)) (one_nu2 _) (by unfold maxLen;omega) (by omega) (by simp;have:=HS1.out;omega) ?_;intro v5 w5 o5 g5 _)
    have q5:Below w.heap.size w w5:=(HB1.out.alloc (by have:=HS1.out;omega) _).grown g5 (by have:=HS1.out;simp;omega) HLT.out
    have HR5:Hid (w5.ownsRow w.heap.size 3 1 v5 ((rs.take (k+1)).map numW).length (((rs.take (k+1)).map numW).map (Value.int .i64))):=by
     rw [Hid,HNX.out,List.length_append,List.map_append];exact o5
    clear o5 g5
    go_wp2
    go_roundw
    case rel=>exact ⟨_,k+1,rfl,by omega,by go_num,HAL2.out (by omega),HR5.out,q5⟩
    case measure=>simp [intOf];omega
  ·have hke:k=rs.length:=by omega
   subst hke
   have hki:¬ (rs.length:Int)<(rs.length:Int):=by omega
   have HE:Hid (numsOk rs=true):=numsOk_yes HALL.out
   have HE2:Hid (numsV rs=rs.map numW):=if_pos HE.out
   rw [List.take_length] at hown
   obtain ⟨L,hL⟩:∃ L,rs.map numW=L:=⟨_,rfl⟩
   rw [hL] at hown HE2
   clear hL hml
   obtain ⟨va,vk,hva⟩:=own_shape hown
   subst hva
   have HO:Hid _:=hown
   clear hbr hown hall
   go_wp2
   go_ret2
   rw [HE.out,HE2.out]
   exact ⟨_,_,rfl,HO.out,HBR.out⟩
def errIs (code:Int) (v:Value):Prop:=(code=0∧v=.nilIface)∨(code≠0∧∃ y,v=.iface 170 (.agg #[y,.int .i64 code]))
def StR (B K:Nat) (w:World) (r:Bk×Int) (e:Ending) (w':World):Prop:=∃ q v,e=.returned v∧errIs r.2 v∧KS B K 1 r.1 q w'∧Below B w w'
theorem st_no {B K:Nat} {w w':World} {b:Bk} {q:Bp} {c:Int} {y:Value} (hc:c≠0) (k:KS B K 1 b q w') (hb:Below B w w'):StR B K w (b,c) (.returned (.iface 170 (.agg #[y,.int .i64 c]))) w' :=
 ⟨q,_,rfl,.inr ⟨hc,y,rfl⟩,k,hb⟩
theorem st_yes {B K:Nat} {w w':World} {b:Bk} {q:Bp} (k:KS B K 1 b q w') (hb:Below B w w'):StR B K w (b,0) (.returned .nilIface) w':=⟨q,_,rfl,.inl ⟨rfl,rfl⟩,k,hb⟩
structure PreI (b:Bk):Prop where
 sm:bkSm b
 ref:∀ a ∈ b.az,a.ref.length≤1048576
 cur:∀ a ∈ b.az,(Lit.int .i64 a.cur).wf=true
 cc:∀ c ∈ b.cs,csBd c
 lb:∀ x ∈ b.ls,lnBd x
 day:(Lit.int .i64 b.today).wf=true
def dayR (F:Fns) (b:Bk) (rs:Recs):Bk×Int:=if numsOk rs=true∧rs.length=1 then dayB F b (numW (nth rs 0)) else (b,1)
theorem KS.lt {B K:Nat} {st:Int} {b:Bk} {q:Bp} {u:World} (h:KS B K st b q u):B≤u.heap.size:=by have:=h.z.lt;have:=h.hK;omega
theorem iDay_any {F:Fns} {E:World→Prop} {G B K:Nat} (KI:KnI F E G) (b:Bk) (q:Bp) (ao:Option Addr) (cap:Nat) (rs:Recs) (w:World) (hk:KS B K 1 b q w) (hE:E w) (hP:PreI b) (hz:TxtsAt w ao rs) (hn:rs.length≤1048576) (hd:∀ r ∈ rs,r.length≤1048576) :
  Calls Tryz.prog 172 #[.pointer (some ⟨K,0,none⟩),.slice ao rs.length cap] w (StR B K w (dayR F b rs)):=by
 have HNS:Hid (Calls Tryz.prog 206 #[.slice ao rs.length cap] w fun e w'=>∃ a k,e=.returned (.tuple #[.slice a (numsV rs).length k,.bool (numsOk rs)])∧w'.ownsRow w.heap.size 3 1 (.slice a (numsV rs).length k) (numsV rs).length ((numsV rs).map (Value.int .i64))∧Below w.heap.size w w'):=iNums_any KI ao cap rs w hz hn hd hE
 have HB0:Hid (B≤w.heap.size):=hk.lt
 have HK0:Hid (KS B K 1 b q w):=hk
 have HE0:Hid (E w):=hE
 have HPR:Hid (PreI b):=hP
 have HKI:Hid (KnI F E G):=KI
 clear hz hd hk hE hP KI
 by_cases hok:numsOk rs=true∧rs.length=1
 ·obtain ⟨h1,h2⟩:=hok
  obtain ⟨r0,hr0⟩:∃ r0,rs=[r0]:=by
   match rs,h2 with
   | [r],_=>exact ⟨r,rfl⟩
  have hv:numsV rs=[numW r0]:=by rw [numsV,if_pos h1,hr0];rfl
  have HR:Hid (dayR F b rs=dayB F b (numW r0)):=by rw [Hid,dayR,if_pos ⟨h1,h2⟩,hr0];rfl
  rw [hv,h1] at HNS
  rw [HR.out]
  have hbd:=numW_bd r0
  obtain ⟨n,hnn⟩:∃ n,numW r0=n:=⟨_,rfl⟩
  rw [hnn] at HNS hbd ⊢
  simp only [List.length_singleton,List.map_cons,List.map_nil] at HNS
  clear hv hnn HR h1 hr0 h2
  go_enter Tryz.func172,Tryz.ntmps172
  go_wp2_with fail
  refine Calls.mono HNS.out ?_
  rintro e w1 ⟨a,k,rfl,o1,b1⟩
  obtain ⟨g,rfl,-,-⟩:=row_block o1 (by omega)
  have hcell:w1.cell? ⟨g,0,none⟩=some (.int .i64 n):=by simpa using o1.cellAt 0 (by omega)
  have HK1:Hid (KS B K 1 b q w1):=HK0.out.below b1
  have HB1:Hid (Below B w w1):=b1.mono HB0.out
  have HE1:Hid (E w1):=HKI.out.grow HE0.out b1
  clear o1 b1 HNS
  have HDO:Hid (∀ u,Calls Tryz.prog 99 #[.int .i64 n] u fun e w'=>e=.returned (.bool (dOk n))∧w'=u):=fun u=>iDayOk_any n u
  obtain ⟨c0,c1,c2,c3,c4,c5,c6,c7,z0,z1,z2,z3,z4,z5,z6,z7⟩:=HK1.out.z
  obtain ⟨et,ea,hee⟩:=HKI.out.eDay w1 HE1.out
  by_cases hdy:dOk n=true
  ·rw [hdy] at HDO
   by_cases hlt:b.today<n
   ·have hle:¬ n≤b.today:=by omega
    have HDB:Hid _:=day_yes F hdy hlt
    clear hdy hee
    go_upto_region 8 with (go_at_call 99;refine (HDO.out _).mono ?_;rintro e w' ⟨rfl,hw'⟩;replace hw':=hw'.symm;subst hw')
    obtain ⟨W,hW⟩:∃ W,W=w1.setCell ⟨K,3,none⟩ (.int .i64 n):=⟨_,rfl⟩
    rw [← hW]
    have HK2:Hid (KS B K 1 ⟨n,b.off,b.az,b.cs,b.ls,b.log⟩ q W):=by rw [hW];exact HK1.out.setDay n
    have HB2:Hid (Below B w W):=by rw [hW];exact HB1.out.setCell HK1.out.hK _
    clear hW c0 c1 c2 c3 c4 c5 c6 c7 z0 z1 z2 z3 z4 z5 z6 z7 hcell
    obtain ⟨c0,c1,c2,c3,c4,c5,c6,c7,z0,z1,z2,z3,z4,z5,z6,z7⟩:=HK2.out.z
    go_wp2_with fail
    refine Calls.mono (HKI.out.prune q.a q.ac b.az n W HK2.out.at.az HPR.out.sm.2.1 HPR.out.ref) ?_
    rintro e w3 ⟨a3,k3,rfl,o3,b3⟩
    have HBW:Hid (B≤W.heap.size):=HK2.out.lt
    have HK3:Hid _:=(HK2.out.below b3).setA o3 HBW.out
    have HB3:Hid (Below B w (w3.setCell ⟨K,5,none⟩ (.slice a3 (F.prune b.az n).length k3))):=(HB2.out.trans (b3.mono HBW.out)).setCell HK1.out.hK _
    have z5':=(HK2.out.below b3).z.z5
    have c5':=(HK2.out.below b3).z.c5
    clear o3 b3 c0 c1 c2 c3 c4 c5 c6 c7 z0 z1 z2 z3 z4 z5 z6 z7
    go_wp2
    go_ret
    rw [HDB.out]
    exact st_yes HK3.out HB3.out
   ·have hle:n≤b.today:=by omega
    have HDB:Hid _:=day_no2 F hlt
    clear hdy
    go_wp2_with (go_at_call 99;refine (HDO.out _).mono ?_;rintro e w' ⟨rfl,hw'⟩;replace hw':=hw'.symm;subst hw')
    go_ret
    rw [HDB.out]
    exact st_no (by decide) HK1.out HB1.out
  ·have hdf:dOk n=false:=by simpa using hdy
   rw [hdf] at HDO
   have HDB:Hid _:=day_no1 F b hdf
   clear hdy hdf
   go_wp2_with (go_at_call 99;refine (HDO.out _).mono ?_;rintro e w' ⟨rfl,hw'⟩;replace hw':=hw'.symm;subst hw')
   go_ret
   rw [HDB.out]
   exact st_no (by decide) HK1.out HB1.out
 ·have HR:Hid (dayR F b rs=(b,1)):=if_neg hok
  have hne:numsOk rs=true→¬ (numsV rs).length=1:=fun h1 h2=>hok ⟨h1,by rw [numsV,if_pos h1] at h2;simpa using h2⟩
  rw [HR.out]
  have hln:(numsV rs).length≤1048576:=by unfold numsV;split <;> simp;omega
  obtain ⟨L,hL⟩:∃ L,numsV rs=L:=⟨_,rfl⟩
  rw [hL] at HNS hne hln
  obtain ⟨ok,hok2⟩:∃ x,numsOk rs=x:=⟨_,rfl⟩
  rw [hok2] at HNS hne
  clear hL hok2 hok HR
  go_enter Tryz.func172,Tryz.ntmps172
  go_wp2_with fail
  refine Calls.mono HNS.out ?_
  rintro e w1 ⟨a,k,rfl,o1,b1⟩
  have HK1:Hid (KS B K 1 b q w1):=HK0.out.below b1
  have HB1:Hid (Below B w w1):=b1.mono HB0.out
  obtain ⟨et,ea,hee⟩:=HKI.out.eLine w1 (HKI.out.grow HE0.out b1)
  clear o1 b1 HNS
  cases ok
  ·clear hne
   go_wp2
   go_ret
   exact st_no (by decide) HK1.out HB1.out
  ·have hl1:((L.length:Int) == 1)=false:=by
     have:=hne rfl
     simp;omega
   clear hne
   go_wp2
   go_ret
   exact st_no (by decide) HK1.out HB1.out
def PsR (B K:Nat) (F:Fns) (b:Bk) (q:Bp) (es:List En) (w:World) (e:Ending) (w':World):Prop :=
 e=.returned (.bool (F.allOk b.ls es))∧(∃ a c,KS B K 1 ⟨b.today,b.off,b.az,b.cs,F.all b.ls es,b.log⟩ ⟨q.o,q.oc,q.a,q.ac,q.c,q.cc,a,c,q.g,q.gc⟩ w')∧Below B w w'∧w.grownBy w' (some K)
theorem iPost_any {F:Fns} {E:World→Prop} {G B K:Nat} (KI:KnI F E G) (b:Bk) (q:Bp) (eo:Option Addr) (ec:Nat) (es:List En) (w:World) (hk:KS B K 1 b q w) (hP:PreI b) (hz:EntsAt w eo es) (hn:es.length≤1048576) (hd:∀ x ∈ es,enBd x) :
  Calls Tryz.prog 211 #[.pointer (some ⟨K,2,none⟩),.slice eo es.length ec] w (PsR B K F b q es w):=by
 have HPO:Hid (Calls Tryz.prog 255 #[.agg #[.slice q.l b.ls.length q.lc],.slice eo es.length ec] w fun e w'=>∃ ao cap,e=.returned (.tuple #[.agg #[.slice ao (F.all b.ls es).length cap],.bool (F.allOk b.ls es)])∧w'.ownsRow w.heap.size 113 3 (.slice ao (F.all b.ls es).length cap) (F.all b.ls es).length (lcells (F.all b.ls es))∧Below w.heap.size w w'):=KI.post q.l q.lc b.ls eo ec es w hk.at.ls hP.sm.2.2.2.1 hP.lb hz hn hd
 have HB0:Hid (B≤w.heap.size):=hk.lt
 have HK0:Hid (KS B K 1 b q w):=hk
 obtain ⟨L,hL⟩:∃ L,F.all b.ls es=L:=⟨_,rfl⟩
 obtain ⟨ok,hok⟩:∃ o,F.allOk b.ls es=o:=⟨_,rfl⟩
 have HLL:Hid (F.all b.ls es=L):=hL
 have HOK:Hid (F.allOk b.ls es=ok):=hok
 rw [hL,hok] at HPO
 obtain ⟨c0,c1,c2,c3,c4,c5,c6,c7,z0,z1,z2,z3,z4,z5,z6,z7⟩:=hk.z
 clear hz hd hk hP KI hL hok
 go_enter Tryz.func211,Tryz.ntmps211
 go_wp2_with fail
 refine Calls.mono HPO.out ?_
 rintro e w1 ⟨a,k,rfl,o1,b1⟩
 have bA:Below w1.heap.size w1 (w1.alloc (.cells #[.slice a L.length k] 29)):=(Below.refl _ _).alloc (Nat.le_refl _) _
 have HO:Hid ((w1.alloc (.cells #[.slice a L.length k] 29)).ownsRow w.heap.size 113 3 (.slice a L.length k) L.length (lcells L)):=keepL o1 bA
 have HK2:Hid (KS B K 1 b q (w1.alloc (.cells #[.slice a L.length k] 29))):=(HK0.out.below b1).below bA
 have HB2:Hid (Below w.heap.size w (w1.alloc (.cells #[.slice a L.length k] 29))):=next b1 bA
 have bc:(w1.alloc (.cells #[.slice a L.length k] 29)).cell? ⟨w1.heap.size,0,none⟩=some (.slice a L.length k):=by simp
 clear c0 c1 c2 c3 c4 c5 c6 c7 z0 z1 z2 z3 z4 z5 z6 z7 o1 b1 bA HPO
 go_upto_region 2 with fail
 obtain ⟨W,hW⟩:∃ W,W=w1.alloc (.cells #[.slice a L.length k] 29):=⟨_,rfl⟩
 rw [← hW] at HO HK2 HB2 bc ⊢
 clear hW
 have c2:=HK2.out.z.c2
 have z2:=HK2.out.z.z2
 have HKL:Hid _:=HK2.out.setL HO.out HB0.out
 have HGR:Hid (w.grownBy (W.setCell ⟨K,2,none⟩ (.slice a L.length k)) (some K)):=by
  have h:=HB2.out
  exact (World.grownBy.trans ⟨h.os,h.tape,h.output,h.size,fun j hj _=>h.block j hj⟩ (set_grown W K 2 _))
 have HBS:Hid (Below B w (W.setCell ⟨K,2,none⟩ (.slice a L.length k))):=(HB2.out.mono HB0.out).setCell HK0.out.hK _
 go_wp2
 go_ret
 refine ⟨?_,⟨a,k,?_⟩,HBS.out,HGR.out⟩
 ·rw [HOK.out];rfl
 ·rw [HLL.out];exact HKL.out
def actA:Array Value:=#[.string ⟨#[97,115,107]⟩,.string ⟨#[103,105,118,101]⟩,.string ⟨#[99,104,97,114,103,101]⟩,.string ⟨#[97,110,115,119,101,114]⟩,.string ⟨#[115,101,99,111,110,100]⟩,.string ⟨#[97,99,99,101,112,116]⟩,.string ⟨#[114,101,102,117,115,101]⟩,.string ⟨#[114,117,108,101]⟩,.string ⟨#[101,120,112,105,114,101]⟩,.string ⟨#[99,108,111,115,101]⟩]
theorem actA_at (k:Nat) (h:k<10) (V:World):(Instr.index 156 (.agg actA) (.int .i64 (k:Int))).run Tryz.prog V=.ok (.string ⟨(nth actsW k).toArray⟩) V:=by
 rcases (show k=0∨k=1∨k=2∨k=3∨k=4∨k=5∨k=6∨k=7∨k=8∨k=9 by omega) with rfl | rfl | rfl | rfl | rfl | rfl | rfl | rfl | rfl | rfl <;> kernel_rfl
def kindP (s:List UInt8):Int:=if 0≤kindW s then kindW s else 0
theorem iKind_any {F:Fns} {E:World→Prop} {G:Nat} (K:KnI F E G) (s:List UInt8) (w:World) (hE:E w) :
  Calls Tryz.prog 213 #[.string ⟨s.toArray⟩] w fun e w'=>e=.returned (.tuple #[.int .i64 (kindP s),.bool (decide (0≤kindW s))])∧Below w.heap.size w w':=by
 have HK:Hid (kindW s=kindFrom s (actsW.drop 0) 0):=rfl
 have hw:=K.words w hE
 have g0:w.cell? ⟨0,0,none⟩=some (.string ⟨#[97,115,107]⟩):=hw 0 (by decide)
 have g1:w.cell? ⟨0,1,none⟩=some (.string ⟨#[103,105,118,101]⟩):=hw 1 (by decide)
 have g2:w.cell? ⟨0,2,none⟩=some (.string ⟨#[99,104,97,114,103,101]⟩):=hw 2 (by decide)
 have g3:w.cell? ⟨0,3,none⟩=some (.string ⟨#[97,110,115,119,101,114]⟩):=hw 3 (by decide)
 have g4:w.cell? ⟨0,4,none⟩=some (.string ⟨#[115,101,99,111,110,100]⟩):=hw 4 (by decide)
 have g5:w.cell? ⟨0,5,none⟩=some (.string ⟨#[97,99,99,101,112,116]⟩):=hw 5 (by decide)
 have g6:w.cell? ⟨0,6,none⟩=some (.string ⟨#[114,101,102,117,115,101]⟩):=hw 6 (by decide)
 have g7:w.cell? ⟨0,7,none⟩=some (.string ⟨#[114,117,108,101]⟩):=hw 7 (by decide)
 have g8:w.cell? ⟨0,8,none⟩=some (.string ⟨#[101,120,112,105,114,101]⟩):=hw 8 (by decide)
 have g9:w.cell? ⟨0,9,none⟩=some (.string ⟨#[99,108,111,115,101]⟩):=hw 9 (by decide)
 clear hw hE K
 go_enter Tryz.func213,Tryz.ntmps213
 go_wp2
 clear g0 g1 g2 g3 g4 g5 g6 g7 g8 g9
 go_loopw [7] (fun i wr=>∃ (k:Nat),k≤10∧i=.int .i64 (k:Int)∧kindW s=kindFrom s (actsW.drop k) k∧Below w.heap.size w wr) (fun i _=>10 - (intOf i).toNat)
 case atStart=>exact ⟨0,Nat.zero_le _,rfl,HK.out,Below.refl _ _⟩
 case round =>
  obtain ⟨k,hk,rfl,hkw,hbr⟩:=hrel
  have HBR:Hid (Below w.heap.size w wr):=hbr
  by_cases hlt:k<10
  ·have hki:(k:Int)<10:=by omega
   have hst:=kind_step s actsW k hlt
   have hix:=actA_at k hlt
   unfold actA at hix
   obtain ⟨r,hr⟩:∃ r,nth actsW k=r:=⟨_,rfl⟩
   rw [hr] at hst hix
   clear hr hbr HK
   by_cases hrs:r=s
   ·subst hrs
    rw [if_pos rfl] at hst
    have HE:Hid (kindP r=(k:Int)∧decide (0≤kindW r)=true):=by
     have e:kindW r=(k:Int):=hkw.trans hst
     unfold kindP
     rw [e]
     exact ⟨if_pos (by omega),decide_eq_true (by omega)⟩
    clear hst hkw
    go_wp2
    go_ret2
    exact ⟨two_nb HE.out.1.symm HE.out.2.symm,HBR.out⟩
   ·rw [if_neg hrs] at hst
    have HE:Hid (kindW s=kindFrom s (actsW.drop (k+1)) (k+1)):=hkw.trans hst
    have hds:(r == s)=false:=by simpa using hrs
    clear hst hkw
    go_wp2
    go_roundw
    case rel=>exact ⟨k+1,by omega,by go_num,HE.out,HBR.out⟩
    case measure=>simp [intOf];omega
  ·have hke:k=10:=by omega
   subst hke
   have HE:Hid (kindP s=0∧decide (0≤kindW s)=false):=by
    have e:kindW s = -1:=hkw
    unfold kindP
    rw [e]
    exact ⟨by simp,by simp⟩
   clear hbr hkw
   go_wp2
   go_ret2
   exact ⟨two_nb HE.out.1.symm HE.out.2.symm,HBR.out⟩
end Go.Proofs.YtomiclakhjncbaaGreatDoor.Kb
namespace Go.Proofs.YtomiclakhjncbaaGreatDoor
open Go.RowKit
set_option maxRecDepth 100000
set_option maxHeartbeats 12800000
theorem sDay_any (F:Fns) (K:Known F) (b:Bk) (p:Bp) (n:Int) (w:World) (hx:BookAt w b p) (hn:bkSm b) :
  Calls Tryz.prog 141 #[bkv b p,.int .i64 n] w (BdR w p (dayB F b n).1 (dayB F b n).2):=by
 have HX:Hid (∀ u,Below w.heap.size w u→BookAt u b p):=fun u h=>hx.below h
 have HN:Hid (bkSm b):=hn
 clear hx hn
 obtain ⟨td,fo,az,cs,ls,lg⟩:=b
 obtain ⟨o,oc,a,ac,c,cc,l,lc,g,gc⟩:=p
 unfold bkv
 simp only
 obtain ⟨u0,hu0⟩:∃ u,u=((w.alloc (.cells #[.int .i64 td,.slice o fo.length oc,.slice a az.length ac,.slice c cs.length cc,.slice l ls.length lc,.slice g lg.length gc] 31))).alloc (.cells #[.int .i64 0,.slice none 0 0,.slice none 0 0,.slice none 0 0,.slice none 0 0,.slice none 0 0] 31):=⟨_,rfl⟩
 have HB0:Hid (Below w.heap.size w u0):=by rw [Hid,hu0];go_grown
 have HS0:Hid ((w.heap.size+1)<u0.heap.size):=by rw [Hid,hu0];simp
 have HZ0:Hid (Z6 w.heap.size (.int .i64 td) (.slice o fo.length oc) (.slice a az.length ac) (.slice c cs.length cc) (.slice l ls.length lc) (.slice g lg.length gc) u0):=by
  rw [Hid,hu0]
  exact ((Z6.new w (.int .i64 td) (.slice o fo.length oc) (.slice a az.length ac) (.slice c cs.length cc) (.slice l ls.length lc) (.slice g lg.length gc) 31)).below ((Below.refl _ _).alloc (Nat.le_refl _) _)
 have HR0:Hid (Z6 (w.heap.size+1) (.int .i64 0) (.slice none 0 0) (.slice none 0 0) (.slice none 0 0) (.slice none 0 0) (.slice none 0 0) u0):=by
  have h:=Z6.new ((w.alloc (.cells #[.int .i64 td,.slice o fo.length oc,.slice a az.length ac,.slice c cs.length cc,.slice l ls.length lc,.slice g lg.length gc] 31))) (.int .i64 0) (.slice none 0 0) (.slice none 0 0) (.slice none 0 0) (.slice none 0 0) (.slice none 0 0) 31
  rw [Hid,hu0];simpa using h
 have HU0:Hid _:=hu0
 clear hu0
 go_enter Tryz.func141,Tryz.ntmps141
 go_upto_region 1 with fail
 rw [← HU0.out]
 clear HU0
 obtain ⟨t0,t1,t2,t3,t4,t5,s0,s1,s2,s3,s4,s5⟩:=HZ0.out
 obtain ⟨q0,q1,q2,q3,q4,q5,p0,p1,p2,p3,p4,p5⟩:=HR0.out
 cases hd:dOk n
 ·have HE:Hid _:=day_no1 F ⟨td,fo,az,cs,ls,lg⟩ hd
  go_wp2_with (go_at_call 102;refine (sDayOk_any _ _).mono ?_;rintro e w' ⟨rfl,hw'⟩;replace hw':=hw'.symm;subst hw';rw [hd])
  refine bodyPost_ret (by simp [results,Tryz.results141,go_sem,q0,q1,q2,q3,q4,q5];try rfl) rfl ?_
  rw [HE.out]
  have bel:=put6_below (R:=(w.heap.size+1)) (by omega) HB0.out
  exact ⟨⟨o,oc,a,ac,c,cc,l,lc,g,gc⟩,rfl,HX.out _ (bel _ _ _ _ _ _),rfl,rfl,⟨rfl,.inl rfl,.inl rfl,.inl rfl⟩,bel _ _ _ _ _ _⟩
 by_cases hlt:td<n
 case neg =>
  have hle:n≤td:=by omega
  have HE:Hid _:=@day_no2 F ⟨td,fo,az,cs,ls,lg⟩ n hlt
  go_wp2_with (go_at_call 102;refine (sDayOk_any _ _).mono ?_;rintro e w' ⟨rfl,hw'⟩;replace hw':=hw'.symm;subst hw';rw [hd])
  refine bodyPost_ret (by simp [results,Tryz.results141,go_sem,q0,q1,q2,q3,q4,q5];try rfl) rfl ?_
  rw [HE.out]
  have bel:=put6_below (R:=(w.heap.size+1)) (by omega) HB0.out
  exact ⟨⟨o,oc,a,ac,c,cc,l,lc,g,gc⟩,rfl,HX.out _ (bel _ _ _ _ _ _),rfl,rfl,⟨rfl,.inl rfl,.inl rfl,.inl rfl⟩,bel _ _ _ _ _ _⟩
 have hle:¬ n≤td:=by omega
 have HE:Hid _:=@day_yes F ⟨td,fo,az,cs,ls,lg⟩ n hd hlt
 go_upto_region 4 with (go_at_call 102;refine (sDayOk_any _ _).mono ?_;rintro e w' ⟨rfl,hw'⟩;replace hw':=hw'.symm;subst hw';rw [hd])
 obtain ⟨u1,hu1⟩:∃ u,u=u0.setCell ⟨w.heap.size,0,none⟩ (.int .i64 n):=⟨_,rfl⟩
 have HZ1:Hid (Z6 w.heap.size (.int .i64 n) (.slice o fo.length oc) (.slice a az.length ac) (.slice c cs.length cc) (.slice l ls.length lc) (.slice g lg.length gc) u1):=by rw [Hid,hu1];exact HZ0.out.set0 _
 have HR1:Hid (Z6 (w.heap.size+1) (.int .i64 0) (.slice none 0 0) (.slice none 0 0) (.slice none 0 0) (.slice none 0 0) (.slice none 0 0) u1):=by rw [Hid,hu1];exact HR0.out.far (by omega)
 have HB1:Hid (Below w.heap.size w u1):=by rw [Hid,hu1];exact HB0.out.setCell (Nat.le_refl _) _
 have HS1:Hid (w.heap.size+1<u1.heap.size):=by rw [Hid,hu1];simpa using HS0.out
 rw [← hu1]
 clear hu1 HZ0 HR0 HB0 HS0 t0 t1 t2 t3 t4 t5 s0 s1 s2 s3 s4 s5 q0 q1 q2 q3 q4 q5 p0 p1 p2 p3 p4 p5
 obtain ⟨t0,t1,t2,t3,t4,t5,s0,s1,s2,s3,s4,s5⟩:=HZ1.out
 obtain ⟨q0,q1,q2,q3,q4,q5,p0,p1,p2,p3,p4,p5⟩:=HR1.out
 go_wp2_with fail
 refine (K.prune a ac az n _ (HX.out _ HB1.out).az (by have:=HN.out.2.1;simpa using this)).mono ?_
 rintro e u2 ⟨b2,k2,rfl,o2,bb⟩
 have HZ2:Hid _:=HZ1.out.below bb
 have HR2:Hid _:=HR1.out.below bb
 have HB2:Hid (Below w.heap.size w u2):=next HB1.out bb
 have HO2:Hid _:=lowerL o2 HS1.out
 obtain ⟨L,hL⟩:∃ L,F.prune az n=L:=⟨_,rfl⟩
 rw [hL] at HO2 ⊢
 clear t0 t1 t2 t3 t4 t5 s0 s1 s2 s3 s4 s5 q0 q1 q2 q3 q4 q5 p0 p1 p2 p3 p4 p5 bb o2 HZ1 HR1 HB1
 obtain ⟨t0,t1,t2,t3,t4,t5,s0,s1,s2,s3,s4,s5⟩:=HZ2.out
 obtain ⟨q0,q1,q2,q3,q4,q5,p0,p1,p2,p3,p4,p5⟩:=HR2.out
 go_upto_region 5 with fail
 obtain ⟨u3,hu3⟩:∃ u,u=u2.setCell ⟨w.heap.size,2,none⟩ (.slice b2 L.length k2):=⟨_,rfl⟩
 have HZ3:Hid (Z6 w.heap.size (.int .i64 n) (.slice o fo.length oc) (.slice b2 L.length k2) (.slice c cs.length cc) (.slice l ls.length lc) (.slice g lg.length gc) u3):=by rw [Hid,hu3];exact HZ2.out.set2 _
 have HR3:Hid (Z6 (w.heap.size+1) (.int .i64 0) (.slice none 0 0) (.slice none 0 0) (.slice none 0 0) (.slice none 0 0) (.slice none 0 0) u3):=by rw [Hid,hu3];exact HR2.out.far (by omega)
 have HB3:Hid (Below w.heap.size w u3):=by rw [Hid,hu3];exact HB2.out.setCell (Nat.le_refl _) _
 have HO3:Hid (u3.ownsRow (w.heap.size+2) 107 6 (.slice b2 L.length k2) L.length (acells L)):=by rw [Hid,hu3];exact row_far HO2.out (by omega)
 rw [← hu3]
 clear hu3 HZ2 HR2 HB2 HO2 t0 t1 t2 t3 t4 t5 s0 s1 s2 s3 s4 s5 q0 q1 q2 q3 q4 q5 p0 p1 p2 p3 p4 p5
 obtain ⟨t0,t1,t2,t3,t4,t5,s0,s1,s2,s3,s4,s5⟩:=HZ3.out
 obtain ⟨q0,q1,q2,q3,q4,q5,p0,p1,p2,p3,p4,p5⟩:=HR3.out
 go_wp2
 refine bodyPost_ret (by simp [results,Tryz.results141,go_sem,q0,q1,q2,q3,q4,q5];try rfl) rfl ?_
 rw [HE.out,hL]
 have bel:=put6_below (R:=w.heap.size+1) (by omega) HB3.out
 have hX:=HX.out _ (bel (.int .i64 n) (.slice o fo.length oc) (.slice b2 L.length k2) (.slice c cs.length cc) (.slice l ls.length lc) (.slice g lg.length gc))
 exact ⟨⟨o,oc,b2,k2,c,cc,l,lc,g,gc⟩,rfl,⟨hX.off,auths_any (put6_row HO3.out (by omega) _ _ _ _ _ _),hX.cs,hX.ls,hX.log⟩,rfl,rfl,⟨rfl,.inr (fun x hx=>by have:=own_fresh HO3.out x hx;omega),.inl rfl,.inl rfl⟩,bel _ _ _ _ _ _⟩
def BkRel (Rel:Bk→List UInt8→Bk×Int→Prop) (b:Bk) (line:List UInt8) (r:Bk×Int):Prop :=
 (600≤b.log.length∧r=(b,2))∨(b.log.length<600∧∃ s,Rel b line s∧((s.2≠0∧r=(b,s.2))∨(s.2=0∧r=(⟨s.1.today,s.1.off,s.1.az,s.1.cs,s.1.ls,b.log++[line]⟩,0))))
structure DoKnown (Pre:Bk→Prop) (Rel:Bk→List UInt8→Bk×Int→Prop):Prop where
 log:∀ b l r,Rel b l r→r.1.log=b.log
 small:∀ b,Pre b→bkSm b
 calls:∀ (b:Bk) (p:Bp) (line:List UInt8) (w:World),BookAt w b p→AhB p w.heap.size→Pre b→line.length≤1048575 →
  Calls Tryz.prog 84 #[bkv b p,.string ⟨line.toArray⟩] w fun e w'=>∃ r,Rel b line r∧BdR w p r.1 r.2 e w'
theorem Z6.grown {B:Nat} {v0 v1 v2 v3 v4 v5:Value} {u u':World} {row:Option Nat} (h:Z6 B v0 v1 v2 v3 v4 v5 u) (g:u.grownBy u' row) (hr:some B≠row):Z6 B v0 v1 v2 v3 v4 v5 u':=by
 have l:=h.lt
 obtain ⟨c0,c1,c2,c3,c4,c5,z0,z1,z2,z3,z4,z5⟩:=h
 exact ⟨(g.cell_far ⟨B,0,none⟩ l hr).trans c0,(g.cell_far ⟨B,1,none⟩ l hr).trans c1,(g.cell_far ⟨B,2,none⟩ l hr).trans c2,(g.cell_far ⟨B,3,none⟩ l hr).trans c3,(g.cell_far ⟨B,4,none⟩ l hr).trans c4,(g.cell_far ⟨B,5,none⟩ l hr).trans c5,(g.frozen_far ⟨B,0,none⟩ l hr).trans z0,(g.frozen_far ⟨B,1,none⟩ l hr).trans z1,(g.frozen_far ⟨B,2,none⟩ l hr).trans z2,(g.frozen_far ⟨B,3,none⟩ l hr).trans z3,(g.frozen_far ⟨B,4,none⟩ l hr).trans z4,(g.frozen_far ⟨B,5,none⟩ l hr).trans z5⟩
theorem grown_setB {u u':World} {row:Option Nat} {T i:Nat} {x:Value} (h:u.grownBy u' row) (hT:u.heap.size≤T):u.grownBy (u'.setCell ⟨T,i,none⟩ x) row :=
 ⟨h.os,h.tape,h.output,by simpa using h.size,fun j hj hne=>(Below.heap_setCell _ _ _ _ (fun e=>by have:j=T:=e;omega)).trans (h.block j hj hne)⟩
theorem part_off {a a1:Option Addr} {n base B:Nat} (h:a=a1∨Fresh a n) (h1:Ahead a1 base) (hb:base≤B) (hB:B<n):Off1 a B:=by
 rcases h with rfl | h
 ·exact ahead_off h1 hb
 ·exact fresh_off h hB
theorem part_off2 {a a1:Option Addr} {n B:Nat} (h:a=a1∨Fresh a n) (h1:Off1 a1 B) (hB:B<n):Off1 a B:=by
 rcases h with rfl | h
 ·exact h1
 ·exact fresh_off h hB
structure Steps (Pre:Bk→Prop) (Pay:Bk→Int→Int→Int→Int→Bk×Int→Prop) (Act:Bk→Int→Ac→Bk×Int):Prop where
 pay:∀ (b:Bk) (p:Bp) (g k:Nat) (n0 n1 n2 n3:Int) (w:World),BookAt w b p→AhB p w.heap.size→Pre b→w.cell? ⟨g,0,none⟩=some (.int .i64 n0)→w.cell? ⟨g,1,none⟩=some (.int .i64 n1)→w.cell? ⟨g,2,none⟩=some (.int .i64 n2)→w.cell? ⟨g,3,none⟩=some (.int .i64 n3)→n3<1000000000000000000→-1≤n3 →
  Calls Tryz.prog 144 #[bkv b p,.slice (some ⟨g,0,none⟩) 4 k] w fun e w'=>∃ r,Pay b n0 n1 n2 n3 r∧BdR w p r.1 r.2 e w'
 act:∀ (b:Bk) (p:Bp) (i:Int) (x:Ac) (w:World),BookAt w b p→AhB p w.heap.size→Pre b→Calls Tryz.prog 146 #[bkv b p,.int .i64 i,av x] w (BdR w p (Act b i x).1 (Act b i x).2)
theorem Fresh.mono {a:Option Addr} {n m:Nat} (h:Fresh a n) (hm:m≤n):Fresh a m:=fun x hx=>by have:=h x hx;omega
theorem AhB.mono {p:Bp} {n m:Nat} (h:AhB p n) (hm:n≤m):AhB p m:=⟨h.o.mono hm,h.a.mono hm,h.c.mono hm,h.l.mono hm,h.g.mono hm⟩
theorem cell_put6 {u:World} {R:Nat} {p:Addr} {v:Value} (h:u.cell? p=some v) (hne:p.block≠R) (x0 x1 x2 x3 x4 x5:Value) :
  ((((((u.setCell ⟨R,0,none⟩ x0).setCell ⟨R,1,none⟩ x1).setCell ⟨R,2,none⟩ x2).setCell ⟨R,3,none⟩ x3).setCell ⟨R,4,none⟩ x4).setCell ⟨R,5,none⟩ x5).cell? p=some v:=by
 have s:∀ (y:World) (i:Nat) (x:Value),y.cell? p=some v→(y.setCell ⟨R,i,none⟩ x).cell? p=some v:=fun y i x hy=>((set_grown y R i x).cell_far p (World.block_lt_of_cell? y _ hy) (by simp;exact hne)).trans hy
 exact s _ _ _ (s _ _ _ (s _ _ _ (s _ _ _ (s _ _ _ (s _ _ _ h)))))
theorem bd_end {w u u4:World} {p q:Bp} {b':Bk} {code:Int} {R:Nat} (hah:AhB p w.heap.size) (hwu:Below w.heap.size w u) (hR:w.heap.size≤R) (hRu:R<u.heap.size) (hb:BookAt u4 b' q) (hg:q.g=p.g) (hgc:q.gc=p.gc)
  (hpt:q.o=p.o∧(q.a=p.a∨Fresh q.a u.heap.size)∧(q.c=p.c∨Fresh q.c u.heap.size)∧(q.l=p.l∨Fresh q.l u.heap.size)) (b4:Below u.heap.size u u4) (x0 x1 x2 x3 x4 x5:Value) :
  BdR w p b' code (.returned (.tuple #[bkv b' q,.int .i64 code])) ((((((u4.setCell ⟨R,0,none⟩ x0).setCell ⟨R,1,none⟩ x1).setCell ⟨R,2,none⟩ x2).setCell ⟨R,3,none⟩ x3).setCell ⟨R,4,none⟩ x4).setCell ⟨R,5,none⟩ x5) :=
 ⟨q,rfl,hb.put6 (offB_of hah hg hpt hR hRu) _ _ _ _ _ _,hg,hgc,⟨hpt.1,hpt.2.1.imp id (fun h=>h.mono hwu.size),hpt.2.2.1.imp id (fun h=>h.mono hwu.size),hpt.2.2.2.imp id (fun h=>h.mono hwu.size)⟩,put6_below hR (next hwu b4) _ _ _ _ _ _⟩
theorem infoE_parts:∃ i,Tryz.prog.info? 269=some i∧i.zero=some (.agg #[.int .i64 0,.int .i64 0,.int .i64 0,.int .i64 0])∧i.size=4∧i.bytes=32:=by
 obtain ⟨i,h1,h2⟩:=Option.map_eq_some_iff.1 infoE
 simp only [Prod.mk.injEq] at h2
 exact ⟨i,h1,h2.1,h2.2.1,h2.2.2⟩
theorem four_one (x y z t:Int):∀ u ∈ [Value.int .i64 x,.int .i64 y,.int .i64 z,.int .i64 t],u.oneCell'=true:=by
 intro u hu
 simp at hu
 rcases hu with rfl | rfl | rfl | rfl <;> rfl
theorem step_app_own {P:Program} {ops:Array Oper} {o:Oper} {a:Act} {w:World} {K:Act→World→Prop} {Q:Exit→Act→World→Prop} {E:Prop}
  (hg:o.guard=none) (s x:Operand) (t:TypeId) (ho:o.op=Op.call { callee:=Callee.builtin Builtin.append,args:=#[s,x],argTypes:=#[t,t] })
  (base:Nat) (e:TypeId) (i:TypeInfo) (z:Value) (size bytes:Nat) (ht:P.underlying t=some (.slice e)) (hi:P.info? e=some i) (hz:i.zero=some z)
  (hsize:i.size=size) (hby:i.bytes=bytes) (hzs:z.cells.size=size) (hsz:0<size)
  (v:Value) (n:Nat) (xs:List Value) (hs:a.eval s=v) (hown:w.ownsRow base e size v n xs)
  (ad:Addr) (m c:Nat) (news:List Value) (hx:a.eval x=.slice (some ad) m c) (hl:news.length=m*size) (hnews:∀ j u,news[j]?=some u→w.cell? (ad.add j)=some u) (h1:∀ u ∈ news,u.oneCell'=true)
  (h63:n+m≤maxLen) (hbytes:(n+m) * bytes≤140737488355328) (hbase:base≤w.heap.size)
  (h:∀ v' w',w'.ownsRow base e size v' (n+m) (xs++news)→w.grownBy w' v.ownBlock→(v'=.slice none 0 0 ↔ v=.slice none 0 0∧m=0)→K (a.put o.dst v') w') :
  if Region.wanted o (yielded ops a.tmps)=true then Oper.wp P o a w K Q else E:=by
 rw [if_pos (by simp [Region.wanted,hg])]
 exact wp_append_own w s x t ho base e i z size bytes ht hi hz hsize hby hzs hsz v n xs hs hown ad m c news hx hl hnews h1 h63 hbytes hbase h
theorem ecells_app (a b:List En):ecells (a++b)=ecells a++ecells b:=by simp [ecells]
def moved (c:Cs) (es:List En) (f g s:Int):List En:=if 0<s then es++[(f,g,c.cur,s)] else es
theorem chargeV_is {c:Cs} {a:Ac} {t:Int} {zs:List Int} {p q l:Bool} (h1:(!rOk a.rsn || (rProof a.rsn && !copied c t))=p) (h2:(decide (a.am<1) || (decide (c.am<a.am) || (decide (a.am<c.am) && !rPart a.rsn)))=q) (h3:lateV t (dueV c.sta (rDays a.rsn) zs)=l) :
  chargeV c a t zs=if p=true then 3 else if q=true then 2 else if l=true then 4 else 0:=by
 unfold chargeV
 rw [h3]
 have e1:(rOk a.rsn=false∨(rProof a.rsn=true∧copied c t=false)) ↔ p=true:=by rw [← h1];simp
 have e2:(¬ (1≤a.am∧a.am≤c.am)∨(a.am<c.am∧rPart a.rsn=false)) ↔ q=true:=by
  rw [← h2]
  cases rPart a.rsn
  ·simp;omega
  ·simp;omega
 simp only [e1,e2]
theorem bel_at (u:World) (b i:Nat) (x:Value):Below b u (u.setCell ⟨b,i,none⟩ x):=Below.setCell (Below.refl b u) (show b≤b from Nat.le_refl b) x
def replyV (c:Cs) (a:Ac) (t:Int):Int:=if lateV t c.due=true then 4 else if 1≤a.am∧a.am≤c.cl then 0 else 2
theorem reply_pos {c:Cs} {a:Ac} {t:Int} (h:replyV c a t=0):1≤a.am∧a.am≤c.cl:=by
 unfold replyV at h
 split at h
 ·cases h
 ·split at h
  ·assumption
  ·cases h
theorem CB.under {s o B:Nat} {c:Cs} {u u':World} (h:CB s o c u) (b:Below B u u') (l:s<B):CB s o c u' :=
 ⟨(b.cell (p:=⟨s,o,none⟩) l).trans h.f0,(b.cell (p:=⟨s,o+1,none⟩) l).trans h.f1,(b.cell (p:=⟨s,o+2,none⟩) l).trans h.f2,(b.cell (p:=⟨s,o+3,none⟩) l).trans h.f3,(b.cell (p:=⟨s,o+4,none⟩) l).trans h.f4,(b.cell (p:=⟨s,o+5,none⟩) l).trans h.f5,(b.cell (p:=⟨s,o+6,none⟩) l).trans h.f6,(b.cell (p:=⟨s,o+7,none⟩) l).trans h.f7,(b.cell (p:=⟨s,o+8,none⟩) l).trans h.f8,(b.cell (p:=⟨s,o+9,none⟩) l).trans h.f9,(b.cell (p:=⟨s,o+10,none⟩) l).trans h.f10,(b.cell (p:=⟨s,o+11,none⟩) l).trans h.f11⟩
theorem FZ.under {s o B:Nat} {u u':World} (h:FZ s o u) (b:Below B u u') (l:s<B):FZ s o u' :=
 ⟨(b.frozen (p:=⟨s,o,none⟩) l).trans h.z0,(b.frozen (p:=⟨s,o+1,none⟩) l).trans h.z1,(b.frozen (p:=⟨s,o+2,none⟩) l).trans h.z2,(b.frozen (p:=⟨s,o+3,none⟩) l).trans h.z3,(b.frozen (p:=⟨s,o+4,none⟩) l).trans h.z4,(b.frozen (p:=⟨s,o+5,none⟩) l).trans h.z5,(b.frozen (p:=⟨s,o+6,none⟩) l).trans h.z6,(b.frozen (p:=⟨s,o+7,none⟩) l).trans h.z7,(b.frozen (p:=⟨s,o+8,none⟩) l).trans h.z8,(b.frozen (p:=⟨s,o+9,none⟩) l).trans h.z9,(b.frozen (p:=⟨s,o+10,none⟩) l).trans h.z10,(b.frozen (p:=⟨s,o+11,none⟩) l).trans h.z11⟩
structure BX (s:Nat) (c:Cs) (a:Ac) (u:World):Prop where
 cb:CB s 0 c u
 a0:u.cell? ⟨s+1,0,none⟩=some (.int .i64 a.kind)
 a1:u.cell? ⟨s+1,1,none⟩=some (.int .i64 a.am)
 a2:u.cell? ⟨s+1,2,none⟩=some (.int .i64 a.rsn)
 rb:CB (s+1+1) 0 zeroC u
 rz:FZ (s+1+1) 0 u
theorem BX.under {s B:Nat} {c:Cs} {a:Ac} {u u':World} (h:BX s c a u) (b:Below B u u') (l:s+1+1<B):BX s c a u' :=
 ⟨h.cb.under b (by omega),(b.cell (p:=⟨s+1,0,none⟩) (by show s+1<B;omega)).trans h.a0,(b.cell (p:=⟨s+1,1,none⟩) (by show s+1<B;omega)).trans h.a1,(b.cell (p:=⟨s+1,2,none⟩) (by show s+1<B;omega)).trans h.a2,h.rb.under b l,h.rz.under b l⟩
theorem BX.below {s:Nat} {c:Cs} {a:Ac} {u u':World} (h:BX s c a u) (b:Below u.heap.size u u'):BX s c a u':=h.under b h.rb.lt
theorem BX.new (w:World) (c:Cs) (a:Ac) (t1 t2 t3:TypeId):BX w.heap.size c a (((w.alloc (.cells #[.int .i64 c.iss,.int .i64 c.acq,.int .i64 c.cur,.int .i64 c.am,.int .i64 c.st,.int .i64 c.rsn,.int .i64 c.cl,.int .i64 c.bk,.int .i64 c.fee,.bool c.cop,.int .i64 c.sta,.int .i64 c.due] t1)).alloc (.cells #[.int .i64 a.kind,.int .i64 a.am,.int .i64 a.rsn] t2)).alloc (.cells #[.int .i64 0,.int .i64 0,.int .i64 0,.int .i64 0,.int .i64 0,.int .i64 0,.int .i64 0,.int .i64 0,.int .i64 0,.bool false,.int .i64 0,.int .i64 0] t3)):=by
 have h1:=CB.new w c t1
 have b1:∀ (u:World) (o:Obj),Below u.heap.size u (u.alloc o):=fun u o=>(Below.refl _ _).alloc (Nat.le_refl _) _
 have e2:((w.alloc (.cells #[.int .i64 c.iss,.int .i64 c.acq,.int .i64 c.cur,.int .i64 c.am,.int .i64 c.st,.int .i64 c.rsn,.int .i64 c.cl,.int .i64 c.bk,.int .i64 c.fee,.bool c.cop,.int .i64 c.sta,.int .i64 c.due] t1)).alloc (.cells #[.int .i64 a.kind,.int .i64 a.am,.int .i64 a.rsn] t2)).heap.size=w.heap.size+1+1:=by simp
 refine ⟨(h1.below (b1 _ _)).below (b1 _ _),by simp [go_sem],by simp [go_sem],by simp [go_sem],?_,?_⟩
 ·have h3:=CB.new ((w.alloc (.cells #[.int .i64 c.iss,.int .i64 c.acq,.int .i64 c.cur,.int .i64 c.am,.int .i64 c.st,.int .i64 c.rsn,.int .i64 c.cl,.int .i64 c.bk,.int .i64 c.fee,.bool c.cop,.int .i64 c.sta,.int .i64 c.due] t1)).alloc (.cells #[.int .i64 a.kind,.int .i64 a.am,.int .i64 a.rsn] t2)) zeroC t3
  rw [e2] at h3
  exact h3
 ·have h3:=FZ.new ((w.alloc (.cells #[.int .i64 c.iss,.int .i64 c.acq,.int .i64 c.cur,.int .i64 c.am,.int .i64 c.st,.int .i64 c.rsn,.int .i64 c.cl,.int .i64 c.bk,.int .i64 c.fee,.bool c.cop,.int .i64 c.sta,.int .i64 c.due] t1)).alloc (.cells #[.int .i64 a.kind,.int .i64 a.am,.int .i64 a.rsn] t2)) #[.int .i64 0,.int .i64 0,.int .i64 0,.int .i64 0,.int .i64 0,.int .i64 0,.int .i64 0,.int .i64 0,.int .i64 0,.bool false,.int .i64 0,.int .i64 0] t3
  rw [e2] at h3
  exact h3
theorem nextC_cur (c:Cs) (a:Ac) (t:Int) (zs:List Int):(nextC c a t zs).cur=c.cur:=by
 unfold nextC
 repeat' split
 all_goals first | rfl | (unfold expireC;repeat' split) 
 all_goals rfl
def DoR (w:World) (c:Cs) (es:List En) (r:Int) (e:Ending) (w':World):Prop :=
 ∃ ao cap,e=.returned (.tuple #[cv c,.slice ao es.length cap,.int .i64 r])∧w'.ownsRow w.heap.size 269 4 (.slice ao es.length cap) es.length (ecells es)∧Below w.heap.size w w'
theorem do_end {w u:World} {c:Cs} {es:List En} {r:Int} {ao:Option Addr} {cap base:Nat} (hb:w.heap.size+1+1<base) (ho:u.ownsRow base 269 4 (.slice ao es.length cap) es.length (ecells es)) (bel:Below w.heap.size w u) :
  DoR w c es r (.returned (.tuple #[cv c,.slice ao es.length cap,.int .i64 r])) (put12 u (w.heap.size+1+1) c) :=
 ⟨ao,cap,rfl,lowerL (own_put12 c ho (fun g hg=>by have:=(ho.lt g hg).1;omega)) (by omega),put12_below c bel (by omega)⟩
theorem do_drew {w u:World} {c:Cs} {es:List En} {r:Int} {e:Ending} (h:DoR w c es r e u):DoR w c es r e u.drew:=by
 obtain ⟨ao,cap,he,ho,hb⟩:=h
 exact ⟨ao,cap,he,keepL ho ((Below.refl _ _).drew),hb.drew⟩
def PostR (w:World) (ls:List Ln) (ok:Bool) (e:Ending) (w':World):Prop :=
 ∃ ao cap,e=.returned (.tuple #[.agg #[.slice ao ls.length cap],.bool ok])∧w'.ownsRow w.heap.size 113 3 (.slice ao ls.length cap) ls.length (lcells ls)∧Below w.heap.size w w'
structure PB (s:Nat) (ao:Option Addr) (cap n:Nat) (a b c m:Int) (u:World):Prop where
 l0:u.cell? ⟨s,0,none⟩=some (.slice ao n cap)
 e0:u.cell? ⟨s+1,0,none⟩=some (.int .i64 a)
 e1:u.cell? ⟨s+1,1,none⟩=some (.int .i64 b)
 e2:u.cell? ⟨s+1,2,none⟩=some (.int .i64 c)
 e3:u.cell? ⟨s+1,3,none⟩=some (.int .i64 m)
 r0:u.cell? ⟨s+1+1,0,none⟩=some (.slice none 0 0)
 rf:u.frozen? ⟨s+1+1,0,none⟩=false
 sz:s+1+1<u.heap.size
theorem PB.below {s:Nat} {ao:Option Addr} {cap n:Nat} {a b c m:Int} {u u':World} (h:PB s ao cap n a b c m u) (hb:Below u.heap.size u u'):PB s ao cap n a b c m u':=by
 have h1:=h.sz
 exact ⟨(hb.cell (p:=⟨s,0,none⟩) (by show s<u.heap.size;omega)).trans h.l0,(hb.cell (p:=⟨s+1,0,none⟩) (by show s+1<u.heap.size;omega)).trans h.e0,(hb.cell (p:=⟨s+1,1,none⟩) (by show s+1<u.heap.size;omega)).trans h.e1,
  (hb.cell (p:=⟨s+1,2,none⟩) (by show s+1<u.heap.size;omega)).trans h.e2,(hb.cell (p:=⟨s+1,3,none⟩) (by show s+1<u.heap.size;omega)).trans h.e3,(hb.cell (p:=⟨s+1+1,0,none⟩) h1).trans h.r0,(hb.frozen (p:=⟨s+1+1,0,none⟩) h1).trans h.rf,Nat.lt_of_lt_of_le h1 hb.size⟩
theorem post_end {w u:World} {ls gs:List Ln} {ok:Bool} {ao:Option Addr} {cap base:Nat} (hg:gs=ls) (ho:u.ownsRow base 113 3 (.slice ao ls.length cap) ls.length (lcells ls)) (hb:w.heap.size+1+1<base) (bel:Below w.heap.size w u) :
  PostR w gs ok (.returned (.tuple #[.agg #[.slice ao ls.length cap],.bool ok])) (u.setCell ⟨w.heap.size+1+1,0,none⟩ (.slice ao ls.length cap)):=by
 subst hg
 exact ⟨ao,cap,rfl,lowerL (keepSetL ho _ _ (fun g hg=>by have:=(ho.lt g hg).1;simp only;omega)) (by omega),bel.setCell (by show w.heap.size≤w.heap.size+1+1;omega) _⟩
theorem postL_no {ls:List Ln} {e:En} (h:postOk ls e=false):postL ls e=ls:=if_neg (by rw [h];decide)
theorem postL_yes {ls:List Ln} {e:En} (h:postOk ls e=true):postL ls e=postTry ls e:=if_pos h
theorem addL_mem {ls:List Ln} {a c m:Int} : ∀ x ∈ addL ls a c m,x ∈ ls∨x.2.2=m∨∃ y ∈ ls,x.2.2=y.2.2+m:=by
 induction ls with
 | nil=>intro x hx;simp [addL] at hx;subst hx;exact .inr (.inl rfl)
 | cons y r ih =>
  intro x hx
  simp only [addL] at hx
  split at hx
  ·split at hx
   ·split at hx
    ·rcases List.mem_cons.1 hx with rfl | h
     ·exact .inr (.inr ⟨y,List.mem_cons_self ..,rfl⟩)
     ·exact .inl (List.mem_cons_of_mem _ h)
    ·exact .inl (List.mem_cons_of_mem _ hx)
   ·rcases List.mem_cons.1 hx with rfl | h
    ·exact .inr (.inl rfl)
    ·exact .inl h
  ·rcases List.mem_cons.1 hx with rfl | h
   ·exact .inl (List.mem_cons_self ..)
   ·rcases ih x h with h | h | ⟨z,hz,h⟩
    ·exact .inl (List.mem_cons_of_mem _ h)
    ·exact .inr (.inl h)
    ·exact .inr (.inr ⟨z,List.mem_cons_of_mem _ hz,h⟩)
theorem ledgerOk_parts {ls:List Ln} (h:ledgerOk ls=true):linesOk none ls=true∧ls.length≤400∧evenL ls=true:=by
 simp only [ledgerOk,Bool.and_eq_true,decide_eq_true_eq] at h
 exact ⟨h.1,h.2.1,h.2.2⟩
theorem entryOk_parts {e:En} (h:entryOk e=true):acctOk e.1=true∧acctOk e.2.1=true∧e.1≠e.2.1∧0≤digs e.2.2.1∧1≤e.2.2.2∧e.2.2.2≤1000000000000:=by
 simp only [entryOk,Bool.and_eq_true,decide_eq_true_eq] at h
 exact ⟨h.1,h.2.1,h.2.2.1,h.2.2.2.1,h.2.2.2.2⟩
theorem sPost_any (ao:Option Addr) (cap:Nat) (ls:List Ln) (a b c m:Int) (w:World) (hz:LinesAt w ao ls) (hn:ls.length≤1048576) :
  Calls Tryz.prog 220 #[.agg #[.slice ao ls.length cap],.agg #[.int .i64 a,.int .i64 b,.int .i64 c,.int .i64 m]] w (PostR w (postL ls (a,b,c,m)) (postOk ls (a,b,c,m))):=by
 obtain ⟨W,hW⟩:∃ W,W=((w.alloc (.cells #[.slice ao ls.length cap] 29)).alloc (.cells #[.int .i64 a,.int .i64 b,.int .i64 c,.int .i64 m] 269)).alloc (.cells #[.slice none 0 0] 29):=⟨_,rfl⟩
 have bW:Below w.heap.size w W:=by rw [hW];go_grown
 have PW:PB w.heap.size ao cap ls.length a b c m W:=by
  rw [hW];exact ⟨by simp [go_sem],by simp [go_sem],by simp [go_sem],by simp [go_sem],by simp [go_sem],by simp [go_sem],by simp [go_sem],by simp⟩
 have HZ:Hid (LinesAt W ao ls):=hz.below bW
 have HW:Hid _:=hW
 have l0:=PW.l0
 have HPW:Hid _:=PW
 clear hz hW PW
 cases hL:ledgerOk ls
 ·have hno:postOk ls (a,b,c,m)=false:=by simp [postOk,hL]
  have HNL:Hid _:=postL_no hno
  rw [hno]
  have HL:Hid _:=hL
  have HC:Hid (Calls Tryz.prog 260 #[.agg #[.slice ao ls.length cap]] W fun e w'=>e=.returned (.bool false)∧Below W.heap.size W w'):=by
   have h:=sLedgerOk_any ao cap ls W HZ.out (by omega)
   rw [hL] at h;exact h
  clear hno hL
  go_enter Tryz.func220,Tryz.ntmps220
  go_upto_region 1 with fail
  rw [← HW.out]
  go_wp2_with fail
  refine HC.out.mono ?_
  rintro e w1 ⟨rfl,b1⟩
  have P1:=HPW.out.below b1
  have q1:=next bW b1
  have HZ1:Hid (LinesAt w1 ao ls):=HZ.out.below b1
  have j0:=P1.l0
  have HP1:Hid _:=P1
  clear HC b1 P1 l0
  go_wp2_with fail
  refine (sCopy_any ao cap ls w1 HZ1.out (by omega)).mono ?_
  rintro e w2 ⟨g2,c2,rfl,o2,b2⟩
  have P2:=HP1.out.below b2
  have r0:=P2.r0
  have rf:=P2.rf
  have HE:Hid _:=post_end (w:=w) (ok:=false) HNL.out o2 HP1.out.sz (next q1 b2)
  clear o2 b2 P2 j0
  go_wp2
  refine bodyPost_ret (by simp [results,Tryz.results220,go_sem,r0];try rfl) rfl ?_
  exact HE.out
 have HCL:Hid (Calls Tryz.prog 260 #[.agg #[.slice ao ls.length cap]] W fun e w'=>e=.returned (.bool true)∧Below W.heap.size W w'):=by
  have h:=sLedgerOk_any ao cap ls W HZ.out (by omega)
  rw [hL] at h;exact h
 cases hE:entryOk (a,b,c,m)
 ·have hno:postOk ls (a,b,c,m)=false:=by simp [postOk,hE]
  have HNL:Hid _:=postL_no hno
  rw [hno]
  have HEO:Hid _:=hE
  clear hno hL hE
  go_enter Tryz.func220,Tryz.ntmps220
  go_upto_region 1 with fail
  rw [← HW.out]
  go_wp2_with fail
  refine HCL.out.mono ?_
  rintro e w1 ⟨rfl,b1⟩
  have P1:=HPW.out.below b1
  have q1:=next bW b1
  have HZ1:Hid (LinesAt w1 ao ls):=HZ.out.below b1
  have k0:=P1.e0
  have k1:=P1.e1
  have k2:=P1.e2
  have k3:=P1.e3
  have HCE:Hid (Calls Tryz.prog 261 #[.agg #[.int .i64 a,.int .i64 b,.int .i64 c,.int .i64 m]] w1 fun e w'=>e=.returned (.bool false)∧Below w1.heap.size w1 w'):=by
   have h:=sEntryOk_any a b c m w1
   rw [HEO.out] at h;exact h
  have HP1:Hid _:=P1
  clear HCL b1 P1 l0
  go_wp2_with fail
  refine HCE.out.mono ?_
  rintro e w2 ⟨rfl,b2⟩
  have P2:=HP1.out.below b2
  have q2:=next q1 b2
  have HZ2:Hid (LinesAt w2 ao ls):=HZ1.out.below b2
  have j0:=P2.l0
  have HP2:Hid _:=P2
  clear HCE b2 P2 k0 k1 k2 k3
  go_wp2_with fail
  refine (sCopy_any ao cap ls w2 HZ2.out (by omega)).mono ?_
  rintro e w3 ⟨g3,c3,rfl,o3,b3⟩
  have P3:=HP2.out.below b3
  have r0:=P3.r0
  have rf:=P3.rf
  have HE:Hid _:=post_end (w:=w) (ok:=false) HNL.out o3 HP2.out.sz (next q2 b3)
  clear o3 b3 P3 j0
  go_wp2
  refine bodyPost_ret (by simp [results,Tryz.results220,go_sem,r0];try rfl) rfl ?_
  exact HE.out
 ·obtain ⟨hl1,hl2,_⟩:=ledgerOk_parts hL
  obtain ⟨_,_,_,_,hm1,hm2⟩:=entryOk_parts hE
  simp only at hm1 hm2
  have hbd:∀ x ∈ ls,-1000000000000≤x.2.2∧x.2.2≤1000000000000:=fun x hx=>(lnOk_is (linesOk_mem hl1 x hx)).2.2.1
  have HB1:Hid (∀ x ∈ ls,-4000000000000≤x.2.2∧x.2.2≤4000000000000):=fun x hx=>by have:=hbd x hx;omega
  have HB2:Hid (∀ x ∈ addL ls a c (-m),-4000000000000≤x.2.2∧x.2.2≤4000000000000):=fun x hx=>by
   rcases addL_mem x hx with h | h | ⟨y,hy,h⟩
   ·have:=hbd x h;omega
   ·omega
   ·have:=hbd y hy;omega
  have hla:=addL_len ls a c (-m)
  have hlb:=addL_len (addL ls a c (-m)) b c m
  have HPT:Hid (postTry ls (a,b,c,m)=addL (addL ls a c (-m)) b c m):=rfl
  have HPO:Hid (postOk ls (a,b,c,m)=ledgerOk (addL (addL ls a c (-m)) b c m)):=by rw [Hid,postOk,hL,hE];rfl
  obtain ⟨A1,hA1⟩:∃ A1,addL ls a c (-m)=A1:=⟨_,rfl⟩
  rw [hA1] at HB2 hla hlb HPT HPO
  obtain ⟨A,hA⟩:∃ A,addL A1 b c m=A:=⟨_,rfl⟩
  rw [hA] at hlb HPT HPO
  have HA1:Hid _:=hA1
  have HA:Hid _:=hA
  have HEO:Hid _:=hE
  have hAb:A.length≤402:=by omega
  have hA1b:A1.length≤401:=by omega
  clear hL hE hl1 hbd hla hlb hA1 hA
  have hwn:IntKind.i64.wrap (-m) = -m:=by simp [IntKind.wrap,IntKind.bits,IntKind.signed];omega
  go_enter Tryz.func220,Tryz.ntmps220
  go_upto_region 1 with fail
  rw [← HW.out]
  go_wp2_with fail
  refine HCL.out.mono ?_
  rintro e w1 ⟨rfl,b1⟩
  have P1:=HPW.out.below b1
  have q1:=next bW b1
  have HZ1:Hid (LinesAt w1 ao ls):=HZ.out.below b1
  have k0:=P1.e0
  have k1:=P1.e1
  have k2:=P1.e2
  have k3:=P1.e3
  have HCE:Hid (Calls Tryz.prog 261 #[.agg #[.int .i64 a,.int .i64 b,.int .i64 c,.int .i64 m]] w1 fun e w'=>e=.returned (.bool true)∧Below w1.heap.size w1 w'):=by
   have h:=sEntryOk_any a b c m w1
   rw [HEO.out] at h;exact h
  have HP1:Hid _:=P1
  clear HCL b1 P1 l0
  go_wp2_with fail
  refine HCE.out.mono ?_
  rintro e w2 ⟨rfl,b2⟩
  have P2:=HP1.out.below b2
  have q2:=next q1 b2
  have HZ2:Hid (LinesAt w2 ao ls):=HZ1.out.below b2
  have j0:=P2.l0
  have i0:=P2.e0
  have i1:=P2.e1
  have i2:=P2.e2
  have i3:=P2.e3
  have HP2:Hid _:=P2
  have H1:Hid (Calls Tryz.prog 262 #[.slice ao ls.length cap,.int .i64 a,.int .i64 c,.int .i64 (-m)] w2.drew fun e w'=>∃ g cap',e=.returned (.slice g A1.length cap')∧w'.ownsRow w2.heap.size 113 3 (.slice g A1.length cap') A1.length (lcells A1)∧Below w2.heap.size w2 w'):=by
   have h:=sAddL_any ao cap ls a c (-m) w2.drew (HZ2.out.below ((Below.refl _ _).drew)) hn (by omega) HB1.out
   rw [HA1.out] at h
   refine h.mono ?_
   rintro e w' ⟨g,k,rfl,o,bb⟩
   exact ⟨g,k,rfl,o,((Below.refl _ _).drew).trans bb⟩
  have HK2:Hid (∀ (w3:World) (g3:Option Addr) (c3:Nat),w3.ownsRow w2.heap.size 113 3 (.slice g3 A1.length c3) A1.length (lcells A1)→Below w2.heap.size w2 w3→Calls Tryz.prog 262 #[.slice g3 A1.length c3,.int .i64 b,.int .i64 c,.int .i64 m] w3 fun e w'=>∃ g cap',e=.returned (.slice g A.length cap')∧w'.ownsRow w2.heap.size 113 3 (.slice g A.length cap') A.length (lcells A)∧Below w2.heap.size w2 w'):=fun w3 g3 c3 o3 b3=>by
   have h:=sAddL_any g3 c3 A1 b c m w3 (lines_any o3) (by omega) ⟨by omega,by omega⟩ HB2.out
   rw [HA.out] at h
   refine h.mono ?_
   rintro e w' ⟨g,k,rfl,o,bb⟩
   exact ⟨g,k,rfl,lowerL o b3.size,b3.trans (bb.mono b3.size)⟩
  clear HCE b2 P2 k0 k1 k2 k3 HB1 HB2
  go_upto_region 3 with fail
  go_region_held3 (fun u=>u.cell? ⟨w.heap.size,0,none⟩=some (.slice ao ls.length cap)∧u.cell? ⟨w.heap.size+1,0,none⟩=some (.int .i64 a)∧u.cell? ⟨w.heap.size+1,1,none⟩=some (.int .i64 b)∧u.cell? ⟨w.heap.size+1,2,none⟩=some (.int .i64 c)∧u.cell? ⟨w.heap.size+1,3,none⟩=some (.int .i64 m)) (first | exact ⟨j0,i0,i1,i2,i3⟩ | exact ⟨(HP2.out.below b4).l0,(HP2.out.below b4).e0,(HP2.out.below b4).e1,(HP2.out.below b4).e2,(HP2.out.below b4).e3⟩ | exact ⟨(HP2.out.below b3).l0,(HP2.out.below b3).e0,(HP2.out.below b3).e1,(HP2.out.below b3).e2,(HP2.out.below b3).e3⟩) ((first
   | (go_at_call_of 262 (Value.int .i64 (-m));refine H1.out.mono ?_;rintro e w3 ⟨g3,c3,rfl,o3,b3⟩;have H2:Hid (Calls Tryz.prog 262 #[.slice g3 A1.length c3,.int .i64 b,.int .i64 c,.int .i64 m] w3 fun e w'=>∃ g cap',e=.returned (.slice g A.length cap')∧w'.ownsRow w2.heap.size 113 3 (.slice g A.length cap') A.length (lcells A)∧Below w2.heap.size w2 w'):=HK2.out w3 g3 c3 o3 b3;clear o3)
   | (go_at_call 262;refine H2.out.mono ?_;rintro e w4 ⟨g4,c4,rfl,o4,b4⟩;have HO4:Hid (w4.ownsRow w2.heap.size 113 3 (.slice g4 A.length c4) A.length (lcells A)):=o4;clear o4)))
  all_goals
   obtain ⟨u,hu⟩:∃ x,x=w4:=⟨_,rfl⟩
   subst hu
   have g:=g4
   obtain ⟨g,hg⟩:∃ g,g=g4:=⟨_,rfl⟩
   obtain ⟨k,hk⟩:∃ k,k=c4:=⟨_,rfl⟩
   subst hg hk
   have o5:=HO4.out
   have b5:=b4
   clear b4 HO4 H1 H2 HK2 b3
   have P5:=HP2.out.below b5
   have q5:=next q2 b5
   have HO5:Hid (u.ownsRow w2.heap.size 113 3 (.slice g A.length k) A.length (lcells A)):=o5
   obtain ⟨V,hV⟩:∃ V,V=u.alloc (.cells #[.slice g A.length k] 29):=⟨_,rfl⟩
   have bV:Below u.heap.size u V:=by rw [hV];go_grown
   have v0:V.cell? ⟨u.heap.size,0,none⟩=some (.slice g A.length k):=by rw [hV];simp
   have PV:=P5.below bV
   have qV:=next q5 bV
   have HOV:Hid (V.ownsRow w2.heap.size 113 3 (.slice g A.length k) A.length (lcells A)):=keepL o5 bV
   have HZV:Hid (LinesAt V ao ls):=(HZ2.out.below b5).below bV
   have HPV:Hid _:=PV
   have HCL2:Hid (Calls Tryz.prog 260 #[.agg #[.slice g A.length k]] V fun e w'=>e=.returned (.bool (ledgerOk A))∧Below V.heap.size V w'):=sLedgerOk_any g k A V (lines_any HOV.out) (by omega)
   have hs2:w.heap.size+1+1<w2.heap.size:=HP2.out.sz
   clear o5 b5 bV P5 PV q5 j0 i0 i1 i2 i3
   go_upto_region 5 with fail
   rw [← hV]
   clear hV
   cases hLA:ledgerOk A
   ·have hno:postOk ls (a,b,c,m)=false:=HPO.out.trans hLA
    have HNL:Hid _:=postL_no hno
    have HNO:Hid _:=hno
    rw [hLA] at HCL2
    clear hno hLA
    go_wp2_with fail
    refine HCL2.out.mono ?_
    rintro e w6 ⟨rfl,b6⟩
    have P6:=HPV.out.below b6
    have q6:=next qV b6
    have HZ6:Hid (LinesAt w6 ao ls):=HZV.out.below b6
    have j0:=P6.l0
    have HP6:Hid _:=P6
    clear HCL2 b6 P6 v0
    go_wp2_with fail
    refine (sCopy_any ao cap ls w6 HZ6.out (by omega)).mono ?_
    rintro e w7 ⟨g7,c7,rfl,o7,b7⟩
    have P7:=HP6.out.below b7
    have r0:=P7.r0
    have rf:=P7.rf
    have HE:Hid _:=post_end (w:=w) (ok:=false) HNL.out o7 HP6.out.sz (next q6 b7)
    clear o7 b7 P7 j0
    go_wp2
    refine bodyPost_ret (by simp [results,Tryz.results220,go_sem,r0];try rfl) rfl ?_
    rw [HNO.out];exact HE.out
   ·have hyes:postOk ls (a,b,c,m)=true:=HPO.out.trans hLA
    have HNL:Hid (postL ls (a,b,c,m)=A):=(postL_yes hyes).trans HPT.out
    have HNO:Hid _:=hyes
    rw [hLA] at HCL2
    clear hyes hLA
    go_wp2_with fail
    refine HCL2.out.mono ?_
    rintro e w6 ⟨rfl,b6⟩
    have P6:=HPV.out.below b6
    have q6:=next qV b6
    have v6:=(b6.cell (p:=⟨u.heap.size,0,none⟩) (World.block_lt_of_cell? V _ v0)).trans v0
    have r0:=P6.r0
    have rf:=P6.rf
    have HE:Hid _:=post_end (w:=w) (ok:=true) HNL.out (keepL HOV.out b6) hs2 q6
    clear HCL2 b6 P6 v0
    go_wp2
    refine bodyPost_ret (by simp [results,Tryz.results220,go_sem,r0];try rfl) rfl ?_
    rw [HNO.out];exact HE.out
def allL (ls:List Ln) (es:List En):List Ln:=(postsL ls es).getD ls
def allOk (ls:List Ln) (es:List En):Bool:=(postsL ls es).isSome
theorem posts_step (cur:List Ln) (es:List En) (k:Nat) (h:k<es.length):postsL cur (es.drop k)=if postOk cur (enAt es k)=true then postsL (postTry cur (enAt es k)) (es.drop (k+1)) else none:=by
 rw [List.drop_eq_getElem_cons h,← enAt_is h];rfl
theorem posts_end (cur:List Ln) (es:List En):postsL cur (es.drop es.length)=some cur:=by
 rw [List.drop_of_length_le (Nat.le_refl _)];rfl
theorem wf_small {x:Int} (h:-1000000000000≤x∧x≤1000000000000):wf64 x:=WalkArith.wf_i64 (by omega)
theorem bd_of_ok {ls:List Ln} (h:ledgerOk ls=true):∀ x ∈ ls,lnBd x:=by
 intro x hx
 obtain ⟨h1,h2,h3,_⟩:=lnOk_is (linesOk_mem (ledgerOk_parts h).1 x hx)
 refine ⟨wf_small (by omega),wf_small ?_,wf_small h3⟩
 have:=cur_mem h2
 simp [curL] at this
 omega
theorem posted_ok {ls:List Ln} {e:En} (h:postOk ls e=true):postL ls e=postTry ls e∧ledgerOk (postTry ls e)=true:=by
 refine ⟨postL_yes h,?_⟩
 simp only [postOk,Bool.and_eq_true] at h
 exact h.2
structure PA (s B:Nat) (ao:Option Addr) (cap n:Nat) (cur:List Ln) (a2:Option Addr) (k2:Nat) (u:World):Prop where
 l0:u.cell? ⟨s,0,none⟩=some (.slice ao n cap)
 r0:u.cell? ⟨s+1,0,none⟩=some (.slice none 0 0)
 rf:u.frozen? ⟨s+1,0,none⟩=false
 c6:u.cell? ⟨B,0,none⟩=some (.slice a2 cur.length k2)
 f6:u.frozen? ⟨B,0,none⟩=false
 own:u.ownsRow (s+2) 113 3 (.slice a2 cur.length k2) cur.length (lcells cur)
 ne:∀ g,(Value.slice a2 cur.length k2).ownBlock=some g→g≠B
 hB:s+2≤B
theorem PA.below {s B:Nat} {ao:Option Addr} {cap n:Nat} {cur:List Ln} {a2:Option Addr} {k2:Nat} {u u':World} (h:PA s B ao cap n cur a2 k2 u) (b:Below u.heap.size u u'):PA s B ao cap n cur a2 k2 u':=by
 have h0:s<u.heap.size:=World.block_lt_of_cell? u _ h.l0
 have h1:s+1<u.heap.size:=World.block_lt_of_cell? u _ h.r0
 have h2:B<u.heap.size:=World.block_lt_of_cell? u _ h.c6
 exact ⟨(b.cell (p:=⟨s,0,none⟩) h0).trans h.l0,(b.cell (p:=⟨s+1,0,none⟩) h1).trans h.r0,(b.frozen (p:=⟨s+1,0,none⟩) h1).trans h.rf,(b.cell (p:=⟨B,0,none⟩) h2).trans h.c6,(b.frozen (p:=⟨B,0,none⟩) h2).trans h.f6,keepL h.own b,h.ne,h.hB⟩
theorem PA.put {s B base:Nat} {ao:Option Addr} {cap n:Nat} {cur nxt:List Ln} {a2 a3:Option Addr} {k2 k3:Nat} {u:World} (h:PA s B ao cap n cur a2 k2 u) (o:u.ownsRow base 113 3 (.slice a3 nxt.length k3) nxt.length (lcells nxt)) (hb:B<base) :
  PA s B ao cap n nxt a3 k3 (u.setCell ⟨B,0,none⟩ (.slice a3 nxt.length k3)):=by
 have hs:=h.hB
 have hne:∀ g,(Value.slice a3 nxt.length k3).ownBlock=some g→g≠B:=fun g hg=>by have:=(o.lt g hg).1;omega
 refine ⟨?_,?_,?_,by simp [go_sem,h.c6],?_,lowerL (keepSetL o _ _ hne) (by omega),hne,hs⟩
 ·rw [World.cell?_setCell_far _ _ _ _ (by simp;omega)];exact h.l0
 ·rw [World.cell?_setCell_far _ _ _ _ (by simp;omega)];exact h.r0
 ·simp [go_sem,h.rf]
 ·simp [go_sem,h.f6]
theorem pa_start {w w1:World} {ao a1:Option Addr} {cap k1 n:Nat} {ls:List Ln} {t:TypeId} (l0:w1.cell? ⟨w.heap.size,0,none⟩=some (.slice ao n cap)) (r0:w1.cell? ⟨w.heap.size+1,0,none⟩=some (.slice none 0 0)) (rf:w1.frozen? ⟨w.heap.size+1,0,none⟩=false)
  (o:w1.ownsRow (w.heap.size+2) 113 3 (.slice a1 ls.length k1) ls.length (lcells ls)):PA w.heap.size w1.heap.size ao cap n ls a1 k1 (w1.alloc (.cells #[.slice a1 ls.length k1] t)):=by
 have b:Below w1.heap.size w1 (w1.alloc (.cells #[.slice a1 ls.length k1] t)):=by go_grown
 have h0:w.heap.size<w1.heap.size:=World.block_lt_of_cell? w1 _ l0
 have h1:w.heap.size+1<w1.heap.size:=World.block_lt_of_cell? w1 _ r0
 exact ⟨(b.cell (p:=⟨w.heap.size,0,none⟩) h0).trans l0,(b.cell (p:=⟨w.heap.size+1,0,none⟩) h1).trans r0,(b.frozen (p:=⟨w.heap.size+1,0,none⟩) h1).trans rf,by simp,by simp [go_sem],keepL o b,fun g hg=>by have:=(o.lt g hg).2;omega,by omega⟩
theorem all_end {w u:World} {gs cur:List Ln} {ok:Bool} {ao:Option Addr} {cap base:Nat} (hg:gs=cur) (ho:u.ownsRow base 113 3 (.slice ao cur.length cap) cur.length (lcells cur)) (hb:w.heap.size+1<base) (bel:Below w.heap.size w u) :
  PostR w gs ok (.returned (.tuple #[.agg #[.slice ao cur.length cap],.bool ok])) (u.setCell ⟨w.heap.size+1,0,none⟩ (.slice ao cur.length cap)):=by
 subst hg
 exact ⟨ao,cap,rfl,lowerL (keepSetL ho _ _ (fun g hg=>by have:=(ho.lt g hg).1;simp only;omega)) (by omega),bel.setCell (by show w.heap.size≤w.heap.size+1;omega) _⟩
structure ZB (W u:World) (ob:Option Nat) (K:World→Prop):Prop where
 bel:Below W.heap.size W u
 box:∀ B,ob=some B→W.heap.size≤B∧B<u.heap.size∧u.cell? ⟨B,0,none⟩=some (.slice none 0 0)∧u.frozen? ⟨B,0,none⟩=false
 kept:∀ v,Below u.heap.size u v→K v
theorem ZB.start {W:World} {K:World→Prop} (h:∀ v,Below W.heap.size W v→K v):ZB W W none K:=⟨Below.refl _ _,(fun B h=>by cases h),h⟩
theorem ZB.call {W u u':World} {ob:Option Nat} {K:World→Prop} (z:ZB W u ob K) (b:Below u.heap.size u u'):ZB W u' ob K :=
 ⟨next z.bel b,fun B h=>by
  obtain ⟨h1,h2,h3,h4⟩:=z.box B h
  exact ⟨h1,Nat.lt_of_lt_of_le h2 b.size,(b.cell (p:=⟨B,0,none⟩) h2).trans h3,(b.frozen (p:=⟨B,0,none⟩) h2).trans h4⟩,fun v hv=>z.kept v (b.trans (hv.mono b.size))⟩
theorem ZB.drew {W u:World} {ob:Option Nat} {K:World→Prop} (z:ZB W u ob K):ZB W u.drew ob K:=z.call ((Below.refl _ _).drew)
theorem ZB.al {W u:World} {K:World→Prop} (z:ZB W u none K) (t:TypeId):ZB W (u.alloc (.cells #[.slice none 0 0] t)) (some u.heap.size) K:=by
 have b:Below u.heap.size u (u.alloc (.cells #[.slice none 0 0] t)):=by go_grown
 refine ⟨next z.bel b,fun B h=>?_,fun v hv=>z.kept v (b.trans (hv.mono b.size))⟩
 injection h with h
 subst h
 exact ⟨z.bel.size,by simp,by simp,by simp [go_sem]⟩
structure LB (W:World) (L:List Ln) (B:Nat) (ao:Option Addr) (cap:Nat) (u:World):Prop where
 c0:u.cell? ⟨B,0,none⟩=some (.slice ao L.length cap)
 own:u.ownsRow W.heap.size 113 3 (.slice ao L.length cap) L.length (lcells L)
 ge:W.heap.size≤B
 ne:∀ g,(Value.slice ao L.length cap).ownBlock=some g→g≠B
 bel:Below W.heap.size W u
theorem LB.new {W u u0:World} {L:List Ln} {ao:Option Addr} {cap:Nat} {ob:Option Nat} {K:World→Prop} {t:TypeId} (o:u.ownsRow u0.heap.size 113 3 (.slice ao L.length cap) L.length (lcells L)) (z0:ZB W u0 ob K) (z:ZB W u none K) :
  LB W L u.heap.size ao cap (u.alloc (.cells #[.slice ao L.length cap] t)):=by
 have b:Below u.heap.size u (u.alloc (.cells #[.slice ao L.length cap] t)):=by go_grown
 exact ⟨by simp,lowerL (keepL o b) z0.bel.size,z.bel.size,fun g hg=>by have:=(o.lt g hg).2;omega,next z.bel b⟩
theorem LB.set {W u u0:World} {L:List Ln} {B:Nat} {ao:Option Addr} {cap:Nat} {K:World→Prop} (o:u.ownsRow u0.heap.size 113 3 (.slice ao L.length cap) L.length (lcells L)) (z0:ZB W u0 (some B) K) (z:ZB W u (some B) K) :
  LB W L B ao cap (u.setCell ⟨B,0,none⟩ (.slice ao L.length cap)):=by
 obtain ⟨h1,h2,_,_⟩:=z0.box B rfl
 obtain ⟨_,_,h3,_⟩:=z.box B rfl
 have hne:∀ g,(Value.slice ao L.length cap).ownBlock=some g→g≠B:=fun g hg=>by have:=(o.lt g hg).1;omega
 exact ⟨by simp [go_sem,h3],lowerL (keepSetL o _ _ hne) z0.bel.size,h1,hne,z.bel.setCell h1 _⟩
def PostZ (W u:World) (ob:Option Nat) (K:World→Prop) (L:List Ln) (ok:Bool) (e:Ending) (u':World):Prop :=
 ∃ ao cap,e=.returned (.tuple #[.agg #[.slice ao L.length cap],.bool ok])∧u'.ownsRow u.heap.size 113 3 (.slice ao L.length cap) L.length (lcells L)∧ZB W u ob K∧ZB W u' ob K
theorem zPost {W u:World} {ob:Option Nat} {K:World→Prop} {f:FuncId} {args:Array Value} {L:List Ln} {ok:Bool} (z:ZB W u ob K) (h:Calls Tryz.prog f args u (PostR u L ok)):Calls Tryz.prog f args u (PostZ W u ob K L ok) :=
 h.mono fun _ _ ⟨ao,cap,he,ho,hb⟩=>⟨ao,cap,he,ho,z,z.call hb⟩
theorem ZB.now {W u:World} {ob:Option Nat} {K:World→Prop} (z:ZB W u ob K):K u:=z.kept u (Below.refl _ _)
theorem sPostAll_any (ao:Option Addr) (cap:Nat) (ls:List Ln) (eo:Option Addr) (ec:Nat) (es:List En) (w:World) (hz:LinesAt w ao ls) (hn:ls.length≤1048576) (hy:EntsAt w eo es) (hm:es.length≤1048576) :
  Calls Tryz.prog 182 #[.agg #[.slice ao ls.length cap],.slice eo es.length ec] w (PostR w (allL ls es) (allOk ls es)):=by
 obtain ⟨W,hW⟩:∃ W,W=(w.alloc (.cells #[.slice ao ls.length cap] 29)).alloc (.cells #[.slice none 0 0] 29):=⟨_,rfl⟩
 have bW:Below w.heap.size w W:=by rw [hW];go_grown
 have hWs:W.heap.size=w.heap.size+2:=by rw [hW];simp
 have l0:W.cell? ⟨w.heap.size,0,none⟩=some (.slice ao ls.length cap):=by rw [hW];simp [go_sem]
 have r0:W.cell? ⟨w.heap.size+1,0,none⟩=some (.slice none 0 0):=by rw [hW];simp [go_sem]
 have rf:W.frozen? ⟨w.heap.size+1,0,none⟩=false:=by rw [hW];simp [go_sem]
 have HL0:Hid _:=l0
 have HR0:Hid _:=r0
 have HRF:Hid _:=rf
 have HZ:Hid (LinesAt w ao ls):=hz
 have HY:Hid (EntsAt w eo es):=hy
 have HBW:Hid (Below w.heap.size w W):=bW
 have HWS:Hid _:=hWs
 clear hz hy r0 rf bW hWs
 go_enter Tryz.func182,Tryz.ntmps182
 go_upto_region 1 with fail
 rw [← hW]
 clear hW
 go_wp2_with fail
 refine (sCopy_any ao cap ls W (HZ.out.below HBW.out) (by omega)).mono ?_
 rintro e w1 ⟨a1,k1,rfl,o1,b1⟩
 have hws:=HWS.out
 have P1:PA w.heap.size w1.heap.size ao cap ls.length ls a1 k1 (w1.alloc (.cells #[.slice a1 ls.length k1] 29)):=pa_start ((b1.cell (p:=⟨w.heap.size,0,none⟩) (by show w.heap.size<W.heap.size;omega)).trans HL0.out) ((b1.cell (p:=⟨w.heap.size+1,0,none⟩) (by show w.heap.size+1<W.heap.size;omega)).trans HR0.out) ((b1.frozen (p:=⟨w.heap.size+1,0,none⟩) (by show w.heap.size+1<W.heap.size;omega)).trans HRF.out) (lowerL o1 (by omega))
 have q1:=next HBW.out b1
 obtain ⟨V,hV⟩:∃ V,V=w1.alloc (.cells #[.slice a1 ls.length k1] 29):=⟨_,rfl⟩
 have qV:Below w.heap.size w V:=by rw [hV];exact q1.alloc q1.size _
 have HPV:Hid (PA w.heap.size w1.heap.size ao cap ls.length ls a1 k1 V):=by rw [Hid,hV];exact P1
 obtain ⟨B,hBe⟩:∃ B,B=w1.heap.size:=⟨_,rfl⟩
 clear P1 q1 o1 b1 l0 hws
 go_upto_region 2 with fail
 rw [← hV,← hBe]
 rw [← hBe] at HPV
 clear hV hBe
 go_wp2
 go_loopw [7] (fun i wr=>∃ (k:Nat) (cur:List Ln) (a2:Option Addr) (k2:Nat),k≤es.length∧i=.int .i64 k∧postsL ls es=postsL cur (es.drop k)∧PA w.heap.size B ao cap ls.length cur a2 k2 wr∧cur.length≤1048576∧Below w.heap.size w wr) (fun i _=>es.length - (intOf i).toNat)
 case atStart=>exact ⟨0,ls,a1,k1,Nat.zero_le _,rfl,rfl,HPV.out,hn,qV⟩
 case round =>
  obtain ⟨k,cur,a2,k2,hk,rfl,hps,hpa,hcl,hbr⟩:=hrel
  have HPA:Hid (PA w.heap.size B ao cap ls.length cur a2 k2 wr):=hpa
  have HPS:Hid (postsL ls es=postsL cur (es.drop k)):=hps
  clear hpa hps HPV qV
  by_cases hlt:k<es.length
  ·have hki:(k:Int)<(es.length:Int):=by omega
   obtain ⟨b,off,rfl,hb2,y1,y2,y3,y4⟩:=(HY.out.below hbr).at hlt
   have hst:=posts_step cur es k hlt
   obtain ⟨⟨a,a',c,m⟩,hx⟩:∃ x,enAt es k=x:=⟨_,rfl⟩
   rw [hx] at y1 y2 y3 y4 hst
   simp only at y1 y2 y3 y4
   have HST:Hid _:=HPS.out.trans hst
   have c6:=HPA.out.c6
   have HKP:Hid (∀ u,Below wr.heap.size wr u→u.cell? ⟨B,0,none⟩=some (.slice a2 cur.length k2)∧u.cell? ⟨b,off+k*4,none⟩=some (.int .i64 a)∧u.cell? ⟨b,off+k*4+1,none⟩=some (.int .i64 a')∧u.cell? ⟨b,off+k*4+2,none⟩=some (.int .i64 c)∧u.cell? ⟨b,off+k*4+3,none⟩=some (.int .i64 m)):=fun u hu =>
    ⟨(HPA.out.below hu).c6,(hu.cell (p:=⟨b,off+k*4,none⟩) hb2).trans y1,(hu.cell (p:=⟨b,off+k*4+1,none⟩) hb2).trans y2,(hu.cell (p:=⟨b,off+k*4+2,none⟩) hb2).trans y3,(hu.cell (p:=⟨b,off+k*4+3,none⟩) hb2).trans y4⟩
   have HSP:Hid (∀ u,LinesAt u a2 cur→Calls Tryz.prog 220 #[.agg #[.slice a2 cur.length k2],.agg #[.int .i64 a,.int .i64 a',.int .i64 c,.int .i64 m]] u (PostR u (postL cur (a,a',c,m)) (postOk cur (a,a',c,m)))):=fun u h=>sPost_any a2 k2 cur a a' c m u h hcl
   clear hst hx
   go_upto_region 5 with fail
   have z:ZB wr wr none (fun v=>LinesAt v a2 cur):=ZB.start (fun v hv=>(lines_any HPA.out.own).below hv)
   obtain ⟨nx,hnx⟩:∃ nx,postL cur (a,a',c,m)=nx:=⟨_,rfl⟩
   obtain ⟨ok,hok⟩:∃ ok,postOk cur (a,a',c,m)=ok:=⟨_,rfl⟩
   rw [hnx,hok] at HSP
   have HNX:Hid _:=hnx
   have HOK:Hid _:=hok
   clear hnx hok
   go_cut [8,9] (fun v8 v9 wc=>∃ B8 a8 k8,v8=.pointer (some ⟨B8,0,none⟩)∧v9=.bool ok∧LB wr nx B8 a8 k8 wc)
   case first =>
    go_region_held3 (fun u=>u.cell? ⟨B,0,none⟩=some (.slice a2 cur.length k2)∧u.cell? ⟨b,off+k*4,none⟩=some (.int .i64 a)∧u.cell? ⟨b,off+k*4+1,none⟩=some (.int .i64 a')∧u.cell? ⟨b,off+k*4+2,none⟩=some (.int .i64 c)∧u.cell? ⟨b,off+k*4+3,none⟩=some (.int .i64 m)) (first | exact ⟨c6,y1,y2,y3,y4⟩ | exact HKP.out _ z.bel | exact HKP.out _ z.drew.bel | exact HKP.out _ (z.al _).bel | exact HKP.out _ (z.al _).drew.bel | exact HKP.out _ (z.drew.al _).bel | exact HKP.out _ (HF.out _).bel | exact HKP.out _ HF.out.bel) ((
     (go_at_call 220;(first | with_reducible refine (zPost z (HSP.out _ z.now)).mono ?_ | with_reducible refine (zPost z.drew (HSP.out _ z.drew.now)).mono ?_ | with_reducible refine (zPost (z.al _) (HSP.out _ (z.al _).now)).mono ?_ | with_reducible refine (zPost (z.al _).drew (HSP.out _ (z.al _).drew.now)).mono ?_ | with_reducible refine (zPost (z.drew.al _) (HSP.out _ (z.drew.al _).now)).mono ?_);rintro e v3 ⟨a3,k3,rfl,o3,z0,z⟩;(first | (have HF:Hid (∀ t,LB wr nx v3.heap.size a3 k3 (v3.alloc (.cells #[.slice a3 nx.length k3] t))):=(fun t=>LB.new o3 z0 z)) | (have HF:Hid _:=LB.set o3 z0 z;obtain ⟨_,_,n0,n1⟩:=z.box _ rfl));clear o3 z0)))
    all_goals
     go_wp2_with fail
     go_meet
     first
      | exact ⟨_,_,_,rfl,rfl,HF.out _⟩
      | exact ⟨_,_,_,rfl,rfl,HF.out⟩
   obtain ⟨B8,a3,k3,rfl,rfl,P8⟩:=hcut
   obtain ⟨w2,hu⟩:∃ x,x=wc:=⟨_,rfl⟩
   subst hu
   have P3:=HPA.out.below P8.bel
   have d6:=P3.c6
   have f6:=P3.f6
   have c8:=P8.c0
   have q3:=next hbr P8.bel
   have hBw:B<wr.heap.size:=World.block_lt_of_cell? wr _ HPA.out.c6
   have HP4:Hid (PA w.heap.size B ao cap ls.length nx a3 k3 (w2.setCell ⟨B,0,none⟩ (.slice a3 nx.length k3))):=P3.put P8.own hBw
   have hBs:=HPA.out.hB
   have q4:Below w.heap.size w (w2.setCell ⟨B,0,none⟩ (.slice a3 nx.length k3)):=q3.setCell (by show w.heap.size≤B;omega) _
   have HP3:Hid (PA w.heap.size B ao cap ls.length cur a2 k2 w2):=P3
   clear P3 P8 hBw hBs z c6 y1 y2 y3 y4 HKP HSP hbr
   have hok:=HOK.out
   cases ok
   ·rw [hok] at HST
    have HNO:Hid (postsL ls es=none):=HST.out
    clear HST hok
    have l4:=HP3.out.l0
    have HZX:Hid (LinesAt w2 ao ls):=HZ.out.below q3
    clear d6 f6 q4 HP4 c8
    go_wp2_with fail
    refine (sCopy_any ao cap ls w2 HZX.out (by omega)).mono ?_
    rintro e w5 ⟨a5,k5,rfl,o5,b5⟩
    have P5:=HP3.out.below b5
    have r5:=P5.r0
    have rf5:=P5.rf
    have HE:Hid (PostR w (allL ls es) (allOk ls es) (.returned (.tuple #[.agg #[.slice a5 ls.length k5],.bool false])) (w5.setCell ⟨w.heap.size+1,0,none⟩ (.slice a5 ls.length k5))):=by
     have h1:allOk ls es=false:=by unfold allOk;rw [HNO.out];rfl
     have h2:allL ls es=ls:=by unfold allL;rw [HNO.out];rfl
     rw [Hid,h1]
     exact all_end (w:=w) h2 o5 (World.block_lt_of_cell? w2 _ HP3.out.r0) (next q3 b5)
    clear o5 b5 P5 l4
    go_wp2
    refine bodyPost_ret (by simp [results,Tryz.results182,go_sem,r5];try rfl) rfl ?_
    exact HE.out
   ·have hpo:=posted_ok hok
    rw [hok] at HST
    rw [HNX.out] at hpo
    have HN:Hid (postsL ls es=postsL nx (es.drop (k+1))):=by rw [Hid,HST.out,hpo.1];rfl
    have HB2:Hid (nx.length≤1048576):=by
     rw [hpo.1,Hid]
     have:=(ledgerOk_parts hpo.2).2.1;omega
    clear HST hok hpo HNX HOK HP3 q3
    go_wp2
    go_roundw
    case rel=>exact ⟨k+1,nx,a3,k3,by omega,by go_num,HN.out,HP4.out,HB2.out,q4⟩
    case measure=>simp [intOf];omega
  ·have hke:k=es.length:=by omega
   subst hke
   have hki:¬ (es.length:Int)<(es.length:Int):=by omega
   have hsome:postsL ls es=some cur:=by rw [HPS.out,posts_end]
   have c6:=HPA.out.c6
   have r0:=HPA.out.r0
   have rf:=HPA.out.rf
   have HE:Hid (PostR w (allL ls es) (allOk ls es) (.returned (.tuple #[.agg #[.slice a2 cur.length k2],.bool true])) (wr.setCell ⟨w.heap.size+1,0,none⟩ (.slice a2 cur.length k2))):=by
    have h1:allOk ls es=true:=by unfold allOk;rw [hsome];rfl
    have h2:allL ls es=cur:=by unfold allL;rw [hsome];rfl
    rw [Hid,h1]
    exact all_end (w:=w) h2 HPA.out.own (by omega) hbr
   clear hsome HPS
   go_wp2
   refine bodyPost_ret (by simp [results,Tryz.results182,go_sem,r0];try rfl) rfl ?_
   exact HE.out
theorem iBest_any (ao:Option Addr) (cap:Nat) (az:List Au) (iss cur am day:Int) (w:World) (hz:AuthsAt w ao az) (hn:az.length≤1048576) (hd:∀ a ∈ az,a.ref.length≤1099511627776) (hc:∀ a ∈ az,wf64 a.cur) (w3:(Lit.int .i64 am).wf=true) (w4:(Lit.int .i64 day).wf=true) :
  Calls Tryz.prog 209 #[.slice ao az.length cap,.int .i64 iss,.int .i64 cur,.int .i64 am,.int .i64 day] w fun e w'=>∃ x,e=.returned (.int .i64 x)∧BestAt az iss cur am day x∧Below w.heap.size w w':=by
 by_cases hb:100<az.length
 ·have hb':(100:Int)<(az.length:Int):=by omega
  go_enter Tryz.func209,Tryz.ntmps209
  go_wp2
  go_ret
  exact ⟨_,rfl,.inr ⟨hb,rfl⟩,Below.refl _ _⟩
 have hb':(az.length:Int)≤100:=by omega
 have HSC:Hid (∀ k,k<az.length→∀ u,Calls Tryz.prog 251 #[auv (auAt az k),.int .i64 iss,.int .i64 cur,.int .i64 am,.int .i64 day] u fun e w'=>e=.returned (.int .i64 (scA az iss cur am day k))∧Below u.heap.size u w'):=fun k hk u=>iScore_any _ iss cur am day u (hd _ (auAt_mem hk)) (hc _ (auAt_mem hk)) w3 w4
 have HP0:Hid (HP none w [] none 0 (w.alloc (.cells #[.slice none 0 0] 291))) :=
  ⟨(Below.refl _ _).alloc (Nat.le_refl _) _,by simp,by simp [go_sem],World.ownsRow_nil _ _ _ _,fun _ _ e=>by cases e⟩
 obtain ⟨sc,hsc⟩:∃ f,scA az iss cur am day=f:=⟨_,rfl⟩
 have HBA:Hid (∀ x,Best sc az.length x→BestAt az iss cur am day x):=fun x hx=>.inl ⟨by omega,by rw [hsc];exact hx⟩
 rw [hsc] at HSC
 clear hsc hd hc w3 w4
 go_enter Tryz.func209,Tryz.ntmps209
 go_wp2
 go_loopw [12,13,14,22] (fun _ _ _ i wr=>∃ (k:Nat) (H:List Cd) (a:Option Addr) (c:Nat),k≤az.length∧i=.int .i64 k∧Cands sc k H∧HP none w H a c wr) (fun _ _ _ i _=>az.length - (intOf i).toNat)
 case atStart=>exact ⟨0,[],none,0,Nat.zero_le _,rfl,Cands.start sc,HP0.out⟩
 case round =>
  obtain ⟨k,H,ao2,cc,hk,rfl,hcd,hp⟩:=hrel
  have HCD:Hid (Cands sc k H):=hcd
  have HPR:Hid (HP none w H ao2 cc wr):=hp
  have HLE:Hid (H.length≤900):=by have:=hcd.le;rw [Hid];omega
  clear hcd hp HP0
  by_cases hlt:k<az.length
  ·rcases hz with h0 | ⟨b,off,rfl,hbz,hcell⟩
   ·rw [h0] at hlt;simp at hlt
   have hbr:Below w.heap.size w wr:=HPR.out.bel
   have HCL:Hid (∀ i,i<az.length→w.cell? ⟨b,off+i*6,none⟩=some (.string ⟨(auAt az i).ref.toArray⟩)∧w.cell? ⟨b,off+i*6+1,none⟩=some (.int .i64 (auAt az i).iss)∧w.cell? ⟨b,off+i*6+2,none⟩=some (.int .i64 (auAt az i).cur)∧w.cell? ⟨b,off+i*6+3,none⟩=some (.int .i64 (auAt az i).am)∧w.cell? ⟨b,off+i*6+4,none⟩=some (.int .i64 (auAt az i).day)∧w.cell? ⟨b,off+i*6+5,none⟩=some (.bool (auAt az i).used)):=hcell
   have x0:wr.cell? ⟨b,off+k*6,none⟩=some (.string ⟨(auAt az k).ref.toArray⟩):=(hbr.cell (p:=⟨b,off+k*6,none⟩) hbz).trans (HCL.out k hlt).1
   have x1:wr.cell? ⟨b,off+k*6+1,none⟩=some (.int .i64 (auAt az k).iss):=(hbr.cell (p:=⟨b,off+k*6+1,none⟩) hbz).trans (HCL.out k hlt).2.1
   have x2:wr.cell? ⟨b,off+k*6+2,none⟩=some (.int .i64 (auAt az k).cur):=(hbr.cell (p:=⟨b,off+k*6+2,none⟩) hbz).trans (HCL.out k hlt).2.2.1
   have x3:wr.cell? ⟨b,off+k*6+3,none⟩=some (.int .i64 (auAt az k).am):=(hbr.cell (p:=⟨b,off+k*6+3,none⟩) hbz).trans (HCL.out k hlt).2.2.2.1
   have x4:wr.cell? ⟨b,off+k*6+4,none⟩=some (.int .i64 (auAt az k).day):=(hbr.cell (p:=⟨b,off+k*6+4,none⟩) hbz).trans (HCL.out k hlt).2.2.2.2.1
   have x5:wr.cell? ⟨b,off+k*6+5,none⟩=some (.bool (auAt az k).used):=(hbr.cell (p:=⟨b,off+k*6+5,none⟩) hbz).trans (HCL.out k hlt).2.2.2.2.2
   have hki:(k:Int)<(az.length:Int):=by omega
   have HSK:Hid (∀ u,Calls Tryz.prog 251 #[auv (auAt az k),.int .i64 iss,.int .i64 cur,.int .i64 am,.int .i64 day] u fun e w'=>e=.returned (.int .i64 (sc k))∧Below u.heap.size u w'):=HSC.out k hlt
   obtain ⟨⟨r,i,c,m,d,u⟩,hf⟩:∃ a,auAt az k=a:=⟨_,rfl⟩
   rw [hf] at x0 x1 x2 x3 x4 x5 HSK
   unfold auv at HSK
   simp only at x0 x1 x2 x3 x4 x5 HSK
   clear hf hcell hbr
   go_upto_region 7 with fail
   clear x0 x1 x2 x3 x4 x5
   obtain ⟨W,hW⟩:∃ W,wr.alloc (.cells #[.string ⟨r.toArray⟩,.int .i64 i,.int .i64 c,.int .i64 m,.int .i64 d,.bool u] 107)=W:=⟨_,rfl⟩
   have bW:Below wr.heap.size wr W:=hW ▸ (Below.refl _ _).alloc (Nat.le_refl _) _
   have BX:AuB wr.heap.size ⟨r,i,c,m,d,u⟩ W:=hW ▸ AuB.new wr ⟨r,i,c,m,d,u⟩ _
   rw [hW]
   clear hW
   have HPW:Hid (HP none w H ao2 cc W):=HPR.out.below bW
   obtain ⟨q0,q1,q2,q3,q4,q5⟩:=BX
   simp only at q0 q1 q2 q3 q4 q5
   clear bW HPR
   go_wp2_with fail
   refine (HSK.out _).mono ?_
   rintro e u2 ⟨rfl,b2⟩
   have HP2:Hid (HP none w H ao2 cc u2):=HPW.out.below b2
   clear b2 q0 q1 q2 q3 q4 q5 HPW HSK
   by_cases hs:0≤sc k
   ·have HAD:Hid (Calls Tryz.prog 252 #[.pointer (some ⟨w.heap.size,0,none⟩),.int .i64 (sc k),.int .i64 k] u2 fun e u'=>e=.returned (.tuple #[])∧∃ g c G,HP none w G (some ⟨g,0,none⟩) c u'∧IsHeap G∧SameC (H++[(sc k,(k:Int))]) G):=add10_any HP2.out HCD.out.heap (sc k) k HLE.out
    have HPU:Hid (∀ G,IsHeap G→SameC (H++[(sc k,(k:Int))]) G→Cands sc (k+1) G):=fun G h1 h2=>HCD.out.push hs h1 h2
    generalize sc k=s at hs HAD HPU
    go_wp2_with fail
    refine Calls.mono HAD.out ?_
    rintro e u3 ⟨rfl,g3,c3,G,hp3,hG,hS⟩
    have HP3:Hid (HP none w G (some ⟨g3,0,none⟩) c3 u3):=hp3
    have HC3:Hid (Cands sc (k+1) G):=HPU.out G hG hS
    clear hp3 hG hS
    go_wp2
    go_roundw
    case rel=>exact ⟨k+1,G,_,_,by omega,by go_num,HC3.out,HP3.out⟩
    case measure=>simp [intOf];omega
   ·have HC3:Hid (Cands sc (k+1) H):=HCD.out.skip (by omega)
    generalize sc k=s at hs
    go_wp2
    go_roundw
    case rel=>exact ⟨k+1,H,_,_,by omega,by go_num,HC3.out,HP2.out⟩
    case measure=>simp [intOf];omega
  ·have hke:k=az.length:=by omega
   subst hke
   by_cases h0:0<H.length
   ·have HNY:Hid (Calls Tryz.prog 253 #[.pointer (some ⟨w.heap.size,0,none⟩)] wr fun e u'=>e=.returned (.tuple #[.agg #[.int .i64 (cdAt H 0).1,.int .i64 (cdAt H 0).2],.bool true])∧Below w.heap.size w u'):=nearest_yes HPR.out HLE.out h0
    have HBR:Hid (BestAt az iss cur am day (cdAt H 0).2):=HBA.out _ (best_root HCD.out h0)
    obtain ⟨⟨s,p⟩,hsp⟩:∃ x,cdAt H 0=x:=⟨_,rfl⟩
    rw [hsp] at HNY HBR
    simp only at HNY HBR
    clear hsp h0 hz
    go_wp2_with fail
    refine Calls.mono HNY.out ?_
    rintro e u3 ⟨rfl,b3⟩
    have HB3:Hid _:=b3
    clear b3
    go_wp2
    go_ret
    exact ⟨_,rfl,HBR.out,HB3.out.alloc HB3.out.size _⟩
   ·have HNN:Hid (Calls Tryz.prog 253 #[.pointer (some ⟨w.heap.size,0,none⟩)] wr fun e u'=>e=.returned (.tuple #[.agg #[.int .i64 0,.int .i64 0],.bool false])∧Below w.heap.size w u'):=nearest_no HPR.out (by omega)
    have HBR:Hid (BestAt az iss cur am day (-1)):=HBA.out _ (best_none HCD.out (by omega))
    clear h0 hz
    go_wp2_with fail
    refine Calls.mono HNN.out ?_
    rintro e u3 ⟨rfl,b3⟩
    have HB3:Hid _:=b3
    clear b3
    go_wp2
    go_ret
    exact ⟨_,rfl,HBR.out,HB3.out.alloc HB3.out.size _⟩
structure DB (b:Nat) (c:Cs) (a:Ac) (t:Int) (o e:Value) (u:World):Prop where
 cb:CB b 0 c u
 a0:u.cell? ⟨b,12,none⟩=some (.int .i64 a.kind)
 a1:u.cell? ⟨b,13,none⟩=some (.int .i64 a.am)
 a2:u.cell? ⟨b,14,none⟩=some (.int .i64 a.rsn)
 td:u.cell? ⟨b,15,none⟩=some (.int .i64 t)
 ho:u.cell? ⟨b,16,none⟩=some o
 he:u.cell? ⟨b,17,none⟩=some e
 fz:FZ b 0 u
 fe:u.frozen? ⟨b,17,none⟩=false
theorem DB.below {b:Nat} {c:Cs} {a:Ac} {t:Int} {o e:Value} {u u':World} (h:DB b c a t o e u) (k:Below u.heap.size u u'):DB b c a t o e u':=by
 have l:=h.cb.lt
 exact ⟨h.cb.below k,(k.cell (p:=⟨b,12,none⟩) l).trans h.a0,(k.cell (p:=⟨b,13,none⟩) l).trans h.a1,(k.cell (p:=⟨b,14,none⟩) l).trans h.a2,(k.cell (p:=⟨b,15,none⟩) l).trans h.td,(k.cell (p:=⟨b,16,none⟩) l).trans h.ho,(k.cell (p:=⟨b,17,none⟩) l).trans h.he,h.fz.below l k,(k.frozen (p:=⟨b,17,none⟩) l).trans h.fe⟩
theorem DB.grown {b:Nat} {c:Cs} {a:Ac} {t:Int} {o e:Value} {u u':World} {row:Option Nat} (h:DB b c a t o e u) (g:u.grownBy u' row) (hr:some b≠row):DB b c a t o e u':=by
 have l:=h.cb.lt
 exact ⟨h.cb.grown g hr,(g.cell_far ⟨b,12,none⟩ l hr).trans h.a0,(g.cell_far ⟨b,13,none⟩ l hr).trans h.a1,(g.cell_far ⟨b,14,none⟩ l hr).trans h.a2,(g.cell_far ⟨b,15,none⟩ l hr).trans h.td,(g.cell_far ⟨b,16,none⟩ l hr).trans h.ho,(g.cell_far ⟨b,17,none⟩ l hr).trans h.he,h.fz.grown l g hr,(g.frozen_far ⟨b,17,none⟩ l hr).trans h.fe⟩
theorem DB.set4 {b:Nat} {c:Cs} {a:Ac} {t:Int} {o e:Value} {u:World} (h:DB b c a t o e u) (x:Int):DB b ⟨c.iss,c.acq,c.cur,c.am,x,c.rsn,c.cl,c.bk,c.fee,c.cop,c.sta,c.due⟩ a t o e (u.setCell ⟨b,4,none⟩ (.int .i64 x)):=by
 obtain ⟨⟨f0,f1,f2,f3,f4,f5,f6,f7,f8,f9,f10,f11⟩,a0,a1,a2,td,ho,he,⟨z0,z1,z2,z3,z4,z5,z6,z7,z8,z9,z10,z11⟩,fe⟩:=h
 simp only [Nat.zero_add] at f0 f1 f2 f3 f4 f5 f6 f7 f8 f9 f10 f11 z0 z1 z2 z3 z4 z5 z6 z7 z8 z9 z10 z11
 exact ⟨⟨by simp [go_sem,f0],by simp [go_sem,f1],by simp [go_sem,f2],by simp [go_sem,f3],by simp [go_sem,f4],by simp [go_sem,f5],by simp [go_sem,f6],by simp [go_sem,f7],by simp [go_sem,f8],by simp [go_sem,f9],by simp [go_sem,f10],by simp [go_sem,f11]⟩,by simp [go_sem,a0],by simp [go_sem,a1],by simp [go_sem,a2],by simp [go_sem,td],by simp [go_sem,ho],by simp [go_sem,he],⟨by simp [go_sem,z0],by simp [go_sem,z1],by simp [go_sem,z2],by simp [go_sem,z3],by simp [go_sem,z4],by simp [go_sem,z5],by simp [go_sem,z6],by simp [go_sem,z7],by simp [go_sem,z8],by simp [go_sem,z9],by simp [go_sem,z10],by simp [go_sem,z11]⟩,by simp [go_sem,fe]⟩
theorem DB.set5 {b:Nat} {c:Cs} {a:Ac} {t:Int} {o e:Value} {u:World} (h:DB b c a t o e u) (x:Int):DB b ⟨c.iss,c.acq,c.cur,c.am,c.st,x,c.cl,c.bk,c.fee,c.cop,c.sta,c.due⟩ a t o e (u.setCell ⟨b,5,none⟩ (.int .i64 x)):=by
 obtain ⟨⟨f0,f1,f2,f3,f4,f5,f6,f7,f8,f9,f10,f11⟩,a0,a1,a2,td,ho,he,⟨z0,z1,z2,z3,z4,z5,z6,z7,z8,z9,z10,z11⟩,fe⟩:=h
 simp only [Nat.zero_add] at f0 f1 f2 f3 f4 f5 f6 f7 f8 f9 f10 f11 z0 z1 z2 z3 z4 z5 z6 z7 z8 z9 z10 z11
 exact ⟨⟨by simp [go_sem,f0],by simp [go_sem,f1],by simp [go_sem,f2],by simp [go_sem,f3],by simp [go_sem,f4],by simp [go_sem,f5],by simp [go_sem,f6],by simp [go_sem,f7],by simp [go_sem,f8],by simp [go_sem,f9],by simp [go_sem,f10],by simp [go_sem,f11]⟩,by simp [go_sem,a0],by simp [go_sem,a1],by simp [go_sem,a2],by simp [go_sem,td],by simp [go_sem,ho],by simp [go_sem,he],⟨by simp [go_sem,z0],by simp [go_sem,z1],by simp [go_sem,z2],by simp [go_sem,z3],by simp [go_sem,z4],by simp [go_sem,z5],by simp [go_sem,z6],by simp [go_sem,z7],by simp [go_sem,z8],by simp [go_sem,z9],by simp [go_sem,z10],by simp [go_sem,z11]⟩,by simp [go_sem,fe]⟩
theorem DB.set6 {b:Nat} {c:Cs} {a:Ac} {t:Int} {o e:Value} {u:World} (h:DB b c a t o e u) (x:Int):DB b ⟨c.iss,c.acq,c.cur,c.am,c.st,c.rsn,x,c.bk,c.fee,c.cop,c.sta,c.due⟩ a t o e (u.setCell ⟨b,6,none⟩ (.int .i64 x)):=by
 obtain ⟨⟨f0,f1,f2,f3,f4,f5,f6,f7,f8,f9,f10,f11⟩,a0,a1,a2,td,ho,he,⟨z0,z1,z2,z3,z4,z5,z6,z7,z8,z9,z10,z11⟩,fe⟩:=h
 simp only [Nat.zero_add] at f0 f1 f2 f3 f4 f5 f6 f7 f8 f9 f10 f11 z0 z1 z2 z3 z4 z5 z6 z7 z8 z9 z10 z11
 exact ⟨⟨by simp [go_sem,f0],by simp [go_sem,f1],by simp [go_sem,f2],by simp [go_sem,f3],by simp [go_sem,f4],by simp [go_sem,f5],by simp [go_sem,f6],by simp [go_sem,f7],by simp [go_sem,f8],by simp [go_sem,f9],by simp [go_sem,f10],by simp [go_sem,f11]⟩,by simp [go_sem,a0],by simp [go_sem,a1],by simp [go_sem,a2],by simp [go_sem,td],by simp [go_sem,ho],by simp [go_sem,he],⟨by simp [go_sem,z0],by simp [go_sem,z1],by simp [go_sem,z2],by simp [go_sem,z3],by simp [go_sem,z4],by simp [go_sem,z5],by simp [go_sem,z6],by simp [go_sem,z7],by simp [go_sem,z8],by simp [go_sem,z9],by simp [go_sem,z10],by simp [go_sem,z11]⟩,by simp [go_sem,fe]⟩
theorem DB.set7 {b:Nat} {c:Cs} {a:Ac} {t:Int} {o e:Value} {u:World} (h:DB b c a t o e u) (x:Int):DB b ⟨c.iss,c.acq,c.cur,c.am,c.st,c.rsn,c.cl,x,c.fee,c.cop,c.sta,c.due⟩ a t o e (u.setCell ⟨b,7,none⟩ (.int .i64 x)):=by
 obtain ⟨⟨f0,f1,f2,f3,f4,f5,f6,f7,f8,f9,f10,f11⟩,a0,a1,a2,td,ho,he,⟨z0,z1,z2,z3,z4,z5,z6,z7,z8,z9,z10,z11⟩,fe⟩:=h
 simp only [Nat.zero_add] at f0 f1 f2 f3 f4 f5 f6 f7 f8 f9 f10 f11 z0 z1 z2 z3 z4 z5 z6 z7 z8 z9 z10 z11
 exact ⟨⟨by simp [go_sem,f0],by simp [go_sem,f1],by simp [go_sem,f2],by simp [go_sem,f3],by simp [go_sem,f4],by simp [go_sem,f5],by simp [go_sem,f6],by simp [go_sem,f7],by simp [go_sem,f8],by simp [go_sem,f9],by simp [go_sem,f10],by simp [go_sem,f11]⟩,by simp [go_sem,a0],by simp [go_sem,a1],by simp [go_sem,a2],by simp [go_sem,td],by simp [go_sem,ho],by simp [go_sem,he],⟨by simp [go_sem,z0],by simp [go_sem,z1],by simp [go_sem,z2],by simp [go_sem,z3],by simp [go_sem,z4],by simp [go_sem,z5],by simp [go_sem,z6],by simp [go_sem,z7],by simp [go_sem,z8],by simp [go_sem,z9],by simp [go_sem,z10],by simp [go_sem,z11]⟩,by simp [go_sem,fe]⟩
theorem DB.set8 {b:Nat} {c:Cs} {a:Ac} {t:Int} {o e:Value} {u:World} (h:DB b c a t o e u) (x:Int):DB b ⟨c.iss,c.acq,c.cur,c.am,c.st,c.rsn,c.cl,c.bk,x,c.cop,c.sta,c.due⟩ a t o e (u.setCell ⟨b,8,none⟩ (.int .i64 x)):=by
 obtain ⟨⟨f0,f1,f2,f3,f4,f5,f6,f7,f8,f9,f10,f11⟩,a0,a1,a2,td,ho,he,⟨z0,z1,z2,z3,z4,z5,z6,z7,z8,z9,z10,z11⟩,fe⟩:=h
 simp only [Nat.zero_add] at f0 f1 f2 f3 f4 f5 f6 f7 f8 f9 f10 f11 z0 z1 z2 z3 z4 z5 z6 z7 z8 z9 z10 z11
 exact ⟨⟨by simp [go_sem,f0],by simp [go_sem,f1],by simp [go_sem,f2],by simp [go_sem,f3],by simp [go_sem,f4],by simp [go_sem,f5],by simp [go_sem,f6],by simp [go_sem,f7],by simp [go_sem,f8],by simp [go_sem,f9],by simp [go_sem,f10],by simp [go_sem,f11]⟩,by simp [go_sem,a0],by simp [go_sem,a1],by simp [go_sem,a2],by simp [go_sem,td],by simp [go_sem,ho],by simp [go_sem,he],⟨by simp [go_sem,z0],by simp [go_sem,z1],by simp [go_sem,z2],by simp [go_sem,z3],by simp [go_sem,z4],by simp [go_sem,z5],by simp [go_sem,z6],by simp [go_sem,z7],by simp [go_sem,z8],by simp [go_sem,z9],by simp [go_sem,z10],by simp [go_sem,z11]⟩,by simp [go_sem,fe]⟩
theorem DB.set11 {b:Nat} {c:Cs} {a:Ac} {t:Int} {o e:Value} {u:World} (h:DB b c a t o e u) (x:Int):DB b ⟨c.iss,c.acq,c.cur,c.am,c.st,c.rsn,c.cl,c.bk,c.fee,c.cop,c.sta,x⟩ a t o e (u.setCell ⟨b,11,none⟩ (.int .i64 x)):=by
 obtain ⟨⟨f0,f1,f2,f3,f4,f5,f6,f7,f8,f9,f10,f11⟩,a0,a1,a2,td,ho,he,⟨z0,z1,z2,z3,z4,z5,z6,z7,z8,z9,z10,z11⟩,fe⟩:=h
 simp only [Nat.zero_add] at f0 f1 f2 f3 f4 f5 f6 f7 f8 f9 f10 f11 z0 z1 z2 z3 z4 z5 z6 z7 z8 z9 z10 z11
 exact ⟨⟨by simp [go_sem,f0],by simp [go_sem,f1],by simp [go_sem,f2],by simp [go_sem,f3],by simp [go_sem,f4],by simp [go_sem,f5],by simp [go_sem,f6],by simp [go_sem,f7],by simp [go_sem,f8],by simp [go_sem,f9],by simp [go_sem,f10],by simp [go_sem,f11]⟩,by simp [go_sem,a0],by simp [go_sem,a1],by simp [go_sem,a2],by simp [go_sem,td],by simp [go_sem,ho],by simp [go_sem,he],⟨by simp [go_sem,z0],by simp [go_sem,z1],by simp [go_sem,z2],by simp [go_sem,z3],by simp [go_sem,z4],by simp [go_sem,z5],by simp [go_sem,z6],by simp [go_sem,z7],by simp [go_sem,z8],by simp [go_sem,z9],by simp [go_sem,z10],by simp [go_sem,z11]⟩,by simp [go_sem,fe]⟩
theorem DB.set9 {b:Nat} {c:Cs} {a:Ac} {t:Int} {o e:Value} {u:World} (h:DB b c a t o e u) (x:Bool):DB b ⟨c.iss,c.acq,c.cur,c.am,c.st,c.rsn,c.cl,c.bk,c.fee,x,c.sta,c.due⟩ a t o e (u.setCell ⟨b,9,none⟩ (.bool x)):=by
 obtain ⟨⟨f0,f1,f2,f3,f4,f5,f6,f7,f8,f9,f10,f11⟩,a0,a1,a2,td,ho,he,⟨z0,z1,z2,z3,z4,z5,z6,z7,z8,z9,z10,z11⟩,fe⟩:=h
 simp only [Nat.zero_add] at f0 f1 f2 f3 f4 f5 f6 f7 f8 f9 f10 f11 z0 z1 z2 z3 z4 z5 z6 z7 z8 z9 z10 z11
 exact ⟨⟨by simp [go_sem,f0],by simp [go_sem,f1],by simp [go_sem,f2],by simp [go_sem,f3],by simp [go_sem,f4],by simp [go_sem,f5],by simp [go_sem,f6],by simp [go_sem,f7],by simp [go_sem,f8],by simp [go_sem,f9],by simp [go_sem,f10],by simp [go_sem,f11]⟩,by simp [go_sem,a0],by simp [go_sem,a1],by simp [go_sem,a2],by simp [go_sem,td],by simp [go_sem,ho],by simp [go_sem,he],⟨by simp [go_sem,z0],by simp [go_sem,z1],by simp [go_sem,z2],by simp [go_sem,z3],by simp [go_sem,z4],by simp [go_sem,z5],by simp [go_sem,z6],by simp [go_sem,z7],by simp [go_sem,z8],by simp [go_sem,z9],by simp [go_sem,z10],by simp [go_sem,z11]⟩,by simp [go_sem,fe]⟩
theorem DB.set17 {b:Nat} {c:Cs} {a:Ac} {t:Int} {o e:Value} {u:World} (h:DB b c a t o e u) (x:Value):DB b c a t o x (u.setCell ⟨b,17,none⟩ x):=by
 obtain ⟨⟨f0,f1,f2,f3,f4,f5,f6,f7,f8,f9,f10,f11⟩,a0,a1,a2,td,ho,he,⟨z0,z1,z2,z3,z4,z5,z6,z7,z8,z9,z10,z11⟩,fe⟩:=h
 simp only [Nat.zero_add] at f0 f1 f2 f3 f4 f5 f6 f7 f8 f9 f10 f11 z0 z1 z2 z3 z4 z5 z6 z7 z8 z9 z10 z11
 exact ⟨⟨by simp [go_sem,f0],by simp [go_sem,f1],by simp [go_sem,f2],by simp [go_sem,f3],by simp [go_sem,f4],by simp [go_sem,f5],by simp [go_sem,f6],by simp [go_sem,f7],by simp [go_sem,f8],by simp [go_sem,f9],by simp [go_sem,f10],by simp [go_sem,f11]⟩,by simp [go_sem,a0],by simp [go_sem,a1],by simp [go_sem,a2],by simp [go_sem,td],by simp [go_sem,ho],by simp [go_sem,he],⟨by simp [go_sem,z0],by simp [go_sem,z1],by simp [go_sem,z2],by simp [go_sem,z3],by simp [go_sem,z4],by simp [go_sem,z5],by simp [go_sem,z6],by simp [go_sem,z7],by simp [go_sem,z8],by simp [go_sem,z9],by simp [go_sem,z10],by simp [go_sem,z11]⟩,by simp [go_sem,fe]⟩
structure Env (b:Nat) (ao:Option Addr) (zs:List Int) (u:World):Prop where
 offs:IntsIn b u ao zs
 tab:StepTab u
 gb:16<b
theorem StepTab.under {b:Nat} {w w':World} (h:StepTab w) (hb:Below b w w') (hg:16<b):StepTab w':=by
 have e : Tryz.prog.globalNamed "loop.example/g00126/impl.stepDays" = some 16 := by kernel_rfl
 unfold StepTab Lib.TabIs World.var? at *
 rw [e] at h ⊢
 simp only [Option.bind_some] at h ⊢
 rw [hb.block _ hg]
 exact h
theorem Env.keep {b:Nat} {ao:Option Addr} {zs:List Int} {u u':World} (h:Env b ao zs u) (k:Below b u u'):Env b ao zs u':=⟨h.offs.keep k,h.tab.under k h.gb,h.gb⟩
structure DS (b:Nat) (ao:Option Addr) (cp:Nat) (zs:List Int) (a:Ac) (t:Int) (c:Cs) (es:List En) (v:Value) (u:World):Prop where
 db:DB b c a t (.slice ao zs.length cp) v u
 own:u.ownsRow (b+1) 269 4 v es.length (ecells es)
 env:Env b ao zs u
theorem DS.lt {b:Nat} {ao:Option Addr} {cp:Nat} {zs:List Int} {a:Ac} {t:Int} {c:Cs} {es:List En} {v:Value} {u:World} (h:DS b ao cp zs a t c es v u):b<u.heap.size:=h.db.cb.lt
theorem DS.below {b:Nat} {ao:Option Addr} {cp:Nat} {zs:List Int} {a:Ac} {t:Int} {c:Cs} {es:List En} {v:Value} {u u':World} (h:DS b ao cp zs a t c es v u) (k:Below u.heap.size u u'):DS b ao cp zs a t c es v u' :=
 ⟨h.db.below k,keepL h.own k,h.env.keep (k.mono (Nat.le_of_lt h.lt))⟩
theorem DS.offs {b:Nat} {ao:Option Addr} {cp:Nat} {zs:List Int} {a:Ac} {t:Int} {c:Cs} {es:List En} {v:Value} {u:World} (h:DS b ao cp zs a t c es v u):IntsAt u ao zs:=h.env.offs.at (Nat.le_of_lt h.lt)
theorem own_ne {b n:Nat} {t:TypeId} {v:Value} {xs:List Value} {u:World} (h:u.ownsRow (b+1) t 4 v n xs):∀ g,v.ownBlock=some g→g≠b:=fun g hg=>by have:=(h.lt g hg).1;omega
theorem DS.set4 {b:Nat} {ao:Option Addr} {cp:Nat} {zs:List Int} {a:Ac} {t:Int} {c:Cs} {es:List En} {v:Value} {u:World} (h:DS b ao cp zs a t c es v u) (x:Int):DS b ao cp zs a t ⟨c.iss,c.acq,c.cur,c.am,x,c.rsn,c.cl,c.bk,c.fee,c.cop,c.sta,c.due⟩ es v (u.setCell ⟨b,4,none⟩ (.int .i64 x)) :=
 ⟨h.db.set4 x,keepSetL h.own _ _ (own_ne h.own),h.env.keep (bel_at _ _ _ _)⟩
theorem DS.set5 {b:Nat} {ao:Option Addr} {cp:Nat} {zs:List Int} {a:Ac} {t:Int} {c:Cs} {es:List En} {v:Value} {u:World} (h:DS b ao cp zs a t c es v u) (x:Int):DS b ao cp zs a t ⟨c.iss,c.acq,c.cur,c.am,c.st,x,c.cl,c.bk,c.fee,c.cop,c.sta,c.due⟩ es v (u.setCell ⟨b,5,none⟩ (.int .i64 x)) :=
 ⟨h.db.set5 x,keepSetL h.own _ _ (own_ne h.own),h.env.keep (bel_at _ _ _ _)⟩
theorem DS.set6 {b:Nat} {ao:Option Addr} {cp:Nat} {zs:List Int} {a:Ac} {t:Int} {c:Cs} {es:List En} {v:Value} {u:World} (h:DS b ao cp zs a t c es v u) (x:Int):DS b ao cp zs a t ⟨c.iss,c.acq,c.cur,c.am,c.st,c.rsn,x,c.bk,c.fee,c.cop,c.sta,c.due⟩ es v (u.setCell ⟨b,6,none⟩ (.int .i64 x)) :=
 ⟨h.db.set6 x,keepSetL h.own _ _ (own_ne h.own),h.env.keep (bel_at _ _ _ _)⟩
theorem DS.set7 {b:Nat} {ao:Option Addr} {cp:Nat} {zs:List Int} {a:Ac} {t:Int} {c:Cs} {es:List En} {v:Value} {u:World} (h:DS b ao cp zs a t c es v u) (x:Int):DS b ao cp zs a t ⟨c.iss,c.acq,c.cur,c.am,c.st,c.rsn,c.cl,x,c.fee,c.cop,c.sta,c.due⟩ es v (u.setCell ⟨b,7,none⟩ (.int .i64 x)) :=
 ⟨h.db.set7 x,keepSetL h.own _ _ (own_ne h.own),h.env.keep (bel_at _ _ _ _)⟩
theorem DS.set8 {b:Nat} {ao:Option Addr} {cp:Nat} {zs:List Int} {a:Ac} {t:Int} {c:Cs} {es:List En} {v:Value} {u:World} (h:DS b ao cp zs a t c es v u) (x:Int):DS b ao cp zs a t ⟨c.iss,c.acq,c.cur,c.am,c.st,c.rsn,c.cl,c.bk,x,c.cop,c.sta,c.due⟩ es v (u.setCell ⟨b,8,none⟩ (.int .i64 x)) :=
 ⟨h.db.set8 x,keepSetL h.own _ _ (own_ne h.own),h.env.keep (bel_at _ _ _ _)⟩
theorem DS.set11 {b:Nat} {ao:Option Addr} {cp:Nat} {zs:List Int} {a:Ac} {t:Int} {c:Cs} {es:List En} {v:Value} {u:World} (h:DS b ao cp zs a t c es v u) (x:Int):DS b ao cp zs a t ⟨c.iss,c.acq,c.cur,c.am,c.st,c.rsn,c.cl,c.bk,c.fee,c.cop,c.sta,x⟩ es v (u.setCell ⟨b,11,none⟩ (.int .i64 x)) :=
 ⟨h.db.set11 x,keepSetL h.own _ _ (own_ne h.own),h.env.keep (bel_at _ _ _ _)⟩
theorem DS.set9 {b:Nat} {ao:Option Addr} {cp:Nat} {zs:List Int} {a:Ac} {t:Int} {c:Cs} {es:List En} {v:Value} {u:World} (h:DS b ao cp zs a t c es v u) (x:Bool):DS b ao cp zs a t ⟨c.iss,c.acq,c.cur,c.am,c.st,c.rsn,c.cl,c.bk,c.fee,x,c.sta,c.due⟩ es v (u.setCell ⟨b,9,none⟩ (.bool x)) :=
 ⟨h.db.set9 x,keepSetL h.own _ _ (own_ne h.own),h.env.keep (bel_at _ _ _ _)⟩
def DR (b:Nat) (ao:Option Addr) (cp:Nat) (zs:List Int) (a:Ac) (t:Int) (w:World) (r:Value) (c:Cs) (es:List En) (e:Ending) (w':World):Prop :=
 e=.returned r∧(∃ v,DS b ao cp zs a t c es v w')∧Below b w w'
theorem joinL_any (g:Nat) (ao:Option Addr) (cap:Nat) (ls:List Ln) (w:World) (hc:w.cell? ⟨g,0,none⟩=some (.slice ao ls.length cap)) (hz:LinesAt w ao ls) (hn:ls.length≤1048577) :
  Calls Tryz.prog 155 #[.slice (some ⟨g,0,none⟩) 1 1] w fun e w'=>∃ a2 k2,e=.returned (.slice a2 ls.length k2) ∧
   w'.ownsRow w.heap.size 113 3 (.slice a2 ls.length k2) ls.length (lcells ls)∧Below w.heap.size w w':=by
 have HZ:Hid (LinesAt w ao ls):=hz
 clear hz
 go_enter Tryz.func155,Tryz.ntmps155
 go_wp2
 refine wp_loop_rounds 2 ?_
 rw [rounds_succ]
 go_wp2_with (at_builtin;refine wpList_append_lines _ rfl (.tmp 12) (.tmp 13) rfl w.heap.size _ 0 [] rfl (World.ownsRow_nil _ _ _ _) ao cap ls rfl HZ.out (by omega) (Nat.le_refl _) ?_;intro v2 w2 o2 g2)
 have q2:Below w.heap.size w w2:=(Below.refl _ _).grown g2 (Nat.le_refl _) (fun k hk=>by cases hk)
 rw [Nat.zero_add,List.nil_append] at o2
 obtain ⟨a2,k2,hv2,-,-⟩:=lines_of_own o2
 subst hv2
 have HO2:Hid (w2.ownsRow w.heap.size 113 3 (.slice a2 ls.length k2) ls.length (lcells ls)):=o2
 clear o2 g2 HZ hc
 go_wp2
 rw [rounds_succ]
 go_wp2
 go_ret
 exact ⟨a2,k2,rfl,HO2.out,q2⟩
theorem iCopy_any (ao:Option Addr) (cap:Nat) (ls:List Ln) (w:World) (hz:LinesAt w ao ls) (hn:ls.length≤1048577) :
  Calls Tryz.prog 109 #[.agg #[.slice ao ls.length cap]] w (LedR w ls):=by
 obtain ⟨W,hW⟩:∃ W,W=((w.alloc (.cells #[.slice ao ls.length cap] 29)).alloc (.cells #[.slice none 0 0] 29)).alloc (.cells #[.slice ao ls.length cap] 27):=⟨_,rfl⟩
 have hWs:W.heap.size=w.heap.size+3:=by rw [hW];simp
 have bW:Below w.heap.size w W:=by rw [hW];go_grown
 have HZ:Hid (LinesAt W ao ls):=hz.below bW
 have c1:W.cell? ⟨w.heap.size+1,0,none⟩=some (.slice none 0 0):=by rw [hW];simp [go_sem]
 have c2:W.cell? ⟨w.heap.size+1+1,0,none⟩=some (.slice ao ls.length cap):=by rw [hW];simp [go_sem]
 have z1:W.frozen? ⟨w.heap.size+1,0,none⟩=false:=by rw [hW];simp [go_sem]
 have HC1:Hid _:=c1
 have HZ1:Hid _:=z1
 have HBW:Hid _:=bW
 have HWS:Hid _:=hWs
 have HW:Hid _:=hW
 clear hz c1 z1 bW hWs hW
 go_enter Tryz.func109,Tryz.ntmps109
 go_wp2_with fail
 rw [← HW.out]
 refine (joinL_any (w.heap.size+1+1) ao cap ls W c2 HZ.out hn).mono ?_
 rintro e w2 ⟨a2,k2,rfl,o2,b2⟩
 have d1:=(b2.cell (p:=⟨w.heap.size+1,0,none⟩) (by have:=HWS.out;show w.heap.size+1<W.heap.size;omega)).trans HC1.out
 have e1:=(b2.frozen (p:=⟨w.heap.size+1,0,none⟩) (by have:=HWS.out;show w.heap.size+1<W.heap.size;omega)).trans HZ1.out
 have HO2:Hid (w2.ownsRow W.heap.size 113 3 (.slice a2 ls.length k2) ls.length (lcells ls)):=o2
 have HB2:Hid (Below w.heap.size w w2):=next HBW.out b2
 clear o2 b2 c2
 go_wp2
 refine bodyPost_ret (by simp [results,Tryz.results109,go_sem,d1];try rfl) rfl ?_
 refine ⟨a2,k2,rfl,?_,HB2.out.setCell (by show w.heap.size≤w.heap.size+1;omega) _⟩
 have hs:=HWS.out
 exact lowerL (keepSetL HO2.out _ _ (fun g hg=>by have:=(HO2.out.lt g hg).1;simp only;omega)) (by omega)
end Go.Proofs.YtomiclakhjncbaaGreatDoor
namespace Go.Proofs.YtomiclakhjncbaaGreatDoor
open Go.RowKit Go.Maps
set_option maxRecDepth 100000
set_option maxHeartbeats 12800000
theorem wpList_next_kF {ops:Array Oper} {rest:List Oper} {o:Oper} {a:Act} {Q:Exit→Act→World→Prop} (w:World) (hg:o.guard=none) (it:Operand) (hop:o.op=Op.next it false)
  (b r n:Nat) (D:DataW Unit) (left:Lit→Bool) (cnt:Nat) (hit:a.eval it=.pointer (some ⟨r,0,none⟩)) (h:w.ranges Tryz.prog 128 (plainElem (H:=Unit) Tryz.prog 3) b r n D left cnt)
  (hDone:cnt=0→(∀ kl,left kl=false)→wpList Tryz.prog ops Q rest (a.put o.dst (.tuple #[.bool false])) w)
  (hMore:∀ (x c v:Int) (w':World) (cnt':Nat),wf64 x→wf64 c→left (keyL x c)=true→(∀ zd,D.atKey (keyL x c) zd=.lit (.int .i64 v))→w'.ranges Tryz.prog 128 (plainElem (H:=Unit) Tryz.prog 3) b r n D (fun z=>left z && !z.sameKey (keyL x c)) cnt'→cnt' < cnt →
   w.grownBy w' (some r)→w'.heap.size=w.heap.size→(Instr.entry (.pointer (some ⟨r,0,none⟩))).run Tryz.prog w'=.ok (.tuple #[.agg #[.int .i64 x,.int .i64 c],.int .i64 v]) w'→wpList Tryz.prog ops Q rest (a.put o.dst (.tuple #[.bool true,.agg #[.int .i64 x,.int .i64 c],.int .i64 v])) w') :
  wpList Tryz.prog ops Q (o::rest) a w :=
 wpList_next_ranges (α:=Int×Int) (β:=Int) w hg it hop 128 lawK (plainElem (H:=Unit) Tryz.prog 3) (fun p=>.agg #[.int .i64 p.1,.int .i64 p.2]) (Value.int .i64)
  (fun key kl hkey=>by obtain ⟨x,c,rfl,_⟩:=keyOf_inv hkey;exact ⟨(x,c),rfl⟩) (fun v y hv=>by obtain ⟨c,rfl,_⟩:=plainElem_int_inv Tryz.underlying3 hv;exact ⟨c,rfl⟩)
  b r n D left cnt hit h hDone (fun ⟨x,c⟩ v kl y w' cnt' hkey hlk hv hat hrg hlt hgr hsz hen=>by
   obtain ⟨x',c',ex,rfl,hx,hc⟩:=keyOf_inv hkey
   obtain ⟨rfl,rfl⟩:x=x'∧c=c':=by simpa using ex
   obtain ⟨v',ev,rfl,hwv⟩:=plainElem_int_inv Tryz.underlying3 hv
   cases ev
   exact hMore x c v w' cnt' hx hc hlk hat hrg hlt hgr hsz hen)
structure Met (f:Int→Int→Option Int) (left:Lit→Bool) (acc:List Ln):Prop where
 apart:Apart acc
 from_:∀ x ∈ acc,f x.1 x.2.1=some x.2.2∧left (keyL x.1 x.2.1)=false∧wf64 x.1∧wf64 x.2.1
 into:∀ a c v,f a c=some v→left (keyL a c)=false→(a,c,v) ∈ acc
theorem Met.step {f:Int→Int→Option Int} {left:Lit→Bool} {acc:List Ln} (h:Met f left acc) (hwf:∀ a c,f a c≠none→wf64 a∧wf64 c) {x c v:Int} (hx:wf64 x) (hc:wf64 c) (hl:left (keyL x c)=true) (hf:f x c=some v) :
  Met f (fun z=>left z && !z.sameKey (keyL x c)) (acc++[(x,c,v)]):=by
 have hsame:(keyL x c).sameKey (keyL x c)=true:=WideAt.sameKey_self (keyL_is _ _)
 refine ⟨?_,?_,?_⟩
 ·refine List.pairwise_append.2 ⟨h.apart,List.pairwise_singleton _ _,fun y hy z hz he=>?_⟩
  simp only [List.mem_singleton] at hz
  subst hz
  have:=(h.from_ y hy).2.1
  simp only at he
  rw [he.1,he.2,hl] at this
  cases this
 ·intro y hy
  rcases List.mem_append.1 hy with hy | hy
  ·obtain ⟨a1,a2,a3,a4⟩:=h.from_ y hy
   exact ⟨a1,by rw [a2];rfl,a3,a4⟩
  ·simp only [List.mem_singleton] at hy
   subst hy
   exact ⟨hf,by simp only [hsame];simp,hx,hc⟩
 ·intro a' c' v' hf' hl'
  by_cases he:a'=x∧c'=c
  ·obtain ⟨rfl,rfl⟩:=he
   rw [hf] at hf'
   injection hf' with hf'
   subst hf'
   exact List.mem_append.2 (.inr (List.mem_singleton.2 rfl))
  ·obtain ⟨w1,w2⟩:=hwf a' c' (by rw [hf'];simp)
   have hne:(keyL a' c').sameKey (keyL x c)=false:=Maps.sameKey_ne fun e=>he (keyL_inj w1 w2 hx hc e)
   rw [hne] at hl'
   exact List.mem_append.2 (.inl (h.into a' c' v' hf' (by simpa using hl')))
theorem Met.all {f:Int→Int→Option Int} {left:Lit→Bool} {acc ds:List Ln} (h:Met f left acc) (hl:∀ k,left k=false) (hp:ds.Perm acc) (hs:ds.Pairwise (fun x y=>lnLt y x=false)):Srt ds∧look ds=f:=by
 have hap:Apart ds:=(hp.symm.pairwise_iff (R:=fun x y:Ln=>¬ (x.1=y.1∧x.2.1=y.2.1)) (fun hxy he=>hxy ⟨he.1.symm,he.2.symm⟩)).1 h.apart
 have hmem:∀ a c v,(a,c,v) ∈ ds ↔ f a c=some v:=fun a c v=>by
  rw [hp.mem_iff]
  exact ⟨fun hm=>(h.from_ _ hm).1,fun hf=>h.into a c v hf (hl _)⟩
 constructor
 ·refine (hs.and hap).imp fun {x y} ⟨h1,h2⟩=>?_
  rw [lnLt_iff]
  simp [lnLt] at h1
  omega
 ·funext a c
  cases hf:f a c with
  | some v=>exact (mem_look hap).1 ((hmem a c v).2 hf)
  | none =>
   cases hk:look ds a c with
   | none=>rfl
   | some v =>
    have:=(hmem a c v).1 (look_mem hk)
    rw [hf] at this;cases this
theorem ledger_any (b n:Nat) (f:Int→Int→Option Int) (w:World) (hM:MapF w b n f) (hn:n≤1000) :
  Calls Tryz.prog 316 #[.map (some b)] w fun e w'=>∃ ao cap L,e=.returned (.agg #[.slice ao (List.length L) cap])∧Srt L∧look L=f∧L.length≤n∧w'.ownsRow w.heap.size 113 3 (.slice ao L.length cap) L.length (lcells L)∧Below w.heap.size w w':=by
 obtain ⟨i0,hi,hz0,hz1,hz2⟩:=info_parts infoL
 have hbl:=hM.lt
 obtain ⟨W,hW⟩:∃ W,W=w.alloc (.cells #[.slice none 0 0] 29):=⟨_,rfl⟩
 have bW:Below w.heap.size w W:=by rw [hW];go_grown
 have hWs:W.heap.size=w.heap.size+1:=by rw [hW];simp
 have r0:W.cell? ⟨w.heap.size,0,none⟩=some (.slice none 0 0):=by rw [hW];simp
 have rf:W.frozen? ⟨w.heap.size,0,none⟩=false:=by rw [hW];simp [go_sem]
 obtain ⟨D,hown,hview,hwf⟩:=hM.below bW
 have HO:Hid (W.ownsMap Tryz.prog 128 (plainElem (H:=Unit) Tryz.prog 3) b n D):=hown
 have HVW:Hid _:=hview
 have HWF:Hid (∀ a c,f a c≠none→wf64 a∧wf64 c):=hwf
 have HBW:Hid (Below w.heap.size w W):=bW
 have HR0:Hid _:=r0
 have HRF:Hid _:=rf
 have HWS:Hid (W.heap.size=w.heap.size+1):=hWs
 clear hM hown hview hwf bW r0 rf hWs
 go_enter Tryz.func316,Tryz.ntmps316
 go_wp2_with (first
  | (at_range;rw [← hW];clear hW;refine wpList_range_own _ rfl _ 338 rfl 128 3 lawK Tryz.underlying338 _ b n D rfl HO.out ?_;intro w0 hrg0 hg0 hs0)
  | go_in)
 try go_frame
 have HRG0:Hid (w0.ranges Tryz.prog 128 (plainElem (H:=Unit) Tryz.prog 3) b W.heap.size n D (Maps.has D) (Maps.size D)):=hrg0
 have q0:Below w.heap.size w w0:=HBW.out.grown hg0 HBW.out.size (fun j hj=>by cases hj)
 have HC0:Hid (w0.cell? ⟨w.heap.size,0,none⟩=some (.slice none 0 0)∧w0.frozen? ⟨w.heap.size,0,none⟩=false):=⟨(hg0.cell_far ⟨w.heap.size,0,none⟩ (by have:=HWS.out;show w.heap.size<W.heap.size;omega) (by simp)).trans HR0.out,(hg0.frozen_far ⟨w.heap.size,0,none⟩ (by have:=HWS.out;show w.heap.size<W.heap.size;omega) (by simp)).trans HRF.out⟩
 have hszD:=HO.out.size_le
 clear hrg0 hg0
 go_loopw [3] (fun v3 wr=>∃ (left:Lit→Bool) (cnt:Nat) (acc:List Ln),wr.ranges Tryz.prog 128 (plainElem (H:=Unit) Tryz.prog 3) b W.heap.size n D left cnt∧acc.length+cnt≤n∧Met f left acc ∧
   wr.ownsRow (w.heap.size+2) 113 3 v3 acc.length (lcells acc)∧(wr.cell? ⟨w.heap.size,0,none⟩=some (.slice none 0 0)∧wr.frozen? ⟨w.heap.size,0,none⟩=false)∧Below w.heap.size w wr∧w.heap.size+2≤wr.heap.size) (fun _ wr=>wr.rangeLeft b W.heap.size)
 case atStart =>
  refine ⟨_,_,[],HRG0.out,by simpa using hszD,⟨List.Pairwise.nil,(fun x hx=>by cases hx),fun a c v hf hl=>?_⟩,World.ownsRow_nil _ _ _ _,HC0.out,q0,by have:=HWS.out;omega⟩
  have hwx:=HWF.out a c (by rw [hf];simp)
  rw [(HVW.out a c hwx.1 hwx.2).1,hf] at hl
  cases hl
 case round =>
  obtain ⟨left,cnt,acc,hrg,hcnt,hmet,hacc,hcell,hbr,hs2⟩:=hrel
  have HRG:Hid (wr.ranges Tryz.prog 128 (plainElem (H:=Unit) Tryz.prog 3) b W.heap.size n D left cnt):=hrg
  have HMET:Hid (Met f left acc):=hmet
  have HACC:Hid (wr.ownsRow (w.heap.size+2) 113 3 u3 acc.length (lcells acc)):=hacc
  have HCELL:Hid _:=hcell
  clear hrg hmet hacc hcell HRG0 q0 HC0 hszD hs0
  go_wp2_with (first
   | (at_next;refine wpList_next_kF _ rfl _ rfl b W.heap.size n D left cnt rfl HRG.out ?_ ?_)
   | go_in)
  ·intro _ hl0
   obtain ⟨ao,cap,hv3,-,-⟩:=lines_of_own HACC.out
   subst hv3
   have HL0:Hid (∀ kl,left kl=false):=hl0
   clear hl0
   go_wp2_with fail
   refine (sort_any ao acc.length cap (w.heap.size+2) acc wr HACC.out (by omega) hs2).mono ?_
   rintro e w2 ⟨rfl,ds,hp,hs,o2,b2⟩
   have d0:=(b2.cell (p:=⟨w.heap.size,0,none⟩) (by show w.heap.size<w.heap.size+2;omega)).trans HCELL.out.1
   have d1:=(b2.frozen (p:=⟨w.heap.size,0,none⟩) (by show w.heap.size<w.heap.size+2;omega)).trans HCELL.out.2
   have hlen:ds.length=acc.length:=hp.length_eq
   have HALL:Hid (Srt ds∧look ds=f):=HMET.out.all HL0.out hp hs
   have HO2:Hid (w2.ownsRow (w.heap.size+2) 113 3 (.slice ao acc.length cap) acc.length (lcells ds)):=o2
   have HQ2:Hid (Below w.heap.size w w2):=hbr.trans (b2.mono (by omega))
   have HLEN:Hid _:=hlen
   clear hp hs o2 b2 hlen HCELL
   go_wp2
   refine bodyPost_ret (by simp [results,Tryz.results316,go_sem,d0];try rfl) rfl ?_
   have hlen:=HLEN.out
   refine ⟨ao,cap,ds,by rw [hlen],HALL.out.1,HALL.out.2,by omega,?_,HQ2.out.setCell (Nat.le_refl _) _⟩
   have h:=lowerL (keepSetL HO2.out ⟨w.heap.size,0,none⟩ (.slice ao acc.length cap) (fun g hg=>by have:=(HO2.out.lt g hg).1;simp only;omega)) (base':=w.heap.size) (by omega)
   rw [hlen];exact h
  ·intro x c v w1 cnt1 hwx hwc hlx hat hrg1 hlt hg1 hs1 hen
   have hfx:f x c=some v:=by
    have h1:=HVW.out x c hwx hwc
    have h2:=Maps.has_true_of_atKey hat
    rw [h1.1] at h2
    have h3:=(hat (.lit (.int .i64 0))).symm.trans h1.2
    cases hf:f x c with
    | none=>rw [hf] at h2;cases h2
    | some v' =>
     rw [hf] at h3
     injection h3 with e1;injection e1 with _ e2
     simp at e2
     rw [e2]
   have HMET2:Hid (Met f (fun z=>left z && !z.sameKey (keyL x c)) (acc++[(x,c,v)])):=HMET.out.step HWF.out hwx hwc hlx hfx
   have hown3:∀ g,u3.ownBlock=some g→w.heap.size+2≤g:=fun g hg=>(HACC.out.lt g hg).1
   have HACC1:Hid (w1.ownsRow (w.heap.size+2) 113 3 u3 acc.length (lcells acc)):=keepG HACC.out hg1 (fun g hg e=>by have:=hown3 g hg;have:=HWS.out;cases e;omega)
   have q1:Below w.heap.size w w1:=hbr.grown hg1 hbr.size (fun j hj=>by have:=HWS.out;cases hj;omega)
   have HRG1:Hid (w1.ranges Tryz.prog 128 (plainElem (H:=Unit) Tryz.prog 3) b W.heap.size n D (fun z=>left z && !z.sameKey (keyL x c)) cnt1):=hrg1
   have HC1:Hid (w1.cell? ⟨w.heap.size,0,none⟩=some (.slice none 0 0)∧w1.frozen? ⟨w.heap.size,0,none⟩=false):=⟨(hg1.cell_far ⟨w.heap.size,0,none⟩ (by show w.heap.size<wr.heap.size;omega) (by have:=HWS.out;simp;omega)).trans HCELL.out.1,(hg1.frozen_far ⟨w.heap.size,0,none⟩ (by show w.heap.size<wr.heap.size;omega) (by have:=HWS.out;simp;omega)).trans HCELL.out.2⟩
   obtain ⟨V,hV⟩:∃ V,V=w1.alloc (.cells #[.int .i64 x,.int .i64 c] 128):=⟨_,rfl⟩
   have hVs:V.heap.size=w1.heap.size+1:=by rw [hV];simp
   have v0:V.cell? ⟨w1.heap.size,0,none⟩=some (.int .i64 x):=by rw [hV];simp
   have v1:V.cell? ⟨w1.heap.size,1,none⟩=some (.int .i64 c):=by rw [hV];simp
   have HAV:Hid (V.ownsRow (w.heap.size+2) 113 3 u3 acc.length (lcells acc)):=by rw [Hid,hV];exact HACC1.out.alloc _
   have HRV:Hid (V.ranges Tryz.prog 128 (plainElem (H:=Unit) Tryz.prog 3) b W.heap.size n D (fun z=>left z && !z.sameKey (keyL x c)) cnt1):=by rw [Hid,hV];exact HRG1.out.alloc _
   have HCV:Hid (V.cell? ⟨w.heap.size,0,none⟩=some (.slice none 0 0)∧V.frozen? ⟨w.heap.size,0,none⟩=false):=by
    have g:=World.grownBy_alloc w1 (.cells #[.int .i64 x,.int .i64 c] 128) none
    rw [Hid,hV]
    exact ⟨(g.cell_far ⟨w.heap.size,0,none⟩ (by show w.heap.size<w1.heap.size;omega) (by simp)).trans HC1.out.1,(g.frozen_far ⟨w.heap.size,0,none⟩ (by show w.heap.size<w1.heap.size;omega) (by simp)).trans HC1.out.2⟩
   have qV:Below w.heap.size w V:=by rw [hV];exact q1.alloc q1.size _
   have HOWN3:Hid _:=hown3
   have HLT:Hid _:=hlt
   have HVS:Hid (V.heap.size=wr.heap.size+1):=by rw [Hid,hVs,hs1]
   clear hVs hs1 hat hrg1 hlt hg1 hfx hwx hwc hlx HMET HACC HACC1 HRG1 HC1 HCELL q1 hown3 hbr
   go_upto_region 5 with fail
   rw [← hV]
   clear hV hen
   go_wp2_with (at_builtin;refine wpList_append_own _ rfl (.tmp 13) (.tmp 20) 27 rfl (w.heap.size+2) 113 i0 _ 3 24 Tryz.underlying27 hi hz0 hz1 hz2 rfl (by decide) _ _ _ rfl (HAV.out.alloc _) ⟨V.heap.size,0,none⟩ 1 1 [.int .i64 x,.int .i64 c,.int .i64 v] rfl rfl (World.news_of_block (heap_alloc_new V _)) (one3 x c v) (by unfold maxLen;omega) (by omega) (by have:=HVS.out;simp;omega) ?_;intro v5 w5 o5 g5 _)
   have gA:=World.grownBy_alloc V (.cells #[.int .i64 x,.int .i64 c,.int .i64 v] 113) none
   have HR5:Hid (w5.ownsRow (w.heap.size+2) 113 3 v5 (acc++[(x,c,v)]).length (lcells (acc++[(x,c,v)]))):=by rw [Hid,List.length_append];exact own3 o5
   have hb5:some b≠u3.ownBlock:=fun e=>by have:=HOWN3.out b e.symm;omega
   have hr5:some W.heap.size≠u3.ownBlock:=fun e=>by have:=HOWN3.out _ e.symm;have:=HWS.out;omega
   have hx5:some w.heap.size≠u3.ownBlock:=fun e=>by have:=HOWN3.out _ e.symm;omega
   have HRG5:Hid (w5.ranges Tryz.prog 128 (plainElem (H:=Unit) Tryz.prog 3) b W.heap.size n D (fun z=>left z && !z.sameKey (keyL x c)) cnt1):=(HRV.out.alloc _).kept g5 hb5 hr5
   have HC5:Hid (w5.cell? ⟨w.heap.size,0,none⟩=some (.slice none 0 0)∧w5.frozen? ⟨w.heap.size,0,none⟩=false):=⟨(g5.cell_far ⟨w.heap.size,0,none⟩ (by have:=HVS.out;simp;omega) hx5).trans ((gA.cell_far ⟨w.heap.size,0,none⟩ (by have:=HVS.out;show w.heap.size<V.heap.size;omega) (by simp)).trans HCV.out.1),(g5.frozen_far ⟨w.heap.size,0,none⟩ (by have:=HVS.out;simp;omega) hx5).trans ((gA.frozen_far ⟨w.heap.size,0,none⟩ (by have:=HVS.out;show w.heap.size<V.heap.size;omega) (by simp)).trans HCV.out.2)⟩
   have q5:Below w.heap.size w w5:=(qV.alloc qV.size _).grown g5 (by have:=HVS.out;simp;omega) (fun j hj=>by have:=HOWN3.out j hj;omega)
   have hs5:w.heap.size+2≤w5.heap.size:=by have:=g5.size;have:=HVS.out;simp at *;omega
   clear o5 g5 gA HAV HRV HCV qV
   go_wp2
   go_roundw
   case rel=>exact ⟨_,cnt1,_,HRG5.out,by have:=HLT.out;simp;omega,HMET2.out,HR5.out,HC5.out,q5,hs5⟩
   case measure=>rw [HRG5.out.left_eq,HRG.out.left_eq];exact HLT.out
end Go.Proofs.YtomiclakhjncbaaGreatDoor
namespace Go.Proofs.YtomiclakhjncbaaGreatDoor
open Go.RowKit
set_option maxRecDepth 100000
set_option maxHeartbeats 12800000
theorem PB.grown {s:Nat} {ao:Option Addr} {cap n:Nat} {a b c m:Int} {u u':World} {g:Nat} (h:PB s ao cap n a b c m u) (hg:u.grownBy u' (some g)) (hne:s+1+1<g):PB s ao cap n a b c m u':=by
 have h1:=h.sz
 exact ⟨(hg.cell_far ⟨s,0,none⟩ (by show s<u.heap.size;omega) (by simp;omega)).trans h.l0,(hg.cell_far ⟨s+1,0,none⟩ (by show s+1<u.heap.size;omega) (by simp;omega)).trans h.e0,(hg.cell_far ⟨s+1,1,none⟩ (by show s+1<u.heap.size;omega) (by simp;omega)).trans h.e1,
  (hg.cell_far ⟨s+1,2,none⟩ (by show s+1<u.heap.size;omega) (by simp;omega)).trans h.e2,(hg.cell_far ⟨s+1,3,none⟩ (by show s+1<u.heap.size;omega) (by simp;omega)).trans h.e3,(hg.cell_far ⟨s+1+1,0,none⟩ h1 (by simp;omega)).trans h.r0,(hg.frozen_far ⟨s+1+1,0,none⟩ h1 (by simp;omega)).trans h.rf,Nat.lt_of_lt_of_le h1 hg.size⟩
theorem look_bd4 {ls:List Ln} (h:∀ x ∈ ls,-4000000000000≤x.2.2∧x.2.2≤4000000000000) (a c:Int):-4000000000000≤(look ls a c).getD 0∧(look ls a c).getD 0≤4000000000000:=by
 cases hl:look ls a c with
 | none=>simp
 | some v=>have:=h _ (look_mem hl);simpa using this
theorem bd_addL {ls:List Ln} {a c m:Int} (h:∀ x ∈ ls,lnBd x) (hb:∀ x ∈ ls,-4000000000000≤x.2.2∧x.2.2≤4000000000000) (ha:wf64 a) (hc:wf64 c) (hm:-1000000000000≤m∧m≤1000000000000):∀ x ∈ addL ls a c m,lnBd x:=by
 intro x hx
 have hk:wf64 x.1∧wf64 x.2.1:=by
  rcases mem_addL hx with h1 | ⟨h1,h2⟩
  ·exact ⟨(h x h1).1,(h x h1).2.1⟩
  ·rw [h1,h2];exact ⟨ha,hc⟩
 refine ⟨hk.1,hk.2,WalkArith.wf_i64 ?_⟩
 rcases addL_mem x hx with h1 | h1 | ⟨y,hy,h1⟩
 ·have:=hb x h1;omega
 ·omega
 ·have:=hb y hy;omega
theorem iPost_any (ao:Option Addr) (cap:Nat) (ls:List Ln) (a b c m:Int) (w:World) (hz:LinesAt w ao ls) (hn:ls.length≤1048576) (hlb:∀ x ∈ ls,lnBd x) (heb:enBd (a,b,c,m)) :
  Calls Tryz.prog 287 #[.agg #[.slice ao ls.length cap],.agg #[.int .i64 a,.int .i64 b,.int .i64 c,.int .i64 m]] w (PostR w (postL ls (a,b,c,m)) (postOk ls (a,b,c,m))):=by
 obtain ⟨W,hW⟩:∃ W,W=((w.alloc (.cells #[.slice ao ls.length cap] 29)).alloc (.cells #[.int .i64 a,.int .i64 b,.int .i64 c,.int .i64 m] 269)).alloc (.cells #[.slice none 0 0] 29):=⟨_,rfl⟩
 have bW:Below w.heap.size w W:=by rw [hW];go_grown
 have PW:PB w.heap.size ao cap ls.length a b c m W:=by
  rw [hW];exact ⟨by simp [go_sem],by simp [go_sem],by simp [go_sem],by simp [go_sem],by simp [go_sem],by simp [go_sem],by simp [go_sem],by simp⟩
 have HZ0:Hid (LinesAt w ao ls):=hz
 have HZ:Hid (LinesAt W ao ls):=hz.below bW
 have HW:Hid _:=hW
 have l0:=PW.l0
 have HPW:Hid (PB w.heap.size ao cap ls.length a b c m W):=PW
 have HLB:Hid (∀ x ∈ ls,lnBd x):=hlb
 have HEB:Hid (enBd (a,b,c,m)):=heb
 clear hz hW PW hlb heb
 cases hL:ledgerOk ls
 ·have hno:postOk ls (a,b,c,m)=false:=by simp [postOk,hL]
  have HNL:Hid _:=postL_no hno
  rw [hno]
  have HC:Hid (Calls Tryz.prog 39 #[.agg #[.slice ao ls.length cap]] W fun e w'=>e=.returned (.bool false)∧Below W.heap.size W w'):=by
   have h:=iLedgerOk_any ao cap ls W HZ.out (by omega) HLB.out
   rw [hL] at h;exact h
  clear hno hL
  go_enter Tryz.func287,Tryz.ntmps287
  go_upto_region 1 with fail
  rw [← HW.out]
  go_wp2_with fail
  refine HC.out.mono ?_
  rintro e w1 ⟨rfl,b1⟩
  have P1:=HPW.out.below b1
  have q1:=next bW b1
  have HZ1:Hid (LinesAt w1 ao ls):=HZ.out.below b1
  have j0:=P1.l0
  have HP1:Hid (PB w.heap.size ao cap ls.length a b c m w1):=P1
  clear HC b1 P1 l0
  go_wp2_with fail
  refine (iCopy_any ao cap ls w1 HZ1.out (by omega)).mono ?_
  rintro e w2 ⟨g2,c2,rfl,o2,b2⟩
  have P2:=HP1.out.below b2
  have r0:=P2.r0
  have rf:=P2.rf
  have HE:Hid _:=post_end (w:=w) (ok:=false) HNL.out o2 HP1.out.sz (next q1 b2)
  clear o2 b2 P2 j0
  go_wp2
  refine bodyPost_ret (by simp [results,Tryz.results287,go_sem,r0];try rfl) rfl ?_
  exact HE.out
 have HCL:Hid (Calls Tryz.prog 39 #[.agg #[.slice ao ls.length cap]] W fun e w'=>e=.returned (.bool true)∧Below W.heap.size W w'):=by
  have h:=iLedgerOk_any ao cap ls W HZ.out (by omega) HLB.out
  rw [hL] at h;exact h
 cases hE:entryOk (a,b,c,m)
 ·have hno:postOk ls (a,b,c,m)=false:=by simp [postOk,hE]
  have HNL:Hid _:=postL_no hno
  rw [hno]
  have HEO:Hid _:=hE
  clear hno hL hE
  go_enter Tryz.func287,Tryz.ntmps287
  go_upto_region 1 with fail
  rw [← HW.out]
  go_wp2_with fail
  refine HCL.out.mono ?_
  rintro e w1 ⟨rfl,b1⟩
  have P1:=HPW.out.below b1
  have q1:=next bW b1
  have HZ1:Hid (LinesAt w1 ao ls):=HZ.out.below b1
  have k0:=P1.e0
  have k1:=P1.e1
  have k2:=P1.e2
  have k3:=P1.e3
  have HCE:Hid (Calls Tryz.prog 313 #[.agg #[.int .i64 a,.int .i64 b,.int .i64 c,.int .i64 m]] w1 fun e w'=>e=.returned (.bool false)∧Below w1.heap.size w1 w'):=by
   have h:=iEntryOk_any a b c m w1 HEB.out.2.2.1
   rw [HEO.out] at h;exact h
  have HP1:Hid (PB w.heap.size ao cap ls.length a b c m w1):=P1
  clear HCL b1 P1 l0
  go_wp2_with fail
  refine HCE.out.mono ?_
  rintro e w2 ⟨rfl,b2⟩
  have P2:=HP1.out.below b2
  have q2:=next q1 b2
  have HZ2:Hid (LinesAt w2 ao ls):=HZ1.out.below b2
  have j0:=P2.l0
  have HP2:Hid (PB w.heap.size ao cap ls.length a b c m w2):=P2
  clear HCE b2 P2 k0 k1 k2 k3
  go_wp2_with fail
  refine (iCopy_any ao cap ls w2 HZ2.out (by omega)).mono ?_
  rintro e w3 ⟨g3,c3,rfl,o3,b3⟩
  have P3:=HP2.out.below b3
  have r0:=P3.r0
  have rf:=P3.rf
  have HE:Hid _:=post_end (w:=w) (ok:=false) HNL.out o3 HP2.out.sz (next q2 b3)
  clear o3 b3 P3 j0
  go_wp2
  refine bodyPost_ret (by simp [results,Tryz.results287,go_sem,r0];try rfl) rfl ?_
  exact HE.out
 ·obtain ⟨hl1,hl2,_⟩:=ledgerOk_parts hL
  obtain ⟨_,_,_,_,hm1,hm2⟩:=entryOk_parts hE
  simp only at hm1 hm2
  have hsrt:=srt_of_linesOk hl1
  have hnz:=nz_of_linesOk hl1
  have hbd:∀ x ∈ ls,-1000000000000≤x.2.2∧x.2.2≤1000000000000:=fun x hx=>(lnOk_is (linesOk_mem hl1 x hx)).2.2.1
  have HB1:Hid (∀ x ∈ ls,-4000000000000≤x.2.2∧x.2.2≤4000000000000):=fun x hx=>by have:=hbd x hx;omega
  have HB2:Hid (∀ x ∈ addL ls a c (-m),-4000000000000≤x.2.2∧x.2.2≤4000000000000):=fun x hx=>by
   rcases addL_mem x hx with h | h | ⟨y,hy,h⟩
   ·have:=hbd x h;omega
   ·omega
   ·have:=hbd y hy;omega
  have hla:=addL_len ls a c (-m)
  have hlb:=addL_len (addL ls a c (-m)) b c m
  have HPT:Hid (postTry ls (a,b,c,m)=addL (addL ls a c (-m)) b c m):=rfl
  have HPO:Hid (postOk ls (a,b,c,m)=ledgerOk (addL (addL ls a c (-m)) b c m)):=by rw [Hid,postOk,hL,hE];rfl
  have HLA1:Hid _:=look_addL hsrt a c (show -m≠0 by omega)
  have HLA2:Hid _:=look_addL (srt_addL hsrt a c (-m)) b c (show m≠0 by omega)
  have HSA:Hid (Srt (addL (addL ls a c (-m)) b c m)):=srt_addL (srt_addL hsrt a c (-m)) b c m
  have HBA:Hid (∀ x ∈ addL (addL ls a c (-m)) b c m,lnBd x):=bd_addL (bd_addL HLB.out HB1.out HEB.out.1 HEB.out.2.2.1 ⟨by omega,by omega⟩) HB2.out HEB.out.2.1 HEB.out.2.2.1 ⟨by omega,by omega⟩
  obtain ⟨A1,hA1⟩:∃ A1,addL ls a c (-m)=A1:=⟨_,rfl⟩
  rw [hA1] at HB2 hla hlb HPT HPO HLA1 HLA2 HSA HBA
  obtain ⟨A,hA⟩:∃ A,addL A1 b c m=A:=⟨_,rfl⟩
  rw [hA] at hlb HPT HPO HLA2 HSA HBA
  have HEO:Hid _:=hE
  have HS:Hid (Srt ls):=hsrt
  have HNZ:Hid (NZ ls):=hnz
  have HBD:Hid (∀ x ∈ ls,-1000000000000≤x.2.2∧x.2.2≤1000000000000):=hbd
  have hAb:A.length≤402:=by omega
  clear hL hE hl1 hbd hla hlb hA1 hA hsrt hnz
  have hwn:IntKind.i64.wrap (-m) = -m:=by simp [IntKind.wrap,IntKind.bits,IntKind.signed];omega
  go_enter Tryz.func287,Tryz.ntmps287
  go_upto_region 1 with fail
  rw [← HW.out]
  go_wp2_with fail
  refine HCL.out.mono ?_
  rintro e w1 ⟨rfl,b1⟩
  have P1:=HPW.out.below b1
  have q1:=next bW b1
  have k0:=P1.e0
  have k1:=P1.e1
  have k2:=P1.e2
  have k3:=P1.e3
  have HCE:Hid (Calls Tryz.prog 313 #[.agg #[.int .i64 a,.int .i64 b,.int .i64 c,.int .i64 m]] w1 fun e w'=>e=.returned (.bool true)∧Below w1.heap.size w1 w'):=by
   have h:=iEntryOk_any a b c m w1 HEB.out.2.2.1
   rw [HEO.out] at h;exact h
  have HP1:Hid (PB w.heap.size ao cap ls.length a b c m w1):=P1
  clear HCL b1 P1 l0
  go_wp2_with fail
  refine HCE.out.mono ?_
  rintro e w2 ⟨rfl,b2⟩
  have P2:=HP1.out.below b2
  have q2:=next q1 b2
  have HZ2:Hid (LinesAt w2 ao ls):=HZ0.out.below q2
  have j0:=P2.l0
  have HP2:Hid (PB w.heap.size ao cap ls.length a b c m w2):=P2
  clear HCE b2 P2 k0 k1 k2 k3
  go_wp2_with fail
  refine (balances_any ao cap ls w2 HZ2.out hl2 HS.out HNZ.out HBD.out HLB.out).mono ?_
  rintro e w3 ⟨g,rfl,hg,m3,b3⟩
  have P3:=HP2.out.below b3
  have q3:=next q2 b3
  have hgs:w.heap.size+1+1<g:=Nat.lt_of_lt_of_le HP2.out.sz hg
  have HM3:Hid (MapF w3 g ls.length (look ls)):=m3
  have i0:=P3.e0
  have i2:=P3.e2
  have i3:=P3.e3
  have HP3:Hid (PB w.heap.size ao cap ls.length a b c m w3):=P3
  have HV1:Hid _:=look_bd HBD.out a c
  clear m3 b3 P3 j0 hg
  go_wp2_with fail
  refine (add_any g ls.length (look ls) a c (-m) _ w3 HM3.out HEB.out.1 HEB.out.2.2.1 rfl (by have:=HV1.out;omega) (by unfold maxLen;omega)).mono ?_
  rintro e w4 ⟨rfl,m4,g4⟩
  have P4:=HP3.out.grown g4 hgs
  have q4:Below w.heap.size w w4:=q3.grown g4 q3.size (fun j hj=>by cases hj;omega)
  have HM4:Hid (MapF w4 g (ls.length+1) (look A1)):=by rw [HLA1.out];exact m4
  have i1:=P4.e1
  have i2:=P4.e2
  have i3:=P4.e3
  have HP4:Hid (PB w.heap.size ao cap ls.length a b c m w4):=P4
  have HV2:Hid _:=look_bd4 HB2.out b c
  clear m4 g4 P4 i0 HM3 HP3
  go_wp2_with fail
  refine (add_any g (ls.length+1) (look A1) b c m _ w4 HM4.out HEB.out.2.1 HEB.out.2.2.1 rfl (by have:=HV2.out;omega) (by unfold maxLen;omega)).mono ?_
  rintro e w5 ⟨rfl,m5,g5⟩
  have P5:=HP4.out.grown g5 hgs
  have q5:Below w.heap.size w w5:=q4.grown g5 q4.size (fun j hj=>by cases hj;omega)
  have HM5:Hid (MapF w5 g (ls.length+1+1) (look A)):=by rw [HLA2.out];exact m5
  have HP5:Hid (PB w.heap.size ao cap ls.length a b c m w5):=P5
  clear m5 g5 P5 i1 i2 i3 HM4 HP4 q3 q4
  go_wp2_with fail
  refine (ledger_any g (ls.length+1+1) (look A) w5 HM5.out (by omega)).mono ?_
  rintro e w6 ⟨g6,k6,L,rfl,s6,lk6,_,o6,b6⟩
  have hLA:L=A:=eq_of_look s6 HSA.out (fun x y=>by rw [lk6])
  subst hLA
  have P6:=HP5.out.below b6
  have q6:=next q5 b6
  obtain ⟨V,hV⟩:∃ V,V=w6.alloc (.cells #[.slice g6 L.length k6] 29):=⟨_,rfl⟩
  have bV:Below w6.heap.size w6 V:=by rw [hV];go_grown
  have v0:V.cell? ⟨w6.heap.size,0,none⟩=some (.slice g6 L.length k6):=by rw [hV];simp
  have PV:=P6.below bV
  have qV:=next q6 bV
  have HOV:Hid (V.ownsRow w5.heap.size 113 3 (.slice g6 L.length k6) L.length (lcells L)):=keepL o6 bV
  have HZV:Hid (LinesAt V ao ls):=HZ0.out.below qV
  have HPV:Hid (PB w.heap.size ao cap ls.length a b c m V):=PV
  have HCL2:Hid (Calls Tryz.prog 39 #[.agg #[.slice g6 L.length k6]] V fun e w'=>e=.returned (.bool (ledgerOk L))∧Below V.heap.size V w'):=iLedgerOk_any g6 k6 L V (lines_any HOV.out) (by omega) HBA.out
  have hs5:w.heap.size+1+1<w5.heap.size:=HP5.out.sz
  clear s6 lk6 o6 b6 bV P6 PV q6 HM5 HLA1 HLA2
  go_upto_region 7 with fail
  rw [← hV]
  clear hV
  cases hLA:ledgerOk L
  ·have hno:postOk ls (a,b,c,m)=false:=HPO.out.trans hLA
   have HNL:Hid _:=postL_no hno
   have HNO:Hid _:=hno
   rw [hLA] at HCL2
   clear hno hLA
   go_wp2_with fail
   refine HCL2.out.mono ?_
   rintro e w7 ⟨rfl,b7⟩
   have P7:=HPV.out.below b7
   have q7:=next qV b7
   have HZ7:Hid (LinesAt w7 ao ls):=HZV.out.below b7
   have j0:=P7.l0
   have HP7:Hid (PB w.heap.size ao cap ls.length a b c m w7):=P7
   clear HCL2 b7 P7 v0
   go_wp2_with fail
   refine (iCopy_any ao cap ls w7 HZ7.out (by omega)).mono ?_
   rintro e w8 ⟨g8,c8,rfl,o8,b8⟩
   have P8:=HP7.out.below b8
   have r0:=P8.r0
   have rf:=P8.rf
   have HE:Hid _:=post_end (w:=w) (ok:=false) HNL.out o8 HP7.out.sz (next q7 b8)
   clear o8 b8 P8 j0
   go_wp2
   refine bodyPost_ret (by simp [results,Tryz.results287,go_sem,r0];try rfl) rfl ?_
   rw [HNO.out];exact HE.out
  ·have hyes:postOk ls (a,b,c,m)=true:=HPO.out.trans hLA
   have HNL:Hid (postL ls (a,b,c,m)=L):=(postL_yes hyes).trans HPT.out
   have HNO:Hid _:=hyes
   rw [hLA] at HCL2
   clear hyes hLA
   go_wp2_with fail
   refine HCL2.out.mono ?_
   rintro e w7 ⟨rfl,b7⟩
   have P7:=HPV.out.below b7
   have q7:=next qV b7
   have v7:=(b7.cell (p:=⟨w6.heap.size,0,none⟩) (World.block_lt_of_cell? V _ v0)).trans v0
   have r0:=P7.r0
   have rf:=P7.rf
   have HE:Hid _:=post_end (w:=w) (ok:=true) HNL.out (keepL HOV.out b7) hs5 q7
   clear HCL2 b7 P7 v0
   go_wp2
   refine bodyPost_ret (by simp [results,Tryz.results287,go_sem,r0];try rfl) rfl ?_
   rw [HNO.out];exact HE.out
theorem iPostAll_any (ao:Option Addr) (cap:Nat) (ls:List Ln) (eo:Option Addr) (ec:Nat) (es:List En) (w:World) (hz:LinesAt w ao ls) (hn:ls.length≤1048576) (hlb:∀ x ∈ ls,lnBd x) (hy:EntsAt w eo es) (hm:es.length≤1048576) (heb:∀ x ∈ es,enBd x) :
  Calls Tryz.prog 255 #[.agg #[.slice ao ls.length cap],.slice eo es.length ec] w (PostR w (allL ls es) (allOk ls es)):=by
 obtain ⟨W,hW⟩:∃ W,W=(w.alloc (.cells #[.slice ao ls.length cap] 29)).alloc (.cells #[.slice none 0 0] 29):=⟨_,rfl⟩
 have bW:Below w.heap.size w W:=by rw [hW];go_grown
 have hWs:W.heap.size=w.heap.size+2:=by rw [hW];simp
 have l0:W.cell? ⟨w.heap.size,0,none⟩=some (.slice ao ls.length cap):=by rw [hW];simp [go_sem]
 have r0:W.cell? ⟨w.heap.size+1,0,none⟩=some (.slice none 0 0):=by rw [hW];simp [go_sem]
 have rf:W.frozen? ⟨w.heap.size+1,0,none⟩=false:=by rw [hW];simp [go_sem]
 have HL0:Hid _:=l0
 have HR0:Hid _:=r0
 have HRF:Hid _:=rf
 have HZ:Hid (LinesAt w ao ls):=hz
 have HY:Hid (EntsAt w eo es):=hy
 have HLB:Hid (∀ x ∈ ls,lnBd x):=hlb
 have HEB:Hid (∀ x ∈ es,enBd x):=heb
 have HBW:Hid (Below w.heap.size w W):=bW
 have HWS:Hid _:=hWs
 clear hz hy hlb heb r0 rf bW hWs
 go_enter Tryz.func255,Tryz.ntmps255
 go_upto_region 1 with fail
 rw [← hW]
 clear hW
 go_wp2_with fail
 refine (iCopy_any ao cap ls W (HZ.out.below HBW.out) (by omega)).mono ?_
 rintro e w1 ⟨a1,k1,rfl,o1,b1⟩
 have hws:=HWS.out
 have P1:PA w.heap.size w1.heap.size ao cap ls.length ls a1 k1 (w1.alloc (.cells #[.slice a1 ls.length k1] 29)):=pa_start ((b1.cell (p:=⟨w.heap.size,0,none⟩) (by show w.heap.size<W.heap.size;omega)).trans HL0.out) ((b1.cell (p:=⟨w.heap.size+1,0,none⟩) (by show w.heap.size+1<W.heap.size;omega)).trans HR0.out) ((b1.frozen (p:=⟨w.heap.size+1,0,none⟩) (by show w.heap.size+1<W.heap.size;omega)).trans HRF.out) (lowerL o1 (by omega))
 have q1:=next HBW.out b1
 obtain ⟨V,hV⟩:∃ V,V=w1.alloc (.cells #[.slice a1 ls.length k1] 29):=⟨_,rfl⟩
 have qV:Below w.heap.size w V:=by rw [hV];exact q1.alloc q1.size _
 have HPV:Hid (PA w.heap.size w1.heap.size ao cap ls.length ls a1 k1 V):=by rw [Hid,hV];exact P1
 obtain ⟨B,hBe⟩:∃ B,B=w1.heap.size:=⟨_,rfl⟩
 clear P1 q1 o1 b1 l0 hws
 go_upto_region 2 with fail
 rw [← hV,← hBe]
 rw [← hBe] at HPV
 clear hV hBe
 go_wp2
 go_loopw [7,14] (fun v7 i wr=>∃ (k:Nat) (cur:List Ln) (a2:Option Addr) (k2:Nat),k≤es.length∧i=.int .i64 k∧v7=.bool true∧postsL ls es=postsL cur (es.drop k)∧PA w.heap.size B ao cap ls.length cur a2 k2 wr∧(cur.length≤1048576∧∀ x ∈ cur,lnBd x)∧Below w.heap.size w wr) (fun _ i _=>es.length - (intOf i).toNat)
 case atStart=>exact ⟨0,ls,a1,k1,Nat.zero_le _,rfl,rfl,rfl,HPV.out,⟨hn,HLB.out⟩,qV⟩
 case round =>
  obtain ⟨k,cur,a2,k2,hk,rfl,rfl,hps,hpa,⟨hcl,hcb⟩,hbr⟩:=hrel
  have HPA:Hid (PA w.heap.size B ao cap ls.length cur a2 k2 wr):=hpa
  have HCB:Hid (∀ x ∈ cur,lnBd x):=hcb
  have HPS:Hid (postsL ls es=postsL cur (es.drop k)):=hps
  clear hpa hcb hps HPV qV
  by_cases hlt:k<es.length
  ·have hki:(k:Int)<(es.length:Int):=by omega
   obtain ⟨b,off,rfl,hb2,y1,y2,y3,y4⟩:=(HY.out.below hbr).at hlt
   have hst:=posts_step cur es k hlt
   have hek:=HEB.out _ (enAt_mem hlt)
   obtain ⟨⟨a,a',c,m⟩,hx⟩:∃ x,enAt es k=x:=⟨_,rfl⟩
   rw [hx] at y1 y2 y3 y4 hst hek
   simp only at y1 y2 y3 y4
   have HST:Hid _:=HPS.out.trans hst
   have HEK:Hid (enBd (a,a',c,m)):=hek
   obtain ⟨U,hU⟩:∃ U,U=wr.alloc (.cells #[.int .i64 a,.int .i64 a',.int .i64 c,.int .i64 m] 269):=⟨_,rfl⟩
   have bU:Below wr.heap.size wr U:=by rw [hU];go_grown
   have u0:U.cell? ⟨wr.heap.size,0,none⟩=some (.int .i64 a):=by rw [hU];simp
   have u1:U.cell? ⟨wr.heap.size,1,none⟩=some (.int .i64 a'):=by rw [hU];simp
   have u2:U.cell? ⟨wr.heap.size,2,none⟩=some (.int .i64 c):=by rw [hU];simp
   have u3:U.cell? ⟨wr.heap.size,3,none⟩=some (.int .i64 m):=by rw [hU];simp
   have HPU:Hid (PA w.heap.size B ao cap ls.length cur a2 k2 U):=HPA.out.below bU
   have c6:=HPU.out.c6
   have qU:=next hbr bU
   have HBU:Hid (B<U.heap.size):=World.block_lt_of_cell? U _ c6
   clear hst hek hx bU hbr
   go_upto_region 5 with fail
   rw [← hU]
   clear hU y1 y2 y3 y4
   go_wp2_with fail
   refine (iPost_any a2 k2 cur a a' c m U (lines_any HPU.out.own) hcl HCB.out HEK.out).mono ?_
   rintro e w2 ⟨a3,k3,rfl,o3,b3⟩
   have P3:=HPU.out.below b3
   have d6:=P3.c6
   have f6:=P3.f6
   have q3:=next qU b3
   have hbu:=HBU.out
   have HP4:Hid (PA w.heap.size B ao cap ls.length (postL cur (a,a',c,m)) a3 k3 (w2.setCell ⟨B,0,none⟩ (.slice a3 (postL cur (a,a',c,m)).length k3))):=P3.put o3 hbu
   have hBs:=HPA.out.hB
   have q4:Below w.heap.size w (w2.setCell ⟨B,0,none⟩ (.slice a3 (postL cur (a,a',c,m)).length k3)):=q3.setCell (by show w.heap.size≤B;omega) _
   clear P3 o3 b3 q3 hbu c6 u0 u1 u2 u3 qU hBs
   cases hok:postOk cur (a,a',c,m)
   ·rw [hok] at HST
    have HNO:Hid (postsL ls es=none):=HST.out
    have HPL:Hid (postL cur (a,a',c,m)=cur):=postL_no hok
    rw [HPL.out] at HP4 q4 ⊢
    clear HST hok
    obtain ⟨X,hX⟩:∃ X,X=w2.setCell ⟨B,0,none⟩ (.slice a3 cur.length k3):=⟨_,rfl⟩
    rw [← hX] at HP4 q4
    have l4:=HP4.out.l0
    have HZX:Hid (LinesAt X ao ls):=HZ.out.below q4
    go_upto_region 7 with fail
    rw [← hX]
    clear hX d6 f6
    go_wp2_with fail
    refine (iCopy_any ao cap ls X HZX.out (by omega)).mono ?_
    rintro e w5 ⟨a5,k5,rfl,o5,b5⟩
    have P5:=HP4.out.below b5
    have r5:=P5.r0
    have rf5:=P5.rf
    have HE:Hid (PostR w (allL ls es) (allOk ls es) (.returned (.tuple #[.agg #[.slice a5 ls.length k5],.bool false])) (w5.setCell ⟨w.heap.size+1,0,none⟩ (.slice a5 ls.length k5))):=by
     have h1:allOk ls es=false:=by unfold allOk;rw [HNO.out];rfl
     have h2:allL ls es=ls:=by unfold allL;rw [HNO.out];rfl
     rw [Hid,h1]
     exact all_end (w:=w) h2 o5 (World.block_lt_of_cell? X _ HP4.out.r0) (next q4 b5)
    clear o5 b5 P5 l4
    go_wp2
    refine bodyPost_ret (by simp [results,Tryz.results255,go_sem,r5];try rfl) rfl ?_
    exact HE.out
   ·have hpo:=posted_ok hok
    rw [hok] at HST
    have HN:Hid (postsL ls es=postsL (postL cur (a,a',c,m)) (es.drop (k+1))):=by rw [Hid,HST.out,hpo.1];rfl
    have HB2:Hid ((postL cur (a,a',c,m)).length≤1048576∧∀ x ∈ postL cur (a,a',c,m),lnBd x):=by
     rw [hpo.1]
     exact ⟨by have:=(ledgerOk_parts hpo.2).2.1;omega,bd_of_ok hpo.2⟩
    clear HST hok hpo
    generalize postL cur (a,a',c,m)=nxt at *
    go_wp2
    go_roundw
    case rel=>exact ⟨k+1,nxt,a3,k3,by omega,by go_num,rfl,HN.out,HP4.out,HB2.out,q4⟩
    case measure=>simp [intOf];omega
  ·have hke:k=es.length:=by omega
   subst hke
   have hki:¬ (es.length:Int)<(es.length:Int):=by omega
   have hsome:postsL ls es=some cur:=by rw [HPS.out,posts_end]
   have c6:=HPA.out.c6
   have r0:=HPA.out.r0
   have rf:=HPA.out.rf
   have HE:Hid (PostR w (allL ls es) (allOk ls es) (.returned (.tuple #[.agg #[.slice a2 cur.length k2],.bool true])) (wr.setCell ⟨w.heap.size+1,0,none⟩ (.slice a2 cur.length k2))):=by
    have h1:allOk ls es=true:=by unfold allOk;rw [hsome];rfl
    have h2:allL ls es=cur:=by unfold allL;rw [hsome];rfl
    rw [Hid,h1]
    exact all_end (w:=w) h2 HPA.out.own (by omega) hbr
   clear hsome HPS
   go_wp2
   refine bodyPost_ret (by simp [results,Tryz.results255,go_sem,r0];try rfl) rfl ?_
   exact HE.out
end Go.Proofs.YtomiclakhjncbaaGreatDoor
namespace Go.Proofs.YtomiclakhjncbaaGreatDoor.Kb
open Go.RowKit
set_option maxRecDepth 100000
set_option maxHeartbeats 12800000
theorem form_any {u:World} {base n size:Nat} {t:TypeId} {v:Value} {xs:List Value} (h:u.ownsRow base t size v n xs):∃ a c,v=.slice a n c:=by
 rcases h.2 with ⟨hv,h0⟩ | ⟨g,cap,cur,hv,_⟩
 ·exact ⟨none,0,by rw [hv,h0]⟩
 ·exact ⟨_,_,hv⟩
theorem joinC_any (g:Nat) (ao:Option Addr) (cap:Nat) (cs:List Cs) (w:World) (hc:w.cell? ⟨g,0,none⟩=some (.slice ao cs.length cap)) (hz:CasesAt w ao cs) (hn:cs.length≤1048577) :
  Calls Tryz.prog 111 #[.slice (some ⟨g,0,none⟩) 1 1] w fun e w'=>∃ a2 k2,e=.returned (.slice a2 cs.length k2) ∧
   w'.ownsRow w.heap.size 61 12 (.slice a2 cs.length k2) cs.length (cscells cs)∧Below w.heap.size w w':=by
 have HZ:Hid (CasesAt w ao cs):=hz
 clear hz
 go_enter Tryz.func111,Tryz.ntmps111
 go_wp2
 refine wp_loop_rounds 2 ?_
 rw [rounds_succ]
 go_wp2_with (at_builtin;refine wpList_append_cases _ rfl (.tmp 12) (.tmp 13) rfl w.heap.size _ 0 [] rfl (World.ownsRow_nil _ _ _ _) ao cap cs rfl HZ.out (by omega) (Nat.le_refl _) ?_;intro v2 w2 o2 g2 _)
 have q2:Below w.heap.size w w2:=(Below.refl _ _).grown g2 (Nat.le_refl _) (fun k hk=>by cases hk)
 rw [Nat.zero_add,List.nil_append] at o2
 obtain ⟨a2,k2,hv2⟩:=form_any o2
 subst hv2
 have HO2:Hid (w2.ownsRow w.heap.size 61 12 (.slice a2 cs.length k2) cs.length (cscells cs)):=o2
 clear o2 g2 HZ hc
 go_wp2
 rw [rounds_succ]
 go_wp2
 go_ret
 exact ⟨a2,k2,rfl,HO2.out,q2⟩
theorem copyTexts_any {F:Fns} {E:World→Prop} {G:Nat} (KI:KnI F E G) (ao:Option Addr) (cap:Nat) (rs:Recs) (w:World) (hz:TxtsAt w ao rs) (hn:rs.length≤1048576) (hd:∀ r ∈ rs,r.length≤1048576) :
  Calls Tryz.prog 112 #[.slice ao rs.length cap] w fun e w'=>e=.returned (.slice (some ⟨w.heap.size,0,none⟩) rs.length rs.length) ∧
   w'.ownsRow w.heap.size 9 1 (.slice (some ⟨w.heap.size,0,none⟩) rs.length rs.length) rs.length (scells rs)∧Below w.heap.size w w':=by
 obtain ⟨i0,hi,hz0,hz1,hz2⟩:=info_parts infoS
 have hm0:=cells_repS rs.length
 rcases hz with rfl | ⟨b,off,rfl,hb,hcell⟩
 ·go_enter Tryz.func112,Tryz.ntmps112
  go_wp2_with (refine wpList_make_full _ rfl (.tmp 7) (.tmp 7) 23 rfl w.heap.size 9 i0 _ 1 Tryz.underlying23 hi hz0 hz1 .i64 .i64 _ _ 0 rfl rfl rfl rfl (by rw [hz2];omega) (by unfold maxLen;omega) (Nat.le_refl _) ?_;intro w1 hown hg)
  refine wp_loop_rounds 1 ?_
  rw [rounds_succ]
  go_wp2
  go_ret
  exact ⟨rfl,by simpa [madeCells,scells] using hown,(Below.refl _ _).grown hg (Nat.le_refl _) (fun k hk=>by cases hk)⟩
 ·have HC:Hid (∀ i,i<rs.length→w.cell? ⟨b,off+i,none⟩=some (.string ⟨(nth rs i).toArray⟩)):=hcell
  have HCL:Hid (∀ (i:Nat) (u:World),i<rs.length→Calls Tryz.prog 138 #[.string ⟨(nth rs i).toArray⟩] u fun e w'=>e=.returned (.string ⟨(nth rs i).toArray⟩)∧Below u.heap.size u w'):=fun i u h=>KI.clone _ u (hd _ (nth_mem h))
  clear hcell KI hd
  go_enter Tryz.func112,Tryz.ntmps112
  go_wp2_with (refine wpList_make_full _ rfl (.tmp 7) (.tmp 7) 23 rfl w.heap.size 9 i0 _ 1 Tryz.underlying23 hi hz0 hz1 .i64 .i64 _ _ rs.length rfl rfl rfl rfl (by rw [hz2];omega) (by unfold maxLen;omega) (Nat.le_refl _) ?_;intro w1 hown hg)
  rw [hm0,show List.replicate rs.length ([]:List UInt8)=halfS rs 0 from by simp [halfS]] at hown
  have hb1:Below w.heap.size w w1:=(Below.refl _ _).grown hg (Nat.le_refl _) (fun k hk=>by cases hk)
  clear hm0 hg
  go_loopw [11] (fun i wr=>∃ k:Nat,k≤rs.length∧i=.int .i64 k∧wr.ownsRow w.heap.size 9 1 (.slice (some ⟨w.heap.size,0,none⟩) rs.length rs.length) rs.length (scells (halfS rs k))∧Below w.heap.size w wr) (fun i _=>rs.length - (intOf i).toNat)
  case atStart=>exact ⟨0,Nat.zero_le _,rfl,hown,hb1⟩
  case round =>
   obtain ⟨k,hk,rfl,ho,hbr⟩:=hrel
   clear hown hb1
   by_cases hlt:k<rs.length
   ·have c1:wr.cell? ⟨b,off+k,none⟩=some (.string ⟨(nth rs k).toArray⟩):=(hbr.cell (p:=⟨b,off+k,none⟩) hb).trans (HC.out k hlt)
    have hki:(k:Int)<(rs.length:Int):=by omega
    have HS:Hid _:=halfS_succ rs k hlt
    have HT:Hid _:=scells_set (halfS rs k) k (nth rs k)
    have hat:=scells_at (halfS rs k) k (by rw [halfS_len rs k hk];exact hlt)
    rw [halfS_at rs k hlt] at hat
    have HCK:Hid (∀ u,Calls Tryz.prog 138 #[.string ⟨(nth rs k).toArray⟩] u fun e w'=>e=.returned (.string ⟨(nth rs k).toArray⟩)∧Below u.heap.size u w'):=fun u=>HCL.out k u hlt
    obtain ⟨s,hf⟩:∃ f,nth rs k=f:=⟨_,rfl⟩
    rw [hf] at c1 HS HT HCK
    have HO:Hid (wr.ownsRow w.heap.size 9 1 (.slice (some ⟨w.heap.size,0,none⟩) rs.length rs.length) rs.length (scells (halfS rs k))):=ho
    have HBR:Hid (Below w.heap.size w wr):=hbr
    have HAT:Hid _:=hat
    clear ho hf hbr hat
    go_wp2_with fail
    refine Calls.mono (HCK.out wr) ?_
    rintro e w2 ⟨rfl,p2⟩
    have ho2:=keepRowS HO.out p2
    have c3:w2.cell? ⟨w.heap.size,k,none⟩=some (.string ⟨#[]⟩):=by rw [ho2.cellAt k (by omega)];exact HAT.out
    have c5:w2.frozen? ⟨w.heap.size,k,none⟩=false:=ho2.frozenAt _
    have HR:Hid ((w2.setCell ⟨w.heap.size,k,none⟩ (.string ⟨s.toArray⟩)).ownsRow w.heap.size 9 1 (.slice (some ⟨w.heap.size,0,none⟩) rs.length rs.length) rs.length (scells (halfS rs (k+1)))):=by
     have R:=(ho2.stored k (.string ⟨s.toArray⟩)).1
     rw [HT.out,HS.out] at R
     exact R
    have HB2:Hid (Below w.heap.size w w2):=next HBR.out p2
    clear ho2 p2 c1
    go_wp2
    go_roundw
    case rel=>exact ⟨k+1,by omega,by go_num,HR.out,HB2.out.setCell (Nat.le_refl _) _⟩
    case measure=>simp [intOf];omega
   ·have:k=rs.length:=by omega
    subst this
    rw [halfS_all] at ho
    go_wp2
    go_ret
    exact ⟨rfl,ho,hbr⟩
end Go.Proofs.YtomiclakhjncbaaGreatDoor.Kb
namespace Go.Proofs.YtomiclakhjncbaaGreatDoor
open Go.RowKit
set_option maxRecDepth 100000
set_option maxHeartbeats 12800000
structure FrB (q:Bp) (n:Nat):Prop where
 o:Fresh q.o n
 a:Fresh q.a n
 c:Fresh q.c n
 l:Fresh q.l n
 g:Fresh q.g n
theorem fr_mono {a:Option Addr} {n m:Nat} (h:Fresh a n) (hm:m≤n):Fresh a m:=fun x hx=>by have:=h x hx;omega
theorem fr_part {a a1:Option Addr} {n m:Nat} (h:a=a1∨Fresh a n) (h1:Fresh a1 m) (hm:m≤n):Fresh a m:=by
 rcases h with rfl | h
 ·exact h1
 ·exact fr_mono h hm
def BoF (Rel:Bk→List UInt8→Bk×Int→Prop) (b:Bk) (line:List UInt8) (w:World) (e:Ending) (w':World):Prop :=
 ∃ r q,BkRel Rel b line r∧e=.returned (.tuple #[bkv r.1 q,.int .i64 r.2])∧BookAt w' r.1 q∧Below w.heap.size w w'∧FrB q w.heap.size
theorem sBookDoF_any {Pre:Bk→Prop} {Rel:Bk→List UInt8→Bk×Int→Prop} (D:DoKnown Pre Rel) (b:Bk) (p:Bp) (line:List UInt8) (w:World) (hx:BookAt w b p) (hp:Pre b) (hl:line.length≤1048575) :
  Calls Tryz.prog 31 #[bkv b p,.string ⟨line.toArray⟩] w (BoF Rel b line w):=by
 have hn:=D.small b hp
 have HPRE:Hid (Pre b):=hp
 clear hp
 have HX:Hid (∀ u,Below w.heap.size w u→BookAt u b p):=fun u h=>hx.below h
 have HN:Hid (bkSm b):=hn
 have HCP:Hid (∀ u,Below w.heap.size w u→Calls Tryz.prog 71 #[bkv b p] u (CpR u b)):=fun u h=>sBkCopy_any b p u (hx.below h) hn
 clear hx hn
 obtain ⟨td,fo,az,cs,ls,lg⟩:=b
 obtain ⟨o,oc,a,ac,c,cc,l,lc,g,gc⟩:=p
 unfold bkv at HCP ⊢
 simp only at HCP ⊢
 obtain ⟨u0,hu0⟩:∃ u,u=((w.alloc (.cells #[.int .i64 td,.slice o fo.length oc,.slice a az.length ac,.slice c cs.length cc,.slice l ls.length lc,.slice g lg.length gc] 31))).alloc (.cells #[.int .i64 0,.slice none 0 0,.slice none 0 0,.slice none 0 0,.slice none 0 0,.slice none 0 0] 31):=⟨_,rfl⟩
 have HB0:Hid (Below w.heap.size w u0):=by rw [Hid,hu0];go_grown
 have HS0:Hid ((w.heap.size+1)<u0.heap.size):=by rw [Hid,hu0];simp
 have HZ0:Hid (Z6 w.heap.size (.int .i64 td) (.slice o fo.length oc) (.slice a az.length ac) (.slice c cs.length cc) (.slice l ls.length lc) (.slice g lg.length gc) u0):=by
  rw [Hid,hu0]
  exact ((Z6.new w (.int .i64 td) (.slice o fo.length oc) (.slice a az.length ac) (.slice c cs.length cc) (.slice l ls.length lc) (.slice g lg.length gc) 31)).below ((Below.refl _ _).alloc (Nat.le_refl _) _)
 have HR0:Hid (Z6 (w.heap.size+1) (.int .i64 0) (.slice none 0 0) (.slice none 0 0) (.slice none 0 0) (.slice none 0 0) (.slice none 0 0) u0):=by
  have h:=Z6.new ((w.alloc (.cells #[.int .i64 td,.slice o fo.length oc,.slice a az.length ac,.slice c cs.length cc,.slice l ls.length lc,.slice g lg.length gc] 31))) (.int .i64 0) (.slice none 0 0) (.slice none 0 0) (.slice none 0 0) (.slice none 0 0) (.slice none 0 0) 31
  rw [Hid,hu0];simpa using h
 have HU0:Hid _:=hu0
 clear hu0
 go_enter Tryz.func31,Tryz.ntmps31
 go_upto_region 1 with fail
 rw [← HU0.out]
 clear HU0
 have hcn:lg.length≤1048576:=by have:=HN.out.2.2.2.2;simpa using this
 obtain ⟨t0,t1,t2,t3,t4,t5,s0,s1,s2,s3,s4,s5⟩:=HZ0.out
 obtain ⟨q0,q1,q2,q3,q4,q5,p0,p1,p2,p3,p4,p5⟩:=HR0.out
 go_wp2_with fail
 refine Calls.mono (HCP.out _ HB0.out) ?_
 rintro e u1 ⟨⟨q1,base,rfl,hb1,ho1,hbs,hbz,hah,hfr⟩,b1⟩
 obtain ⟨o1,oc1,a1,ac1,c1,cc1,l1,lc1,g1,gc1⟩:=q1
 unfold bkv
 simp only at ho1 hah hfr ⊢
 have HZ1:Hid _:=HZ0.out.below b1
 have HR1:Hid _:=HR0.out.below b1
 have HB1:Hid (Below w.heap.size w u1):=next HB0.out b1
 have HK1:Hid (BookAt u1 ⟨td,fo,az,cs,ls,lg⟩ ⟨o1,oc1,a1,ac1,c1,cc1,l1,lc1,g1,gc1⟩):=hb1
 have HO1:Hid (u1.ownsRow base 9 1 (.slice g1 lg.length gc1) lg.length (scells lg)):=ho1
 have hs0:=HS0.out
 have HOB:Hid (OffB ⟨o1,oc1,a1,ac1,c1,cc1,l1,lc1,g1,gc1⟩ w.heap.size):=⟨fresh_off hfr.1 (by omega),fresh_off hfr.2.1 (by omega),fresh_off hfr.2.2.1 (by omega),fresh_off hfr.2.2.2.1 (by omega),fresh_off hfr.2.2.2.2 (by omega)⟩
 have HOR:Hid (OffB ⟨o1,oc1,a1,ac1,c1,cc1,l1,lc1,g1,gc1⟩ (w.heap.size+1)):=⟨fresh_off hfr.1 hs0,fresh_off hfr.2.1 hs0,fresh_off hfr.2.2.1 hs0,fresh_off hfr.2.2.2.1 hs0,fresh_off hfr.2.2.2.2 hs0⟩
 have HAH:Hid (Ahead o1 base∧Ahead a1 base∧Ahead c1 base∧Ahead l1 base):=hah
 have HFR:Hid (FrB ⟨o1,oc1,a1,ac1,c1,cc1,l1,lc1,g1,gc1⟩ w.heap.size):=⟨fr_mono hfr.1 (by omega),fr_mono hfr.2.1 (by omega),fr_mono hfr.2.2.1 (by omega),fr_mono hfr.2.2.2.1 (by omega),fr_mono hfr.2.2.2.2 (by omega)⟩
 have HBS:Hid (w.heap.size+1<base∧base≤u1.heap.size):=⟨by omega,hbz⟩
 clear t0 t1 t2 t3 t4 t5 s0 s1 s2 s3 s4 s5 q0 q1 q2 q3 q4 q5 p0 p1 p2 p3 p4 p5 HZ0 HR0 HB0 HS0 HCP b1 hb1 ho1 hah hfr hbs hbz hs0
 obtain ⟨t0,t1,t2,t3,t4,t5,s0,s1,s2,s3,s4,s5⟩:=HZ1.out
 obtain ⟨q0,q1,q2,q3,q4,q5,p0,p1,p2,p3,p4,p5⟩:=HR1.out
 go_upto_region 2 with fail
 obtain ⟨u2,hu2⟩:∃ u,u=(((((u1.setCell ⟨w.heap.size,0,none⟩ (.int .i64 td)).setCell ⟨w.heap.size,1,none⟩ (.slice o1 fo.length oc1)).setCell ⟨w.heap.size,2,none⟩ (.slice a1 az.length ac1)).setCell ⟨w.heap.size,3,none⟩ (.slice c1 cs.length cc1)).setCell ⟨w.heap.size,4,none⟩ (.slice l1 ls.length lc1)).setCell ⟨w.heap.size,5,none⟩ (.slice g1 lg.length gc1):=⟨_,rfl⟩
 have HZ2:Hid (Z6 w.heap.size (.int .i64 td) (.slice o1 fo.length oc1) (.slice a1 az.length ac1) (.slice c1 cs.length cc1) (.slice l1 ls.length lc1) (.slice g1 lg.length gc1) u2):=by rw [Hid,hu2];exact HZ1.out.put6 _ _ _ _ _ _
 have HR2:Hid (Z6 (w.heap.size+1) (.int .i64 0) (.slice none 0 0) (.slice none 0 0) (.slice none 0 0) (.slice none 0 0) (.slice none 0 0) u2):=by rw [Hid,hu2];exact HR1.out.far6 (by omega) _ _ _ _ _ _
 have HB2:Hid (Below w.heap.size w u2):=by rw [Hid,hu2];exact put6_below (Nat.le_refl _) HB1.out _ _ _ _ _ _
 have HK2:Hid (BookAt u2 ⟨td,fo,az,cs,ls,lg⟩ ⟨o1,oc1,a1,ac1,c1,cc1,l1,lc1,g1,gc1⟩):=by rw [Hid,hu2];exact HK1.out.put6 HOB.out _ _ _ _ _ _
 have HO2:Hid (u2.ownsRow base 9 1 (.slice g1 lg.length gc1) lg.length (scells lg)):=by rw [Hid,hu2];exact put6_row HO1.out (by have:=HBS.out;omega) _ _ _ _ _ _
 have HB2S:Hid (w.heap.size+1<base∧base≤u2.heap.size):=by rw [Hid,hu2];simpa using HBS.out
 rw [← hu2]
 clear hu2 HZ1 HR1 HB1 HK1 HO1 HBS t0 t1 t2 t3 t4 t5 s0 s1 s2 s3 s4 s5 q0 q1 q2 q3 q4 q5 p0 p1 p2 p3 p4 p5
 obtain ⟨t0,t1,t2,t3,t4,t5,s0,s1,s2,s3,s4,s5⟩:=HZ2.out
 obtain ⟨q0,q1,q2,q3,q4,q5,p0,p1,p2,p3,p4,p5⟩:=HR2.out
 by_cases hfull:600≤lg.length
 ·have hf':(600:Int)≤(lg.length:Int):=by omega
  go_wp2
  refine bodyPost_ret (by simp [results,Tryz.results31,go_sem,q0,q1,q2,q3,q4,q5];try rfl) rfl ?_
  exact ⟨(⟨td,fo,az,cs,ls,lg⟩,2),⟨o1,oc1,a1,ac1,c1,cc1,l1,lc1,g1,gc1⟩,.inl ⟨hfull,rfl⟩,rfl,HK2.out.put6 HOR.out _ _ _ _ _ _,put6_below (by omega) HB2.out _ _ _ _ _ _,HFR.out⟩
 have hf':¬ (600:Int)≤(lg.length:Int):=by omega
 have HAB:AhB ⟨o1,oc1,a1,ac1,c1,cc1,l1,lc1,g1,gc1⟩ u2.heap.size:=⟨HAH.out.1.mono HB2S.out.2,HAH.out.2.1.mono HB2S.out.2,HAH.out.2.2.1.mono HB2S.out.2,HAH.out.2.2.2.mono HB2S.out.2,own_ahead HO2.out (Nat.le_refl _)⟩
 have HD:Hid _:=D.calls ⟨td,fo,az,cs,ls,lg⟩ ⟨o1,oc1,a1,ac1,c1,cc1,l1,lc1,g1,gc1⟩ line u2 HK2.out HAB HPRE.out hl
 clear HAB
 have HLOG:Hid _:=D.log ⟨td,fo,az,cs,ls,lg⟩ line
 unfold bkv at HD
 simp only at HD
 go_wp2_with fail
 refine Calls.mono HD.out ?_
 rintro e u3 ⟨⟨⟨td2,fo2,az2,cs2,ls2,lg2⟩,code⟩,hrel,q2,rfl,hb3,hg3,hgc3,hpt,b3⟩
 obtain ⟨o2,oc2,a2,ac2,c2,cc2,l2,lc2,g2,gc2⟩:=q2
 simp only at hg3 hgc3 hpt hrel hb3
 obtain rfl:lg2=lg:=HLOG.out _ hrel
 subst hg3
 subst hgc3
 unfold bkv
 simp only
 have HREL:Hid _:=hrel
 have HK3:Hid _:=hb3
 have HPT:Hid _:=hpt
 obtain ⟨V,hV⟩:∃ V,V=u3.alloc (.cells #[.int .i64 td2,.slice o2 fo2.length oc2,.slice a2 az2.length ac2,.slice c2 cs2.length cc2,.slice l2 ls2.length lc2,.slice g2 lg2.length gc2] 31):=⟨_,rfl⟩
 have bV:Below u3.heap.size u3 V:=by rw [hV];exact (Below.refl _ _).alloc (Nat.le_refl _) _
 have HT:Hid (Z6 u3.heap.size (.int .i64 td2) (.slice o2 fo2.length oc2) (.slice a2 az2.length ac2) (.slice c2 cs2.length cc2) (.slice l2 ls2.length lc2) (.slice g2 lg2.length gc2) V):=by rw [Hid,hV];exact Z6.new u3 (.int .i64 td2) (.slice o2 fo2.length oc2) (.slice a2 az2.length ac2) (.slice c2 cs2.length cc2) (.slice l2 ls2.length lc2) (.slice g2 lg2.length gc2) 31
 have HTO:Hid (∃ cur,V.heap[u3.heap.size]?=some (.cells cur 31)):=by rw [Hid,hV];exact ⟨_,heap_alloc_new u3 _⟩
 have b23:=next b3 bV
 have HZ3:Hid (Z6 w.heap.size (.int .i64 td) (.slice o1 fo.length oc1) (.slice a1 az.length ac1) (.slice c1 cs.length cc1) (.slice l1 ls.length lc1) (.slice g2 lg2.length gc2) V):=HZ2.out.below b23
 have HR3:Hid (Z6 (w.heap.size+1) (.int .i64 0) (.slice none 0 0) (.slice none 0 0) (.slice none 0 0) (.slice none 0 0) (.slice none 0 0) V):=HR2.out.below b23
 have HB3:Hid (Below w.heap.size w V):=next HB2.out b23
 have HKB:Hid (BookAt V ⟨td,fo,az,cs,ls,lg2⟩ ⟨o1,oc1,a1,ac1,c1,cc1,l1,lc1,g2,gc2⟩):=HK2.out.below b23
 have HO3:Hid (V.ownsRow base 9 1 (.slice g2 lg2.length gc2) lg2.length (scells lg2)):=keepL HO2.out b23
 have HLB:Hid (∀ B,(Value.slice g2 lg2.length gc2).ownBlock=some B→base≤B∧B<u2.heap.size):=fun B h=>HO2.out.lt B h
 have HG3:Hid (∀ row,u3.grownBy V row):=fun row=>by rw [hV];exact World.grownBy_alloc u3 _ row
 have HS3:Hid (w.heap.size+1<base∧base≤u2.heap.size∧u2.heap.size≤u3.heap.size∧u3.heap.size<V.heap.size):=⟨HB2S.out.1,HB2S.out.2,b3.size,HT.out.lt⟩
 have HV:Hid _:=hV
 clear hV bV b3 b23 hb3 hpt hrel HZ2 HR2 HB2 HK2 HO2 HB2S HD t0 t1 t2 t3 t4 t5 s0 s1 s2 s3 s4 s5 q0 q1 q2 q3 q4 q5 p0 p1 p2 p3 p4 p5
 go_upto_region 5 with fail
 rw [← HV.out]
 clear HV
 by_cases hcode:code=0
 case neg =>
  have hcb:(code != 0)=true:=by simpa using hcode
  obtain ⟨t0,t1,t2,t3,t4,t5,s0,s1,s2,s3,s4,s5⟩:=HZ3.out
  obtain ⟨q0,q1,q2,q3,q4,q5,p0,p1,p2,p3,p4,p5⟩:=HR3.out
  go_wp2
  refine bodyPost_ret (by simp [results,Tryz.results31,go_sem,q0,q1,q2,q3,q4,q5];try rfl) rfl ?_
  exact ⟨(⟨td,fo,az,cs,ls,lg2⟩,code),⟨o1,oc1,a1,ac1,c1,cc1,l1,lc1,g2,gc2⟩,.inr ⟨by show lg2.length<600;omega,_,HREL.out,.inl ⟨hcode,rfl⟩⟩,rfl,HKB.out.put6 HOR.out _ _ _ _ _ _,put6_below (by omega) HB3.out _ _ _ _ _ _,HFR.out⟩
 subst hcode
 obtain ⟨i0,hi,hz0,hz1,hz2⟩:=info_parts infoS
 have t5:=(HT.out.below ((Below.refl _ _).alloc (Nat.le_refl _) (.cells #[.string ⟨line.toArray⟩] 9))).c5
 have t5':=HT.out.c5
 obtain ⟨LL,hLL⟩:∃ L,lg2++[line]=L:=⟨_,rfl⟩
 have HEQ:Hid (lg2++[line]=LL):=hLL
 clear hLL
 have HP:Hid (∀ v5 w5,w5.ownsRow base 9 1 v5 (lg2.length+1) (scells lg2++[.string ⟨line.toArray⟩])→(V.alloc (.cells #[.string ⟨line.toArray⟩] 9)).grownBy w5 (Value.slice g2 lg2.length gc2).ownBlock →
   ∃ a5 k5,v5=.slice a5 LL.length k5∧w5.ownsRow base 9 1 (.slice a5 LL.length k5) LL.length (scells LL)∧Z6 u3.heap.size (.int .i64 td2) (.slice o2 fo2.length oc2) (.slice a2 az2.length ac2) (.slice c2 cs2.length cc2) (.slice l2 ls2.length lc2) (.slice g2 lg2.length gc2) w5∧Z6 (w.heap.size+1) (.int .i64 0) (.slice none 0 0) (.slice none 0 0) (.slice none 0 0) (.slice none 0 0) (.slice none 0 0) w5∧u3.grownBy w5 (Value.slice g2 lg2.length gc2).ownBlock∧Below w.heap.size w w5∧Off1 a5 u3.heap.size):=by
  intro v5 w5 o5 g5
  have hs3:=HS3.out
  have hne:some u3.heap.size≠(Value.slice g2 lg2.length gc2).ownBlock:=fun e=>by have:=HLB.out _ e.symm;omega
  have hneR:some (w.heap.size+1)≠(Value.slice g2 lg2.length gc2).ownBlock:=fun e=>by have:=HLB.out _ e.symm;omega
  have ga:=World.grownBy_alloc V (.cells #[.string ⟨line.toArray⟩] 9) (Value.slice g2 lg2.length gc2).ownBlock
  have gv:=ga.trans g5
  have e1:lg2.length+1=LL.length:=by rw [← HEQ.out];simp
  have e2:scells lg2++[.string ⟨line.toArray⟩]=scells LL:=by rw [← HEQ.out,scells_append];rfl
  rw [e1,e2] at o5
  obtain ⟨a5,k5,hv⟩:=any_shape o5
  subst hv
  refine ⟨a5,k5,rfl,o5,HT.out.grown gv hne,HR3.out.grown gv hneR,(HG3.out _).trans gv,HB3.out.grown gv HB3.out.size (fun B hB=>by have:=HLB.out B hB;omega),?_⟩
  intro x hx e
  subst hx
  obtain ⟨cur,hcur⟩:=HTO.out
  have hT:w5.heap[u3.heap.size]?=some (.cells cur 31):=(gv.block _ hs3.2.2.2 hne).trans hcur
  rcases o5.2 with ⟨h,_⟩ | ⟨g,cap,cr,h,_,hg,_⟩
  ·cases h
  ·have hxg:x.block=g:=by
     injection h with h _ _
     injection h with h
     rw [h]
   rw [← hxg,e,hT] at hg
   injection hg with hg
   injection hg with _ h2
   exact absurd h2 (by decide)
 have HOA:Hid ((V.alloc (.cells #[.string ⟨line.toArray⟩] 9)).ownsRow base 9 1 (.slice g2 lg2.length gc2) lg2.length (scells lg2)):=HO3.out.alloc _
 go_upto_region 8 with (at_builtin;refine wpList_append_own _ rfl (.tmp 26) (.tmp 28) 23 rfl base 9 i0 (.string ⟨#[]⟩) 1 16 Tryz.underlying23 hi hz0 hz1 hz2 rfl (by decide) _ _ _ rfl HOA.out ⟨V.heap.size,0,none⟩ 1 1 [.string ⟨line.toArray⟩] rfl rfl (World.news_of_block (heap_alloc_new V _)) (one_oneS _) (by unfold maxLen;omega) (by omega) (by have:=HS3.out;simp;omega) ?_;intro v5 w5 o5 g5 _;obtain ⟨a5,k5,hv5,o6,zt,zr,gg,bb,hoff⟩:=HP.out v5 w5 o5 g5;subst hv5;have y5:=zt.c5;have f5:=zt.z5;have HO6:Hid _:=o6;have HZT:Hid _:=zt;have HZR:Hid _:=zr;have HGG:Hid _:=gg;have HBB:Hid _:=bb;have HOF:Hid _:=hoff;clear o5 g5 o6 zt zr gg bb hoff)
 obtain ⟨u6,hu6⟩:∃ u,u=w5.setCell ⟨u3.heap.size,5,none⟩ (.slice a5 LL.length k5):=⟨_,rfl⟩
 have hs3:=HS3.out
 have HT6:Hid (Z6 u3.heap.size (.int .i64 td2) (.slice o2 fo2.length oc2) (.slice a2 az2.length ac2) (.slice c2 cs2.length cc2) (.slice l2 ls2.length lc2) (.slice a5 LL.length k5) u6):=by rw [Hid,hu6];exact HZT.out.set5 _
 have HR6:Hid (Z6 (w.heap.size+1) (.int .i64 0) (.slice none 0 0) (.slice none 0 0) (.slice none 0 0) (.slice none 0 0) (.slice none 0 0) u6):=by rw [Hid,hu6];exact HZR.out.far (by omega)
 have HB6:Hid (Below w.heap.size w u6):=by rw [Hid,hu6];exact HBB.out.setCell (show w.heap.size≤u3.heap.size by omega) _
 have HG6:Hid (u3.grownBy u6 (Value.slice g2 lg2.length gc2).ownBlock):=by rw [Hid,hu6];exact grown_setB HGG.out (Nat.le_refl _)
 have HL6:Hid (u6.ownsRow base 9 1 (.slice a5 LL.length k5) LL.length (scells LL)):=by
  rw [Hid,hu6]
  refine World.ownsRow.kept HO6.out (set_grown _ _ _ _) ?_
  by_cases e:(Value.slice a5 LL.length k5).ownBlock=none
  ·exact .inl e
  ·refine .inr fun e2=>?_
   cases a5 with
   | none=>simp [Value.ownBlock] at e
   | some x =>
    have hx:x.block=u3.heap.size:=by simpa [Value.ownBlock] using e2
    exact HOF.out x rfl hx
 rw [← hu6]
 clear hu6 HZT HZR HBB HGG HO6 HOF HOA HP y5 f5 t5 t5' HT HTO HZ3 HR3 HB3 HKB HO3
 obtain ⟨t0,t1,t2,t3,t4,t5,-,-,-,-,-,-⟩:=HT6.out
 obtain ⟨q0,q1,q2,q3,q4,q5,p0,p1,p2,p3,p4,p5⟩:=HR6.out
 go_wp2
 refine bodyPost_ret (by simp [results,Tryz.results31,go_sem,q0,q1,q2,q3,q4,q5];try rfl) rfl ?_
 obtain ⟨pe,pa,pc,pl⟩:=HPT.out
 have hK:=HK3.out
 have hah:=HAH.out
 have hor:=HOR.out
 have hgg:=HG6.out
 have hlb:=HLB.out
 have HF:BookAt u6 ⟨td2,fo2,az2,cs2,ls2,LL⟩ ⟨o2,oc2,a2,ac2,c2,cc2,l2,lc2,a5,k5⟩ :=
  ⟨hK.off.far hgg (fun B e=>part_off (.inl pe) hah.1 (hlb B e).1 (hlb B e).2),hK.az.far hgg (fun B e=>part_off pa hah.2.1 (hlb B e).1 (hlb B e).2),hK.cs.far hgg (fun B e=>part_off pc hah.2.2.1 (hlb B e).1 (hlb B e).2),hK.ls.far hgg (fun B e=>part_off pl hah.2.2.2 (hlb B e).1 (hlb B e).2),txts_any HL6.out⟩
 have HQ:OffB ⟨o2,oc2,a2,ac2,c2,cc2,l2,lc2,a5,k5⟩ (w.heap.size+1) :=
  ⟨part_off2 (n:=u2.heap.size) (.inl pe) hor.o (by omega),part_off2 pa hor.a (by omega),part_off2 pc hor.c (by omega),part_off2 pl hor.l (by omega),fresh_off (own_fresh HL6.out) (by omega)⟩
 refine ⟨(⟨td2,fo2,az2,cs2,ls2,LL⟩,0),⟨o2,oc2,a2,ac2,c2,cc2,l2,lc2,a5,k5⟩,.inr ⟨by show lg2.length<600;omega,_,HREL.out,.inr ⟨rfl,by rw [← HEQ.out]⟩⟩,rfl,HF.put6 HQ _ _ _ _ _ _,put6_below (by omega) HB6.out _ _ _ _ _ _,?_⟩
 have hfr:=HFR.out
 exact ⟨pe ▸ hfr.o,fr_part pa hfr.a (by omega),fr_part pc hfr.c (by omega),fr_part pl hfr.l (by omega),fr_mono (own_fresh HL6.out) (by omega)⟩
end Go.Proofs.YtomiclakhjncbaaGreatDoor
