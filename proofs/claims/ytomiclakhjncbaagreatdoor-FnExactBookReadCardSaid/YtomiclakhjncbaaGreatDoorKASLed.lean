import Derived.Test.YtomiclakhjncbaaGreatDoorJA1a
import Derived.Handy
import Derived.Deep.RegionHeld3
namespace Go.Proofs.YtomiclakhjncbaaGreatDoor
open Go.RowKit
set_option maxRecDepth 100000
set_option maxHeartbeats 12800000
theorem acct_any (a:Int) (w:World) :
  Calls Tryz.prog 216 #[.int .i64 a] w fun e w'=>e=.returned (.bool (acctOk a))∧w'=w:=by
 go_enter Tryz.func216,Tryz.ntmps216
 go_wp2_with fail
 refine (in_any _ _ _ _).mono ?_
 rintro e w1 ⟨rfl,hw⟩
 rw [hw]
 go_wp2
 go_ret
 exact ⟨rfl,rfl⟩
theorem acct_is {a:Int} {q:Bool} (h:acctOk a=q) (w:World):Calls Tryz.prog 216 #[.int .i64 a] w fun e w'=>e=.returned (.bool q)∧w'=w:=by rw [← h];exact acct_any a w
theorem sBack_any (a b c m:Int) (w:World) :
  Calls Tryz.prog 265 #[.agg #[.int .i64 a,.int .i64 b,.int .i64 c,.int .i64 m]] w fun e w'=>e=.returned (.agg #[.int .i64 b,.int .i64 a,.int .i64 c,.int .i64 m])∧Below w.heap.size w w':=by
 go_enter Tryz.func265,Tryz.ntmps265
 go_wp2
 go_returns
 refine ⟨rfl,?_⟩
 go_grown
theorem digs_is {c:Int} (w:World) (d:Int) (h:digs c=d):Calls Tryz.prog 217 #[.int .i64 c] w fun e w'=>e=.returned (.int .i64 d)∧Below w.heap.size w w':=by rw [← h];exact sDigits_any c w
theorem sEntryOk_any (a b c m:Int) (w:World) :
  Calls Tryz.prog 261 #[.agg #[.int .i64 a,.int .i64 b,.int .i64 c,.int .i64 m]] w fun e w'=>e=.returned (.bool (entryOk (a,b,c,m)))∧Below w.heap.size w w':=by
 have bel:Below w.heap.size w (w.alloc (.cells #[.int .i64 a,.int .i64 b,.int .i64 c,.int .i64 m] 269)):=by go_grown
 cases h1:acctOk a
 ·have HE:Hid (entryOk (a,b,c,m)=false):=by simp [Hid,entryOk,h1]
  have H1:Hid _:=h1
  clear h1
  go_enter Tryz.func261,Tryz.ntmps261
  go_wp2_with fail
  refine (acct_is H1.out _).mono ?_
  rintro e w1 ⟨rfl,hw⟩
  rw [hw]
  clear hw
  go_wp2
  go_ret
  exact ⟨one_bool HE.out.symm,bel⟩
 have H1:Hid _:=h1
 cases h2:acctOk b
 ·have HE:Hid (entryOk (a,b,c,m)=false):=by simp [Hid,entryOk,h2]
  have H2:Hid _:=h2
  clear h1 h2
  go_enter Tryz.func261,Tryz.ntmps261
  go_wp2_with fail
  refine (acct_is H1.out _).mono ?_
  rintro e w1 ⟨rfl,hw⟩
  rw [hw]
  clear hw
  go_wp2_with fail
  refine (acct_is H2.out _).mono ?_
  rintro e w2 ⟨rfl,hw⟩
  rw [hw]
  clear hw
  go_wp2
  go_ret
  exact ⟨one_bool HE.out.symm,bel⟩
 have H2:Hid _:=h2
 by_cases h3:a=b
 ·have HE:Hid (entryOk (a,b,c,m)=false):=by simp [Hid,entryOk,h3]
  have h3':(a != b)=false:=by simpa using h3
  clear h1 h2 h3
  go_enter Tryz.func261,Tryz.ntmps261
  go_wp2_with fail
  refine (acct_is H1.out _).mono ?_
  rintro e w1 ⟨rfl,hw⟩
  rw [hw]
  clear hw
  go_wp2_with fail
  refine (acct_is H2.out _).mono ?_
  rintro e w2 ⟨rfl,hw⟩
  rw [hw]
  clear hw
  go_wp2
  go_ret
  exact ⟨one_bool HE.out.symm,bel⟩
 have h3':(a != b)=true:=by simpa using h3
 have hx:∀ q:Bool,(decide (0≤digs c) && decide (1≤m∧m≤1000000000000))=q→entryOk (a,b,c,m)=q:=by
  intro q hq
  simp only [entryOk,h1,h2,Bool.true_and,decide_eq_true h3]
  exact hq
 obtain ⟨d,hd⟩:∃ d,digs c=d:=⟨_,rfl⟩
 have HD:Hid _:=hd
 by_cases h4:0≤d
 ·have HE:Hid (entryOk (a,b,c,m)=inB m 1 1000000000000):=hx _ (by rw [hd,decide_eq_true h4];rfl)
  clear hx hd h3 h1 h2
  go_enter Tryz.func261,Tryz.ntmps261
  go_wp2_with fail
  refine (acct_is H1.out _).mono ?_
  rintro e w1 ⟨rfl,hw⟩
  rw [hw]
  clear hw
  go_wp2_with fail
  refine (acct_is H2.out _).mono ?_
  rintro e w2 ⟨rfl,hw⟩
  rw [hw]
  clear hw
  go_wp2_with fail
  refine (digs_is _ d HD.out).mono ?_
  rintro e w3 ⟨rfl,b3⟩
  have x3:=(b3.cell (p:=⟨w.heap.size,3,none⟩) (by simp)).trans (show _=some (.int .i64 m) by simp)
  have q3:=bel.trans (b3.mono bel.size)
  clear b3 bel
  go_wp2_with fail
  refine (in_any _ _ _ _).mono ?_
  rintro e w4 ⟨rfl,hw⟩
  rw [hw]
  clear hw
  obtain ⟨q,hq⟩:∃ q,inB m 1 1000000000000=q:=⟨_,rfl⟩
  rw [hq]
  have HQ:Hid _:=hq
  clear hq
  go_wp2
  go_ret
  exact ⟨one_bool (by rw [HE.out,HQ.out]),q3⟩
 ·have HE:Hid (entryOk (a,b,c,m)=false):=hx _ (by rw [hd,decide_eq_false h4];rfl)
  clear hx hd h3 h1 h2
  go_enter Tryz.func261,Tryz.ntmps261
  go_wp2_with fail
  refine (acct_is H1.out _).mono ?_
  rintro e w1 ⟨rfl,hw⟩
  rw [hw]
  clear hw
  go_wp2_with fail
  refine (acct_is H2.out _).mono ?_
  rintro e w2 ⟨rfl,hw⟩
  rw [hw]
  clear hw
  go_wp2_with fail
  refine (digs_is _ d HD.out).mono ?_
  rintro e w3 ⟨rfl,b3⟩
  have q3:=bel.trans (b3.mono bel.size)
  clear b3 bel
  go_wp2
  go_ret
  exact ⟨one_bool HE.out.symm,q3⟩
end Go.Proofs.YtomiclakhjncbaaGreatDoor
