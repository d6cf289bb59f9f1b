import Derived.Test.YtomiclakhjncbaaGreatDoorJA1a
import Derived.Deep.RegionLaw
import Derived.Deep.DeepCutAuto
namespace Go.Proofs.YtomiclakhjncbaaGreatDoor
open Go.RowKit
set_option maxRecDepth 100000
set_option maxHeartbeats 12800000
theorem isNaN_any (a:Int) (w:World):Calls Tryz.prog 187 #[.int .i64 a] w fun e w'=>e=.returned (.bool false)∧w'=w:=by
 go_enter Tryz.func187,Tryz.ntmps187
 go_wp2
 go_ret
 exact ⟨one_bool (by simp),rfl⟩
theorem compare_any (a b:Int) (w:World):Calls Tryz.prog 151 #[.int .i64 a,.int .i64 b] w fun e w'=>e=.returned (.int .i64 (cmpI a b))∧w'=w:=by
 by_cases h1:a<b
 ·have HE:Hid (cmpI a b = -1):=if_pos h1
  go_enter Tryz.func151,Tryz.ntmps151
  go_wp2_with (go_at_call 187;refine (isNaN_any _ _).mono ?_;rintro e w' ⟨rfl,rfl⟩)
  go_ret
  exact ⟨one_int HE.out.symm,rfl⟩
 ·by_cases h2:b<a
  ·have HE:Hid (cmpI a b=1):=by rw [Hid,cmpI,if_neg h1,if_pos h2]
   go_enter Tryz.func151,Tryz.ntmps151
   go_wp2_with (go_at_call 187;refine (isNaN_any _ _).mono ?_;rintro e w' ⟨rfl,rfl⟩)
   go_ret
   exact ⟨one_int HE.out.symm,rfl⟩
  ·have HE:Hid (cmpI a b=0):=by rw [Hid,cmpI,if_neg h1,if_neg h2]
   go_enter Tryz.func151,Tryz.ntmps151
   go_wp2_with (go_at_call 187;refine (isNaN_any _ _).mono ?_;rintro e w' ⟨rfl,rfl⟩)
   go_ret
   exact ⟨one_int HE.out.symm,rfl⟩
theorem or_any (g:Nat) (x y:Int) (w:World) (c0:w.cell? ⟨g,0,none⟩=some (.int .i64 x)) (c1:w.cell? ⟨g,1,none⟩=some (.int .i64 y)) :
  Calls Tryz.prog 150 #[.slice (some ⟨g,0,none⟩) 2 2] w fun e w'=>e=.returned (.int .i64 (orI x y))∧w'=w:=by
 by_cases h1:x=0
 ·have h1':(x != 0)=false:=by simpa using h1
  by_cases h2:y=0
  ·have h2':(y != 0)=false:=by simpa using h2
   have HE:Hid ((orI x y)=0):=by rw [Hid,orI,if_neg (fun h=>h h1),h2]
   clear h1 h2
   go_enter Tryz.func150,Tryz.ntmps150
   go_wp2
   refine wp_loop_rounds 3 ?_
   rw [rounds_succ]
   go_wp2
   rw [rounds_succ]
   go_wp2
   rw [rounds_succ]
   go_wp2
   go_ret
   exact ⟨one_int HE.out.symm,rfl⟩
  ·have h2':(y != 0)=true:=by simpa using h2
   have HE:Hid ((orI x y)=y):=by rw [Hid,orI,if_neg (fun h=>h h1)]
   clear h1 h2
   go_enter Tryz.func150,Tryz.ntmps150
   go_wp2
   refine wp_loop_rounds 2 ?_
   rw [rounds_succ]
   go_wp2
   rw [rounds_succ]
   go_wp2
   go_ret
   exact ⟨one_int HE.out.symm,rfl⟩
 ·have h1':(x != 0)=true:=by simpa using h1
  have HE:Hid ((orI x y)=x):=if_pos h1
  clear h1
  go_enter Tryz.func150,Tryz.ntmps150
  go_wp2
  refine wp_loop_rounds 1 ?_
  rw [rounds_succ]
  go_wp2
  go_ret
  exact ⟨one_int HE.out.symm,rfl⟩
theorem lineOk_any (a c m:Int) (w:World) (hc:(Lit.int .i64 c).wf=true) :
  Calls Tryz.prog 93 #[.agg #[.int .i64 a,.int .i64 c,.int .i64 m]] w fun e w'=>e=.returned (.bool (lnOk (a,c,m)))∧Below w.heap.size w w':=by
 have bel:Below w.heap.size w (w.alloc (.cells #[.int .i64 a,.int .i64 c,.int .i64 m] 113)):=by go_grown
 have HC:Hid _:=hc
 clear hc
 cases h1:acctOk a
 ·have HE:Hid (lnOk (a,c,m)=false):=by simp [Hid,lnOk,h1]
  have H1:Hid _:=h1
  clear h1
  go_enter Tryz.func93,Tryz.ntmps93
  go_wp2_with fail
  refine (iAcct_is H1.out _).mono ?_
  rintro e w1 ⟨rfl,hw⟩
  rw [hw]
  clear hw
  go_wp2
  go_ret
  exact ⟨one_bool HE.out.symm,bel⟩
 have H1:Hid _:=h1
 obtain ⟨d,hd⟩:∃ d,digs c=d:=⟨_,rfl⟩
 have HD:Hid _:=hd
 have HE:Hid (lnOk (a,c,m)=(decide (0≤d) && (mOk m && decide (m≠0)))):=by simp only [Hid,lnOk,h1,hd,Bool.true_and]
 clear h1 hd
 go_enter Tryz.func93,Tryz.ntmps93
 go_wp2_with fail
 refine (iAcct_is H1.out _).mono ?_
 rintro e w1 ⟨rfl,hw⟩
 rw [hw]
 clear hw
 go_wp2_with fail
 refine (iDigs_is _ d HD.out HC.out).mono ?_
 rintro e w3 ⟨rfl,b3⟩
 have x3:=(b3.cell (p:=⟨w.heap.size,2,none⟩) (by simp)).trans (show _=some (.int .i64 m) by simp)
 have q3:=bel.trans (b3.mono bel.size)
 clear b3 bel
 by_cases h4:0≤d
 ·by_cases h5:m=0
  ·have HX:Hid (lnOk (a,c,m)=false):=by rw [Hid,HE.out];simp [h5]
   have h5':(m != 0)=false:=by simpa using h5
   clear HE h5
   go_wp2
   go_ret
   exact ⟨one_bool HX.out.symm,q3⟩
  ·have HX:Hid (lnOk (a,c,m)=mOk m):=by rw [Hid,HE.out];simp [h4,h5]
   have h5':(m != 0)=true:=by simpa using h5
   clear HE h5
   go_wp2_with fail
   refine (iMoneyOk_any _ _).mono ?_
   rintro e w4 ⟨rfl,hw⟩
   rw [hw]
   clear hw
   generalize mOk m=q at HX
   go_wp2
   go_ret
   exact ⟨one_bool HX.out.symm,q3⟩
 ·have HX:Hid (lnOk (a,c,m)=false):=by rw [Hid,HE.out];simp [h4]
  clear HE
  go_wp2
  go_ret
  exact ⟨one_bool HX.out.symm,q3⟩
end Go.Proofs.YtomiclakhjncbaaGreatDoor
