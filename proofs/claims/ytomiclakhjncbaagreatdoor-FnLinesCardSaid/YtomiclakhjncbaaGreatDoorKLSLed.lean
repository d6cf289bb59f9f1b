import Derived.Test.YtomiclakhjncbaaGreatDoorJL0a
import Derived.Test.YtomiclakhjncbaaGreatDoorJL1a
import Derived.Handy
import Derived.Deep.RegionHeld3
namespace Go.Proofs.YtomiclakhjncbaaGreatDoor
open Go.RowKit Go.Proofs.Tryz
set_option maxRecDepth 100000
set_option maxHeartbeats 12800000
theorem Ro (a:Int) (w:World) :
  Calls prog 216 #[.int .i64 a] w fun e w'=>e=.returned (.bool (Cb a))∧w'=w:=by
 go_enter func216,ntmps216
 go_wp2_with fail
 refine (Dl _ _ _ _).mono ?_;rintro e w1 ⟨rfl,hw⟩;rw [hw];go_wp2;go_ret;exact ⟨rfl,rfl⟩
theorem Do {a:Int} {q:Bool} (h:Cb a=q) (w:World):Calls prog 216 #[.int .i64 a] w fun e w'=>e=.returned (.bool q)∧w'=w:=by rw [← h];exact Ro a w
theorem dT (a b c m:Int) (w:World) :
  Calls prog 265 #[.agg #[.int .i64 a,.int .i64 b,.int .i64 c,.int .i64 m]] w fun e w'=>e=.returned (.agg #[.int .i64 b,.int .i64 a,.int .i64 c,.int .i64 m])∧BW w w':=by
 go_enter func265,ntmps265
 go_wp2
 go_returns
 refine ⟨rfl,?_⟩
 go_grown
theorem Jf {c:Int} (w:World) (d:Int) (h:Dc c=d):Calls prog 217 #[.int .i64 c] w fun e w'=>e=.returned (.int .i64 d)∧BW w w':=by rw [← h];exact Ga c w
theorem Nf (a b c m:Int) (w:World) :
  Calls prog 261 #[.agg #[.int .i64 a,.int .i64 b,.int .i64 c,.int .i64 m]] w fun e w'=>e=.returned (.bool (Bt (a,b,c,m)))∧BW w w':=by
 have bel:Below w.heap.size w (w.alloc (.cells #[.int .i64 a,.int .i64 b,.int .i64 c,.int .i64 m] 269)):=by go_grown
 cases h1:Cb a
 ·have HE:Hid (Bt (a,b,c,m)=false):=by simp [Hid,Bt,h1]
  have H1:Hid _:=h1;clear h1
  go_enter func261,ntmps261
  go_wp2_with fail
  refine (Do H1.o _).mono ?_;rintro e w1 ⟨rfl,hw⟩;rw [hw];clear hw;go_wp2;go_ret;exact ⟨Aa HE.o.symm,bel⟩
 have H1:Hid _:=h1
 cases h2:Cb b
 ·have HE:Hid (Bt (a,b,c,m)=false):=by simp [Hid,Bt,h2]
  have H2:Hid _:=h2;clear h1 h2
  go_enter func261,ntmps261
  go_wp2_with fail
  refine (Do H1.o _).mono ?_;rintro e w1 ⟨rfl,hw⟩;rw [hw];clear hw;go_wp2_with fail
  refine (Do H2.o _).mono ?_;rintro e w2 ⟨rfl,hw⟩;rw [hw];clear hw;go_wp2;go_ret;exact ⟨Aa HE.o.symm,bel⟩
 have H2:Hid _:=h2
 by_cases h3:a=b
 ·have HE:Hid (Bt (a,b,c,m)=false):=by simp [Hid,Bt,h3]
  have h3':(a != b)=false:=by simpa using h3
  clear h1 h2 h3
  go_enter func261,ntmps261
  go_wp2_with fail
  refine (Do H1.o _).mono ?_;rintro e w1 ⟨rfl,hw⟩;rw [hw];clear hw;go_wp2_with fail
  refine (Do H2.o _).mono ?_;rintro e w2 ⟨rfl,hw⟩;rw [hw];clear hw;go_wp2;go_ret;exact ⟨Aa HE.o.symm,bel⟩
 have h3':(a != b)=true:=by simpa using h3
 have hx:∀ q:Bool,(decide (0≤Dc c) && decide (1≤m∧m≤1000000000000))=q→Bt (a,b,c,m)=q:=by
  intro q hq
  simp only [Bt,h1,h2,Bool.true_and,decide_eq_true h3]
  exact hq
 obtain ⟨d,hd⟩:∃ d,Dc c=d:=⟨_,rfl⟩;have HD:Hid _:=hd
 by_cases h4:0≤d
 ·have HE:Hid (Bt (a,b,c,m)=Gk m 1 1000000000000):=hx _ (by rw [hd,decide_eq_true h4];rfl)
  clear hx hd h3 h1 h2
  go_enter func261,ntmps261
  go_wp2_with fail
  refine (Do H1.o _).mono ?_;rintro e w1 ⟨rfl,hw⟩;rw [hw];clear hw;go_wp2_with fail
  refine (Do H2.o _).mono ?_;rintro e w2 ⟨rfl,hw⟩;rw [hw];clear hw;go_wp2_with fail
  refine (Jf _ d HD.o).mono ?_;rintro e w3 ⟨rfl,b3⟩
  have x3:=(b3.cell (p:=⟨w.heap.size,3,none⟩) (by simp)).trans (show _=some (.int .i64 m) by simp)
  have q3:=bel.trans (b3.mono bel.size);clear b3 bel;go_wp2_with fail
  refine (Dl _ _ _ _).mono ?_;rintro e w4 ⟨rfl,hw⟩;rw [hw];clear hw;obtain ⟨q,hq⟩:∃ q,Gk m 1 1000000000000=q:=⟨_,rfl⟩;rw [hq];have HQ:Hid _:=hq;clear hq;go_wp2;go_ret
  exact ⟨Aa (by rw [HE.o,HQ.o]),q3⟩
 ·have HE:Hid (Bt (a,b,c,m)=false):=hx _ (by rw [hd,decide_eq_false h4];rfl)
  clear hx hd h3 h1 h2
  go_enter func261,ntmps261
  go_wp2_with fail
  refine (Do H1.o _).mono ?_;rintro e w1 ⟨rfl,hw⟩;rw [hw];clear hw;go_wp2_with fail
  refine (Do H2.o _).mono ?_;rintro e w2 ⟨rfl,hw⟩;rw [hw];clear hw;go_wp2_with fail
  refine (Jf _ d HD.o).mono ?_;rintro e w3 ⟨rfl,b3⟩;have q3:=bel.trans (b3.mono bel.size);clear b3 bel;go_wp2;go_ret;exact ⟨Aa HE.o.symm,q3⟩
end Go.Proofs.YtomiclakhjncbaaGreatDoor
