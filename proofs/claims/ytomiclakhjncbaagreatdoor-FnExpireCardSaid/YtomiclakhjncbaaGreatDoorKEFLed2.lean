import Derived.Test.YtomiclakhjncbaaGreatDoorJE1a
namespace Go.Proofs.YtomiclakhjncbaaGreatDoor
open Go.RowKit Go.Proofs.Tryz
set_option maxRecDepth 100000
set_option maxHeartbeats 12800000
theorem Ny (a:Int) (w:World):Calls prog 187 #[.int .i64 a] w fun e w'=>e=.returned (.bool false)∧w'=w:=by
 go_enter func187,ntmps187
 go_wp2;go_ret
 exact ⟨Aa (by simp),rfl⟩
theorem O8 (a b:Int) (w:World):Calls prog 151 #[.int .i64 a,.int .i64 b] w fun e w'=>e=.returned (.int .i64 (Qm a b))∧w'=w:=by
 by_cases h1:a<b
 ·have HE:Hid (Qm a b = -1):=if_pos h1
  go_enter func151,ntmps151
  go_wp2_with (go_at_call 187;refine (Ny _ _).mono ?_;rintro e w' ⟨rfl,rfl⟩)
  go_ret;exact ⟨Af HE.o.symm,rfl⟩
 ·by_cases h2:b<a
  ·have HE:Hid (Qm a b=1):=by rw [Hid,Qm,if_neg h1,if_pos h2]
   go_enter func151,ntmps151
   go_wp2_with (go_at_call 187;refine (Ny _ _).mono ?_;rintro e w' ⟨rfl,rfl⟩)
   go_ret;exact ⟨Af HE.o.symm,rfl⟩
  ·have HE:Hid (Qm a b=0):=by rw [Hid,Qm,if_neg h1,if_neg h2]
   go_enter func151,ntmps151
   go_wp2_with (go_at_call 187;refine (Ny _ _).mono ?_;rintro e w' ⟨rfl,rfl⟩)
   go_ret;exact ⟨Af HE.o.symm,rfl⟩
theorem rE (g:Nat) (x y:Int) (w:World) (c0:w.cell? ⟨g,0,none⟩=some (.int .i64 x)) (c1:w.cell? ⟨g,1,none⟩=some (.int .i64 y)) :
  Calls prog 150 #[.slice (some ⟨g,0,none⟩) 2 2] w fun e w'=>e=.returned (.int .i64 (oL x y))∧w'=w:=by
 by_cases h1:x=0
 ·have h1':(x != 0)=false:=by simpa using h1
  by_cases h2:y=0
  ·have h2':(y != 0)=false:=by simpa using h2
   have HE:Hid ((oL x y)=0):=by rw [Hid,oL,if_neg (fun h=>h h1),h2]
   clear h1 h2
   go_enter func150,ntmps150
   go_wp2;refine wp_loop_rounds 3 ?_;rw [rounds_succ];go_wp2;rw [rounds_succ];go_wp2;rw [rounds_succ];go_wp2;go_ret;exact ⟨Af HE.o.symm,rfl⟩
  ·have h2':(y != 0)=true:=by simpa using h2
   have HE:Hid ((oL x y)=y):=by rw [Hid,oL,if_neg (fun h=>h h1)]
   clear h1 h2
   go_enter func150,ntmps150
   go_wp2;refine wp_loop_rounds 2 ?_;rw [rounds_succ];go_wp2;rw [rounds_succ];go_wp2;go_ret;exact ⟨Af HE.o.symm,rfl⟩
 ·have h1':(x != 0)=true:=by simpa using h1
  have HE:Hid ((oL x y)=x):=if_pos h1;clear h1
  go_enter func150,ntmps150
  go_wp2;refine wp_loop_rounds 1 ?_;rw [rounds_succ];go_wp2;go_ret;exact ⟨Af HE.o.symm,rfl⟩
theorem aY (a c m:Int) (w:World) (hc:(Lit.int .i64 c).wf=true) :
  Calls prog 93 #[.agg #[.int .i64 a,.int .i64 c,.int .i64 m]] w fun e w'=>e=.returned (.bool (G7 (a,c,m)))∧BW w w':=by
 have bel:Below w.heap.size w (w.alloc (.cells #[.int .i64 a,.int .i64 c,.int .i64 m] 113)):=by go_grown
 have HC:Hid _:=hc;clear hc
 cases h1:Cb a
 ·have HE:Hid (G7 (a,c,m)=false):=by simp [Hid,G7,h1]
  have H1:Hid _:=h1;clear h1
  go_enter func93,ntmps93
  go_wp2_with fail
  refine (C9 H1.o _).mono ?_;rintro e w1 ⟨rfl,hw⟩;rw [hw];clear hw;go_wp2;go_ret;exact ⟨Aa HE.o.symm,bel⟩
 have H1:Hid _:=h1;obtain ⟨d,hd⟩:∃ d,Dc c=d:=⟨_,rfl⟩;have HD:Hid _:=hd
 have HE:Hid (G7 (a,c,m)=(decide (0≤d) && (fL m && decide (m≠0)))):=by simp only [Hid,G7,h1,hd,Bool.true_and]
 clear h1 hd
 go_enter func93,ntmps93
 go_wp2_with fail
 refine (C9 H1.o _).mono ?_;rintro e w1 ⟨rfl,hw⟩;rw [hw];clear hw;go_wp2_with fail
 refine (Rd _ d HD.o HC.o).mono ?_;rintro e w3 ⟨rfl,b3⟩
 have x3:=(b3.cell (p:=⟨w.heap.size,2,none⟩) (by simp)).trans (show _=some (.int .i64 m) by simp)
 have q3:=bel.trans (b3.mono bel.size);clear b3 bel
 by_cases h4:0≤d
 ·by_cases h5:m=0
  ·have HX:Hid (G7 (a,c,m)=false):=by rw [Hid,HE.o];simp [h5]
   have h5':(m != 0)=false:=by simpa using h5
   clear HE h5;go_wp2;go_ret;exact ⟨Aa HX.o.symm,q3⟩
  ·have HX:Hid (G7 (a,c,m)=fL m):=by rw [Hid,HE.o];simp [h4,h5]
   have h5':(m != 0)=true:=by simpa using h5
   clear HE h5;go_wp2_with fail
   refine (Uj _ _).mono ?_;rintro e w4 ⟨rfl,hw⟩;rw [hw];clear hw
   generalize fL m=q at HX
   go_wp2;go_ret;exact ⟨Aa HX.o.symm,q3⟩
 ·have HX:Hid (G7 (a,c,m)=false):=by rw [Hid,HE.o];simp [h4]
  clear HE;go_wp2;go_ret;exact ⟨Aa HX.o.symm,q3⟩
end Go.Proofs.YtomiclakhjncbaaGreatDoor
