/- The contracts of BookStart, the program's and the specification's. -/
import Derived.Test.YtlonjjliochbhaaJE10a
import Derived.Test.YtlonjjliochbhaaJE10b
import Derived.Handy
import Derived.Deep.DeepCutAuto
namespace Go.Proofs.Ytlonjjliochbhaa
open Go.RowKit
set_option maxRecDepth 100000

def bsOk (t : Int) (zs : List Int) : Bool := dOk t && offOk zs
def bsT (t : Int) (zs : List Int) : Int := if bsOk t zs = true then t else 0
def bsL (t : Int) (zs : List Int) : List Int := if bsOk t zs = true then zs else []
/-- a book with a day and its holidays, and nothing else -/
def bk0 (t : Int) (a : Option Addr) (n k : Nat) : Value := .agg #[.int .i64 t, .slice a n k, .slice none 0 0, .slice none 0 0, .slice none 0 0, .slice none 0 0]
def BsR (w : World) (t : Int) (zs : List Int) (e : Ending) (w' : World) : Prop :=
  ∃ a k, e = .returned (.tuple #[bk0 (bsT t zs) a (bsL t zs).length k, .bool (bsOk t zs)]) ∧ w'.ownsRow w.heap.size 3 1 (.slice a (bsL t zs).length k) (bsL t zs).length ((bsL t zs).map (Value.int .i64)) ∧ Below w.heap.size w w'
/-- six cells written -/
def put6 (u : World) (h : Nat) (a b c d e f : Value) : World := ((((((u.setCell ⟨h, 0, none⟩ a).setCell ⟨h, 1, none⟩ b).setCell ⟨h, 2, none⟩ c).setCell ⟨h, 3, none⟩ d).setCell ⟨h, 4, none⟩ e).setCell ⟨h, 5, none⟩ f)
theorem _root_.Go.RowKit.Below.put6 {w u : World} (h : Below w.heap.size w u) (a b c d e f : Value) : Below w.heap.size w (put6 u w.heap.size a b c d e f) :=
  (((((h.setCell (Nat.le_refl _) _).setCell (Nat.le_refl _) _).setCell (Nat.le_refl _) _).setCell (Nat.le_refl _) _).setCell (Nat.le_refl _) _).setCell (Nat.le_refl _) _
theorem bs_no {w u : World} {t : Int} {zs : List Int} (h : bsOk t zs = false) (b : Below w.heap.size w u) : BsR w t zs (.returned (.tuple #[bk0 0 none 0 0, .bool false])) u := by
  have e1 : bsT t zs = 0 := by simp [bsT, h]
  have e2 : bsL t zs = [] := by simp [bsL, h]
  refine ⟨none, 0, ?_, ?_, b⟩
  · rw [e1, e2, h]; rfl
  · rw [e2]; exact World.ownsRow_nil _ _ _ _

theorem lowerI {w : World} {base base' n : Nat} {v : Value} {xs : List Value} (h : w.ownsRow base 3 1 v n xs) (hb : base' ≤ base) : w.ownsRow base' 3 1 v n xs := by
  obtain ⟨h1, h2⟩ := h
  refine ⟨h1, ?_⟩
  rcases h2 with h2 | ⟨g, cap, cur, e1, e2, e3⟩
  · exact .inl h2
  · exact .inr ⟨g, cap, cur, e1, Nat.le_trans hb e2, e3⟩
theorem put6_grown (u : World) (h : Nat) (a b c d e f : Value) : u.grownBy (put6 u h a b c d e f) (some h) := by
  have g : ∀ (x : World) (k : Nat) (v : Value), x.grownBy (x.setCell ⟨h, k, none⟩ v) (some h) := fun x k v => ⟨rfl, rfl, rfl, by simp, fun j _ hj => Below.heap_setCell _ _ _ _ (fun e => hj (by rw [e]))⟩
  exact (((((g _ _ _).trans (g _ _ _)).trans (g _ _ _)).trans (g _ _ _)).trans (g _ _ _)).trans (g _ _ _)
theorem bs_yes {w u : World} {t : Int} {zs : List Int} {a : Option Addr} {k base : Nat} (h : bsOk t zs = true) (o : u.ownsRow base 3 1 (.slice a zs.length k) zs.length (zs.map (Value.int .i64))) (hb : w.heap.size + 1 ≤ base) (b : Below w.heap.size w u) :
    BsR w t zs (.returned (.tuple #[bk0 t a zs.length k, .bool true])) (put6 u w.heap.size (.int .i64 t) (.slice a zs.length k) (.slice none 0 0) (.slice none 0 0) (.slice none 0 0) (.slice none 0 0)) := by
  have e1 : bsT t zs = t := by simp [bsT, h]
  have e2 : bsL t zs = zs := by simp [bsL, h]
  refine ⟨a, k, ?_, ?_, b.put6 _ _ _ _ _ _⟩
  · rw [e1, e2, h]
  · rw [e2]
    exact lowerI (o.kept (put6_grown _ _ _ _ _ _ _ _) (.inr fun hh => by have := (o.lt _ hh).1; omega)) (by omega)


set_option maxHeartbeats 3200000 in
theorem sBStart_any (t : Int) (ao : Option Addr) (c : Nat) (zs : List Int) (w : World) (hx : IntsAt w ao zs) (hn : zs.length ≤ 1048576) :
    Calls Try.prog 19 #[.int .i64 t, .slice ao zs.length c] w (BsR w t zs) := by
  obtain ⟨W, hW⟩ : ∃ W, W = w.alloc (.cells #[.int .i64 0, .slice none 0 0, .slice none 0 0, .slice none 0 0, .slice none 0 0, .slice none 0 0] 32) := ⟨_, rfl⟩
  have c0 : W.cell? ⟨w.heap.size, 0, none⟩ = some (.int .i64 0) := by rw [hW]; simp
  have z0 : W.frozen? ⟨w.heap.size, 0, none⟩ = false := by rw [hW]; simp [go_sem]
  have c1 : W.cell? ⟨w.heap.size, 1, none⟩ = some (.slice none 0 0) := by rw [hW]; simp
  have z1 : W.frozen? ⟨w.heap.size, 1, none⟩ = false := by rw [hW]; simp [go_sem]
  have c2 : W.cell? ⟨w.heap.size, 2, none⟩ = some (.slice none 0 0) := by rw [hW]; simp
  have z2 : W.frozen? ⟨w.heap.size, 2, none⟩ = false := by rw [hW]; simp [go_sem]
  have c3 : W.cell? ⟨w.heap.size, 3, none⟩ = some (.slice none 0 0) := by rw [hW]; simp
  have z3 : W.frozen? ⟨w.heap.size, 3, none⟩ = false := by rw [hW]; simp [go_sem]
  have c4 : W.cell? ⟨w.heap.size, 4, none⟩ = some (.slice none 0 0) := by rw [hW]; simp
  have z4 : W.frozen? ⟨w.heap.size, 4, none⟩ = false := by rw [hW]; simp [go_sem]
  have c5 : W.cell? ⟨w.heap.size, 5, none⟩ = some (.slice none 0 0) := by rw [hW]; simp
  have z5 : W.frozen? ⟨w.heap.size, 5, none⟩ = false := by rw [hW]; simp [go_sem]
  have bW : Below w.heap.size w W := by rw [hW]; go_grown
  have hWs : W.heap.size = w.heap.size + 1 := by rw [hW]; simp
  have HW : Hid _ := hW
  have HX : Hid (IntsAt W ao zs) := hx.below bW
  have HBW : Hid (Below w.heap.size w W) := bW
  have HWS : Hid (W.heap.size = w.heap.size + 1) := hWs
  clear hx bW hWs hW
  have HDK : Hid (∀ u, Calls Try.prog 24 #[.int .i64 t] u fun e w' => e = .returned (.bool (dOk t)) ∧ w' = u) := fun u => sDayOk_any t u
  have HOK : Hid (Calls Try.prog 25 #[.slice ao zs.length c] W fun e w' => e = .returned (.bool (offOk zs)) ∧ Below W.heap.size W w') := sOff_any ao c zs W HX.out (by omega)
  cases hd : dOk t
  · have HB : Hid (bsOk t zs = false) := by simp [Hid, bsOk, hd]
    rw [hd] at HDK
    go_enter Try.func19, Try.ntmps19
    go_upto_region 1 with fail
    rw [← HW.out]
    go_wp2_with fail
    refine (HDK.out _).mono ?_
    rintro e w1 ⟨rfl, hw1⟩
    replace hw1 := hw1.symm
    subst hw1
    go_wp2
    refine bodyPost_ret (by simp [results, Try.results19, go_sem, c0, c1, c2, c3, c4, c5]; try rfl) rfl ?_
    exact bs_no HB.out (HBW.out.put6 _ _ _ _ _ _)
  · rw [hd] at HDK
    cases ho : offOk zs
    · have HB : Hid (bsOk t zs = false) := by simp [Hid, bsOk, ho]
      rw [ho] at HOK
      go_enter Try.func19, Try.ntmps19
      go_upto_region 1 with fail
      rw [← HW.out]
      go_wp2_with fail
      refine (HDK.out _).mono ?_
      rintro e w1 ⟨rfl, hw1⟩
      replace hw1 := hw1.symm
      subst hw1
      go_wp2_with fail
      refine HOK.out.mono ?_
      rintro e w2 ⟨rfl, b2⟩
      replace c0 := (b2.cell (p := ⟨w.heap.size, 0, none⟩) (by have := HWS.out; show w.heap.size < W.heap.size; omega)).trans c0
      replace z0 := (b2.frozen (p := ⟨w.heap.size, 0, none⟩) (by have := HWS.out; show w.heap.size < W.heap.size; omega)).trans z0
      replace c1 := (b2.cell (p := ⟨w.heap.size, 1, none⟩) (by have := HWS.out; show w.heap.size < W.heap.size; omega)).trans c1
      replace z1 := (b2.frozen (p := ⟨w.heap.size, 1, none⟩) (by have := HWS.out; show w.heap.size < W.heap.size; omega)).trans z1
      replace c2 := (b2.cell (p := ⟨w.heap.size, 2, none⟩) (by have := HWS.out; show w.heap.size < W.heap.size; omega)).trans c2
      replace z2 := (b2.frozen (p := ⟨w.heap.size, 2, none⟩) (by have := HWS.out; show w.heap.size < W.heap.size; omega)).trans z2
      replace c3 := (b2.cell (p := ⟨w.heap.size, 3, none⟩) (by have := HWS.out; show w.heap.size < W.heap.size; omega)).trans c3
      replace z3 := (b2.frozen (p := ⟨w.heap.size, 3, none⟩) (by have := HWS.out; show w.heap.size < W.heap.size; omega)).trans z3
      replace c4 := (b2.cell (p := ⟨w.heap.size, 4, none⟩) (by have := HWS.out; show w.heap.size < W.heap.size; omega)).trans c4
      replace z4 := (b2.frozen (p := ⟨w.heap.size, 4, none⟩) (by have := HWS.out; show w.heap.size < W.heap.size; omega)).trans z4
      replace c5 := (b2.cell (p := ⟨w.heap.size, 5, none⟩) (by have := HWS.out; show w.heap.size < W.heap.size; omega)).trans c5
      replace z5 := (b2.frozen (p := ⟨w.heap.size, 5, none⟩) (by have := HWS.out; show w.heap.size < W.heap.size; omega)).trans z5
      have HB2 : Hid (Below w.heap.size w w2) := next HBW.out b2
      have HX2 : Hid (IntsAt w2 ao zs) := HX.out.below b2
      have HS2 : Hid (w.heap.size + 1 ≤ w2.heap.size) := by have h1 := HWS.out; have h2 := b2.size; rw [Hid]; omega
      clear b2
      go_wp2
      refine bodyPost_ret (by simp [results, Try.results19, go_sem, c0, c1, c2, c3, c4, c5]; try rfl) rfl ?_
      exact bs_no HB.out (HB2.out.put6 _ _ _ _ _ _)
    · have HB : Hid (bsOk t zs = true) := by simp [Hid, bsOk, ho, hd]
      rw [ho] at HOK
      go_enter Try.func19, Try.ntmps19
      go_upto_region 1 with fail
      rw [← HW.out]
      go_wp2_with fail
      refine (HDK.out _).mono ?_
      rintro e w1 ⟨rfl, hw1⟩
      replace hw1 := hw1.symm
      subst hw1
      go_wp2_with fail
      refine HOK.out.mono ?_
      rintro e w2 ⟨rfl, b2⟩
      replace c0 := (b2.cell (p := ⟨w.heap.size, 0, none⟩) (by have := HWS.out; show w.heap.size < W.heap.size; omega)).trans c0
      replace z0 := (b2.frozen (p := ⟨w.heap.size, 0, none⟩) (by have := HWS.out; show w.heap.size < W.heap.size; omega)).trans z0
      replace c1 := (b2.cell (p := ⟨w.heap.size, 1, none⟩) (by have := HWS.out; show w.heap.size < W.heap.size; omega)).trans c1
      replace z1 := (b2.frozen (p := ⟨w.heap.size, 1, none⟩) (by have := HWS.out; show w.heap.size < W.heap.size; omega)).trans z1
      replace c2 := (b2.cell (p := ⟨w.heap.size, 2, none⟩) (by have := HWS.out; show w.heap.size < W.heap.size; omega)).trans c2
      replace z2 := (b2.frozen (p := ⟨w.heap.size, 2, none⟩) (by have := HWS.out; show w.heap.size < W.heap.size; omega)).trans z2
      replace c3 := (b2.cell (p := ⟨w.heap.size, 3, none⟩) (by have := HWS.out; show w.heap.size < W.heap.size; omega)).trans c3
      replace z3 := (b2.frozen (p := ⟨w.heap.size, 3, none⟩) (by have := HWS.out; show w.heap.size < W.heap.size; omega)).trans z3
      replace c4 := (b2.cell (p := ⟨w.heap.size, 4, none⟩) (by have := HWS.out; show w.heap.size < W.heap.size; omega)).trans c4
      replace z4 := (b2.frozen (p := ⟨w.heap.size, 4, none⟩) (by have := HWS.out; show w.heap.size < W.heap.size; omega)).trans z4
      replace c5 := (b2.cell (p := ⟨w.heap.size, 5, none⟩) (by have := HWS.out; show w.heap.size < W.heap.size; omega)).trans c5
      replace z5 := (b2.frozen (p := ⟨w.heap.size, 5, none⟩) (by have := HWS.out; show w.heap.size < W.heap.size; omega)).trans z5
      have HB2 : Hid (Below w.heap.size w w2) := next HBW.out b2
      have HX2 : Hid (IntsAt w2 ao zs) := HX.out.below b2
      have HS2 : Hid (w.heap.size + 1 ≤ w2.heap.size) := by have h1 := HWS.out; have h2 := b2.size; rw [Hid]; omega
      clear b2
      have HOE : Hid ((w2.alloc (.cells #[] 3)).ownsRow (w.heap.size + 1) 3 1 (.slice (some ⟨w2.heap.size, 0, none⟩) 0 0) 0 []) := World.ownsRow_lit w2 #[] 0 HS2.out (by unfold maxLen; omega) rfl
      go_wp2_with (at_builtin; refine wpList_append_intsAt _ rfl (.tmp 16) (.tmp 17) rfl (w.heap.size + 1) _ 0 [] rfl HOE.out ao c zs rfl (HX2.out.below ((Below.refl _ _).alloc (Nat.le_refl _) _)) (by omega) (by have := HS2.out; simp; omega) ?_; intro v3 w3 o3 g3; obtain ⟨a2, k2, hv3⟩ := own_shape o3; rw [Nat.zero_add] at hv3; subst hv3; rw [Nat.zero_add, List.nil_append] at o3; have bb : Below w2.heap.size w2 w3 := ((Below.refl _ _).alloc (Nat.le_refl _) _).grown g3 (by simp) (fun j hj => by have hj2 : some w2.heap.size = some j := hj; injection hj2 with hj2; omega); replace c0 := (bb.cell (p := ⟨w.heap.size, 0, none⟩) (by have := HS2.out; show w.heap.size < w2.heap.size; omega)).trans c0; replace z0 := (bb.frozen (p := ⟨w.heap.size, 0, none⟩) (by have := HS2.out; show w.heap.size < w2.heap.size; omega)).trans z0; replace c1 := (bb.cell (p := ⟨w.heap.size, 1, none⟩) (by have := HS2.out; show w.heap.size < w2.heap.size; omega)).trans c1; replace z1 := (bb.frozen (p := ⟨w.heap.size, 1, none⟩) (by have := HS2.out; show w.heap.size < w2.heap.size; omega)).trans z1; replace c2 := (bb.cell (p := ⟨w.heap.size, 2, none⟩) (by have := HS2.out; show w.heap.size < w2.heap.size; omega)).trans c2; replace z2 := (bb.frozen (p := ⟨w.heap.size, 2, none⟩) (by have := HS2.out; show w.heap.size < w2.heap.size; omega)).trans z2; replace c3 := (bb.cell (p := ⟨w.heap.size, 3, none⟩) (by have := HS2.out; show w.heap.size < w2.heap.size; omega)).trans c3; replace z3 := (bb.frozen (p := ⟨w.heap.size, 3, none⟩) (by have := HS2.out; show w.heap.size < w2.heap.size; omega)).trans z3; replace c4 := (bb.cell (p := ⟨w.heap.size, 4, none⟩) (by have := HS2.out; show w.heap.size < w2.heap.size; omega)).trans c4; replace z4 := (bb.frozen (p := ⟨w.heap.size, 4, none⟩) (by have := HS2.out; show w.heap.size < w2.heap.size; omega)).trans z4; replace c5 := (bb.cell (p := ⟨w.heap.size, 5, none⟩) (by have := HS2.out; show w.heap.size < w2.heap.size; omega)).trans c5; replace z5 := (bb.frozen (p := ⟨w.heap.size, 5, none⟩) (by have := HS2.out; show w.heap.size < w2.heap.size; omega)).trans z5)
      have HB3 : Hid (Below w.heap.size w w3) := next HB2.out bb
      have HO3 : Hid (w3.ownsRow (w.heap.size + 1) 3 1 (.slice a2 zs.length k2) zs.length (zs.map (Value.int .i64))) := o3
      clear bb o3 g3 HOE
      go_wp2
      refine bodyPost_ret (by simp [results, Try.results19, go_sem, c0, c1, c2, c3, c4, c5]; try rfl) rfl ?_
      exact bs_yes HB.out HO3.out (Nat.le_refl _) HB3.out

end Go.Proofs.Ytlonjjliochbhaa
