/- A line that is drawn for a book whose parties are small numbers: its parties are small numbers too. -/
import Derived.Test.YtlonjjliochbhaaKE1LnD
import Derived.Test.YtlonjjliochbhaaGdW
namespace Go.Proofs.Ytlonjjliochbhaa
open Go.RowKit
set_option maxRecDepth 100000

structure LT (B g : Nat) (w : World) (b : Bk) (p : Bp) (T : Nat) (v1 v2 v3 : Value) (u : World) : Prop where
  ls : LS B g w b p u
  s : u.cell? ⟨T, 1, none⟩ = some v1 ∧ u.cell? ⟨T, 2, none⟩ = some v2 ∧ u.cell? ⟨T, 3, none⟩ = some v3
  ne : T ≠ g
theorem LT.call {B g : Nat} {w : World} {b : Bk} {p : Bp} {T : Nat} {v1 v2 v3 : Value} {u u' : World} (q : LT B g w b p T v1 v2 v3 u) (c : Cursor B u' g) (r : u.grownBy u' (some g)) : LT B g w b p T v1 v2 v3 u' :=
  ⟨q.ls.call c r, ⟨r.cell (a := ⟨T, 1, none⟩) q.s.1 (by have := q.ne; simp; omega), r.cell (a := ⟨T, 2, none⟩) q.s.2.1 (by have := q.ne; simp; omega), r.cell (a := ⟨T, 3, none⟩) q.s.2.2 (by have := q.ne; simp; omega)⟩, q.ne⟩
theorem LT.below {B g : Nat} {w : World} {b : Bk} {p : Bp} {T : Nat} {v1 v2 v3 : Value} {u u' : World} (q : LT B g w b p T v1 v2 v3 u) (h : Below u.heap.size u u') : LT B g w b p T v1 v2 v3 u' := q.call (cursor_below q.ls.cu h) (grown_ofL h _)
theorem LT.drew {B g : Nat} {w : World} {b : Bk} {p : Bp} {T : Nat} {v1 v2 v3 : Value} {u : World} (q : LT B g w b p T v1 v2 v3 u) : LT B g w b p T v1 v2 v3 u.drew := q.below ((Below.refl _ _).drew)
theorem qLTBelow {B g : Nat} {w : World} {b : Bk} {p : Bp} {T : Nat} {v1 v2 v3 : Value} {u : World} (q : LT B g w b p T v1 v2 v3 u) (n : Int) (hn : n ≤ 1099511627776) :
    Calls Try.prog 16 #[.pointer (some ⟨g, 0, none⟩), .int .i64 n] u fun e u' => ∃ x : Int, e = .returned (.int .i64 x) ∧ LT B g w b p T v1 v2 v3 u' :=
  (below_any g n u q.ls.cu hn).mono (by rintro e u' ⟨x, h1, h2, h3, c, r⟩; exact ⟨x, h1, q.call c r⟩)
theorem qLTOnce {B g : Nat} {w : World} {b : Bk} {p : Bp} {T : Nat} {v1 v2 v3 : Value} {u : World} (q : LT B g w b p T v1 v2 v3 u) (n : Int) (hn : n ≤ 1099511627776) :
    Calls Try.prog 30 #[.pointer (some ⟨g, 0, none⟩), .int .i64 n] u fun e u' => ∃ x : Bool, e = .returned (.bool x) ∧ LT B g w b p T v1 v2 v3 u' :=
  (once_any g n u q.ls.cu hn).mono (by rintro e u' ⟨x, h1, c, r⟩; exact ⟨x, h1, q.call c r⟩)
structure LA (B g : Nat) (w : World) (T : Nat) (v0 v1 v2 : Value) (u : World) : Prop where
  cu : Cursor B u g
  gr : w.grownBy u (some g)
  s : u.cell? ⟨T, 0, none⟩ = some v0 ∧ u.cell? ⟨T, 1, none⟩ = some v1 ∧ u.cell? ⟨T, 2, none⟩ = some v2
  z : u.frozen? ⟨T, 0, none⟩ = false ∧ u.frozen? ⟨T, 1, none⟩ = false ∧ u.frozen? ⟨T, 2, none⟩ = false
  hT : B ≤ T
  hw : w.heap.size ≤ T
theorem LA.below {B g : Nat} {w : World} {T : Nat} {v0 v1 v2 : Value} {u u' : World} (q : LA B g w T v0 v1 v2 u) (h : Below u.heap.size u u') : LA B g w T v0 v1 v2 u' := by
  have l := World.block_lt_of_cell? u _ q.s.1
  exact ⟨cursor_below q.cu h, q.gr.trans (grown_ofL h _), ⟨(h.cell l).trans q.s.1, (h.cell (p := ⟨T, 1, none⟩) l).trans q.s.2.1, (h.cell (p := ⟨T, 2, none⟩) l).trans q.s.2.2⟩, ⟨(h.frozen (p := ⟨T, 0, none⟩) l).trans q.z.1, (h.frozen (p := ⟨T, 1, none⟩) l).trans q.z.2.1, (h.frozen (p := ⟨T, 2, none⟩) l).trans q.z.2.2⟩, q.hT, q.hw⟩
theorem LA.drew {B g : Nat} {w : World} {T : Nat} {v0 v1 v2 : Value} {u : World} (q : LA B g w T v0 v1 v2 u) : LA B g w T v0 v1 v2 u.drew := q.below ((Below.refl _ _).drew)
theorem LA.at {B g : Nat} {w : World} {T : Nat} {v0 v1 v2 y0 y1 y2 : Value} {u : World} (q : LA B g w T v0 v1 v2 u) (i : Nat) (x : Value) (e : (u.setCell ⟨T, i, none⟩ x).cell? ⟨T, 0, none⟩ = some y0 ∧ (u.setCell ⟨T, i, none⟩ x).cell? ⟨T, 1, none⟩ = some y1 ∧ (u.setCell ⟨T, i, none⟩ x).cell? ⟨T, 2, none⟩ = some y2) : LA B g w T y0 y1 y2 (u.setCell ⟨T, i, none⟩ x) := by
  have hw := q.hw
  refine ⟨cursor_keep q.cu ((Below.refl B u).setCell q.hT _), ⟨q.gr.os, q.gr.tape, q.gr.output, by simpa using q.gr.size, fun k hk hne => (Below.heap_setCell _ _ _ _ (by simp only; omega)).trans (q.gr.block k hk hne)⟩, e, ⟨?_, ?_, ?_⟩, q.hT, q.hw⟩
  · rw [World.frozen?_setCell]; exact q.z.1
  · rw [World.frozen?_setCell]; exact q.z.2.1
  · rw [World.frozen?_setCell]; exact q.z.2.2
theorem LA.zero {B g : Nat} {w : World} {T : Nat} {v0 v1 v2 : Value} {u : World} (q : LA B g w T v0 v1 v2 u) (x0 x1 x2 : Value) : LA B g w T x0 x1 x2 (((u.setCell ⟨T, 0, none⟩ x0).setCell ⟨T, 1, none⟩ x1).setCell ⟨T, 2, none⟩ x2) := by
  have q0 := q.at (y0 := x0) (y1 := v1) (y2 := v2) 0 x0 ⟨World.cell?_setCell_same _ _ _ q.s.1, by rw [World.cell?_setCell_other _ _ _ _ (by simp)]; exact q.s.2.1, by rw [World.cell?_setCell_other _ _ _ _ (by simp)]; exact q.s.2.2⟩
  have q1 := q0.at (y0 := x0) (y1 := x1) (y2 := v2) 1 x1 ⟨by rw [World.cell?_setCell_other _ _ _ _ (by simp)]; exact q0.s.1, World.cell?_setCell_same _ _ _ q0.s.2.1, by rw [World.cell?_setCell_other _ _ _ _ (by simp)]; exact q0.s.2.2⟩
  exact q1.at (y0 := x0) (y1 := x1) (y2 := x2) 2 x2 ⟨by rw [World.cell?_setCell_other _ _ _ _ (by simp)]; exact q1.s.1, by rw [World.cell?_setCell_other _ _ _ _ (by simp)]; exact q1.s.2.1, World.cell?_setCell_same _ _ _ q1.s.2.2⟩
theorem la_end {B g : Nat} {w : World} {T : Nat} {v0 v1 v2 : Value} {u : World} {s : ByteArray} (q : LA B g w T v0 v1 v2 u) (h : s.size ≤ 400) : LnR B g w (.returned (.string s)) u :=
  ⟨s.data.toList, by cases s; simp, by cases s; simpa [ByteArray.size] using h, q.cu, q.gr⟩
theorem cat2 (A D : ByteArray) (n : Nat) (hA : A.size ≤ n) (hn : n ≤ 1000) (hD : D.size ≤ 30) : ∃ C E : ByteArray, (∀ w, (Op.stringOp .add A D).run Try.prog w = .ok (.string C) w) ∧ (∀ w, (Op.stringOp .add C ⟨#[32]⟩).run Try.prog w = .ok (.string E) w) ∧ C.size ≤ n + 30 ∧ E.size ≤ n + 31 :=
  ⟨A ++ D, (A ++ D) ++ ⟨#[32]⟩, fun w => run_string_add_sum w A D (by omega), fun w => run_string_add_sum w _ _ (by rw [ba_cat]; have : (⟨#[32]⟩ : ByteArray).size = 1 := rfl; omega), by rw [ba_cat]; omega, by rw [ba_cat, ba_cat]; have : (⟨#[32]⟩ : ByteArray).size = 1 := rfl; omega⟩
theorem actsW_len (k : Nat) : (nth actsW k).length ≤ 10 := by
  by_cases h : k < 10
  · rcases (show k = 0 ∨ k = 1 ∨ k = 2 ∨ k = 3 ∨ k = 4 ∨ k = 5 ∨ k = 6 ∨ k = 7 ∨ k = 8 ∨ k = 9 by omega) with rfl | rfl | rfl | rfl | rfl | rfl | rfl | rfl | rfl | rfl <;> decide
  · have : nth actsW k = [] := by simp [nth, actsW, List.getD_eq_getElem?_getD]; rw [List.getElem?_eq_none (by simp; omega)]; rfl
    rw [this]; simp
def GD (D : ByteArray) : Prop := NoB D.data.toList ∧ numOf D.data.toList ≤ 8
def LnG (B g : Nat) (w : World) (e : Ending) (u : World) : Prop :=
  ∃ l : List UInt8, e = .returned (.string ⟨l.toArray⟩) ∧ l.length ≤ 400 ∧ GoodL l ∧ Cursor B u g ∧ w.grownBy u (some g)
theorem ln_endG {B g : Nat} {w : World} {b : Bk} {p : Bp} {u : World} {s : ByteArray} (q : LS B g w b p u) (h : s.size ≤ 400) (hg : GoodL s.data.toList) : LnG B g w (.returned (.string s)) u :=
  ⟨s.data.toList, by cases s; simp, by cases s; simpa [ByteArray.size] using h, hg, q.cu, q.gr⟩
theorem la_endG {B g : Nat} {w : World} {T : Nat} {v0 v1 v2 : Value} {u : World} {s : ByteArray} (q : LA B g w T v0 v1 v2 u) (h : s.size ≤ 400) (hg : GoodL s.data.toList) : LnG B g w (.returned (.string s)) u :=
  ⟨s.data.toList, by cases s; simp, by cases s; simpa [ByteArray.size] using h, hg, q.cu, q.gr⟩
theorem baL (a b : ByteArray) : (a ++ b).data.toList = a.data.toList ++ b.data.toList := by simp
theorem cat2g (A D : ByteArray) (n : Nat) (hA : A.size ≤ n) (hn : n ≤ 1000) (hD : D.size ≤ 30) : ∃ C E : ByteArray, (∀ w, (Op.stringOp .add A D).run Try.prog w = .ok (.string C) w) ∧ (∀ w, (Op.stringOp .add C ⟨#[32]⟩).run Try.prog w = .ok (.string E) w) ∧ C.size ≤ n + 30 ∧ E.size ≤ n + 31 ∧ Hid (C = A ++ D ∧ E = A ++ D ++ ⟨#[32]⟩) :=
  ⟨A ++ D, (A ++ D) ++ ⟨#[32]⟩, fun w => run_string_add_sum w A D (by omega), fun w => run_string_add_sum w _ _ (by rw [ba_cat]; have : (⟨#[32]⟩ : ByteArray).size = 1 := rfl; omega), by rw [ba_cat]; omega, by rw [ba_cat, ba_cat]; have : (⟨#[32]⟩ : ByteArray).size = 1 := rfl; omega, ⟨rfl, rfl⟩⟩
theorem good_act4 {D1 D2 D3 D4 C1 C2 C3 C4 E1 E2 E3 E4 : ByteArray} (h1 : Hid (C1 = ⟨#[97, 99, 116, 32]⟩ ++ D1 ∧ E1 = ⟨#[97, 99, 116, 32]⟩ ++ D1 ++ ⟨#[32]⟩)) (h2 : Hid (C2 = E1 ++ D2 ∧ E2 = E1 ++ D2 ++ ⟨#[32]⟩)) (h3 : Hid (C3 = E2 ++ D3 ∧ E3 = E2 ++ D3 ++ ⟨#[32]⟩)) (h4 : Hid (C4 = E3 ++ D4 ∧ E4 = E3 ++ D4 ++ ⟨#[32]⟩)) : GoodL C4.data.toList := by
  have e : C4.data.toList = [97, 99, 116] ++ 32 :: (D1.data.toList ++ [32] ++ D2.data.toList ++ [32] ++ D3.data.toList ++ [32] ++ D4.data.toList) := by
    rw [h4.out.1, h3.out.2, h2.out.2, h1.out.2]
    simp only [baL]
    simp
  rw [e]
  exact good_other (noB_of (by decide)) (by decide) (by decide) _
theorem good_pay4 {D1 D2 D3 D4 C1 C2 C3 C4 E1 E2 E3 E4 : ByteArray} (h1 : Hid (C1 = ⟨#[112, 97, 121, 32]⟩ ++ D1 ∧ E1 = ⟨#[112, 97, 121, 32]⟩ ++ D1 ++ ⟨#[32]⟩)) (h2 : Hid (C2 = E1 ++ D2 ∧ E2 = E1 ++ D2 ++ ⟨#[32]⟩)) (h3 : Hid (C3 = E2 ++ D3 ∧ E3 = E2 ++ D3 ++ ⟨#[32]⟩)) (h4 : Hid (C4 = E3 ++ D4 ∧ E4 = E3 ++ D4 ++ ⟨#[32]⟩)) (g1 : Hid (GD D1)) (g2 : Hid (GD D2)) : GoodL C4.data.toList := by
  have e : C4.data.toList = [112, 97, 121] ++ 32 :: (D1.data.toList ++ 32 :: (D2.data.toList ++ 32 :: (D3.data.toList ++ [32] ++ D4.data.toList))) := by
    rw [h4.out.1, h3.out.2, h2.out.2, h1.out.2]
    simp only [baL]
    simp
  rw [e]
  exact good_pay g1.out.1 g2.out.1 g1.out.2 g2.out.2 _
theorem good_dayB (D : ByteArray) : GoodL ((⟨#[100, 97, 121, 32]⟩ : ByteArray) ++ D).data.toList := by
  have e : ((⟨#[100, 97, 121, 32]⟩ : ByteArray) ++ D).data.toList = [100, 97, 121] ++ 32 :: D.data.toList := by rw [baL]; rfl
  rw [e]
  exact good_other (noB_of (by decide)) (by decide) (by decide) _
theorem good_authB {l : List UInt8} {D R : ByteArray} (hl : Hid (NoB l)) (hD : Hid (GD D)) : GoodL (((((⟨#[97, 117, 116, 104, 32]⟩ : ByteArray) ++ ⟨l.toArray⟩) ++ ⟨#[32]⟩) ++ D) ++ ⟨#[32]⟩ ++ R).data.toList := by
  have e : (((((⟨#[97, 117, 116, 104, 32]⟩ : ByteArray) ++ ⟨l.toArray⟩) ++ ⟨#[32]⟩) ++ D) ++ ⟨#[32]⟩ ++ R).data.toList = [97, 117, 116, 104] ++ 32 :: (l ++ 32 :: (D.data.toList ++ 32 :: R.data.toList)) := by
    simp only [baL]
    simp
  rw [e]
  exact good_auth hl.out hD.out.1 hD.out.2 _
theorem good_authC {l : List UInt8} (hl : Hid (NoB l)) : GoodL (((⟨#[97, 117, 116, 104, 32]⟩ : ByteArray) ++ ⟨l.toArray⟩) ++ ⟨#[32, 49, 32, 56, 52, 48, 32, 53, 48, 48]⟩).data.toList := by
  have e : (((⟨#[97, 117, 116, 104, 32]⟩ : ByteArray) ++ ⟨l.toArray⟩) ++ ⟨#[32, 49, 32, 56, 52, 48, 32, 53, 48, 48]⟩).data.toList = [97, 117, 116, 104] ++ 32 :: (l ++ 32 :: ([49] ++ 32 :: [56, 52, 48, 32, 53, 48, 48])) := by
    simp only [baL]
    simp
  rw [e]
  exact good_auth hl.out (noB_of (by decide)) (by decide) _
theorem ba_regroup (a b c d e f g h : ByteArray) : (((((((a ++ b) ++ c) ++ d) ++ e) ++ f) ++ g) ++ h) = (((((a ++ b) ++ c) ++ d) ++ e) ++ (f ++ g ++ h)) := by
  apply ByteArray.ext
  apply Array.ext'
  simp only [baL, List.append_assoc]
theorem dec_g (n : Int) (w : World) :
    Calls Try.prog 28 #[.int .i64 n] w fun e w' => ∃ l : List UInt8, e = .returned (.string ⟨l.toArray⟩) ∧ l.length ≤ 22 ∧ Hid (0 ≤ n → n ≤ 8 → GD ⟨l.toArray⟩) ∧ w' = w := by
  by_cases h : 0 ≤ n ∧ n ≤ 8
  · obtain ⟨m, rfl⟩ := Int.eq_ofNat_of_zero_le h.1
    refine (Tg.dec_up m w (by omega)).mono ?_
    rintro e w' ⟨rfl, rfl⟩
    have hm : m ≤ 8 := by omega
    have hd : Lib.decDigits m = [UInt8.ofNat (48 + m)] := by
      rcases (show m = 0 ∨ m = 1 ∨ m = 2 ∨ m = 3 ∨ m = 4 ∨ m = 5 ∨ m = 6 ∨ m = 7 ∨ m = 8 from by omega) with rfl | rfl | rfl | rfl | rfl | rfl | rfl | rfl | rfl <;> simp [Lib.decDigits]
    rw [hd]
    exact ⟨_, rfl, by simp, fun _ _ => ⟨dig_no (by omega), num_digit hm⟩, rfl⟩
  · refine (dec_tot n w).mono ?_
    rintro e w' ⟨l, h1, h2, h3⟩
    exact ⟨l, h1, h2, fun a b => absurd ⟨a, b⟩ h, h3⟩
theorem gd_of {n : Int} {l : List UInt8} (h : Hid (0 ≤ n → n ≤ 8 → GD ⟨l.toArray⟩)) (h0 : 0 ≤ n) (h1 : n ≤ 8) : Hid (GD ⟨l.toArray⟩) := h.out h0 h1
theorem dig_NoB {l : List UInt8} (h : within 48 57 l = true) : NoB l := fun c hc e => by
  have := within_mem h c hc
  rw [e] at this
  revert this; decide
theorem padT_NoB (x n : Int) : NoB (padT x n) := by
  rcases padT_cases x n with h | ⟨a, m, _, _, _, _, _, h⟩
  · rw [h]; exact fun c hc => by cases hc
  · rw [h]; exact dig_NoB (padN_dig a m)
theorem qPadG {B g : Nat} {w : World} {b : Bk} {p : Bp} {u : World} (q : LS B g w b p u) (x n : Int) :
    Calls Try.prog 29 #[.int .i64 x, .int .i64 n] u fun e u' => ∃ l : List UInt8, e = .returned (.string ⟨l.toArray⟩) ∧ l.length ≤ 18 ∧ Hid (NoB l) ∧ LS B g w b p u' :=
  (sPadNum_any x n u).mono (by rintro e u' ⟨h, c⟩; exact ⟨_, h, padT_18 x n, padT_NoB x n, q.below c⟩)
theorem qLTBelowG {B g : Nat} {w : World} {b : Bk} {p : Bp} {T : Nat} {v1 v2 v3 : Value} {u : World} (q : LT B g w b p T v1 v2 v3 u) :
    Calls Try.prog 16 #[.pointer (some ⟨g, 0, none⟩), .int .i64 3] u fun e u' => ∃ x : Int, e = .returned (.int .i64 x) ∧ Hid (0 ≤ x ∧ x < 3) ∧ LT B g w b p T v1 v2 v3 u' :=
  (below_any g 3 u q.ls.cu (by omega)).mono (by rintro e u' ⟨x, h1, h2, h3, c, r⟩; exact ⟨x, h1, ⟨h2, h3 (by omega)⟩, q.call c r⟩)
theorem pickS_good (k : Nat) : GoodL (nth pickS k) := by
  by_cases h : k < 11
  · rcases (show k = 0 ∨ k = 1 ∨ k = 2 ∨ k = 3 ∨ k = 4 ∨ k = 5 ∨ k = 6 ∨ k = 7 ∨ k = 8 ∨ k = 9 ∨ k = 10 by omega) with rfl | rfl | rfl | rfl | rfl | rfl | rfl | rfl | rfl | rfl | rfl
    · exact ⟨fun h => absurd h (by decide), fun h => absurd h (by decide)⟩
    · exact ⟨fun h => absurd h (by decide), fun h => absurd h (by decide)⟩
    · exact ⟨fun h => absurd h (by decide), fun h => absurd h (by decide)⟩
    · exact ⟨fun h => absurd h (by decide), fun h => absurd h (by decide)⟩
    · exact ⟨fun h => absurd h (by decide), fun h => absurd h (by decide)⟩
    · exact good_pay (A := [49]) (D := [49]) (noB_of (by decide)) (noB_of (by decide)) (by decide) (by decide) [56, 52, 48, 32, 53]
    · exact good_other (x := [97, 99, 116]) (noB_of (by decide)) (by decide) (by decide) _
    · exact good_other (x := [97, 99, 116]) (noB_of (by decide)) (by decide) (by decide) _
    · exact good_other (x := [97, 99, 116]) (noB_of (by decide)) (by decide) (by decide) _
    · exact good_pay (A := [48, 49]) (D := [52]) (noB_of (by decide)) (noB_of (by decide)) (by decide) (by decide) [56, 52, 48, 32, 53]
    · exact good_auth (A := [48, 48, 48, 48, 48, 48, 48, 48, 48, 48, 48, 49]) (D := [49]) (noB_of (by decide)) (noB_of (by decide)) (by decide) [56, 52, 48, 32, 48]
  · have : nth pickS k = [] := by simp [nth, pickS, List.getD_eq_getElem?_getD]; rw [List.getElem?_eq_none (by simp; omega)]; rfl
    rw [this]
    exact ⟨fun h => absurd h (by decide), fun h => absurd h (by decide)⟩
set_option maxHeartbeats 800000 in
theorem qPickG {B g : Nat} {w : World} {b : Bk} {p : Bp} {u : World} (q : LS B g w b p u) (t : TypeId) :
    Calls Try.prog 31 #[.pointer (some ⟨g, 0, none⟩), .slice (some ⟨u.heap.size, 0, none⟩) 11 11] (u.alloc (.cells pickA t)) fun e u' => ∃ l : List UInt8, e = .returned (.string ⟨l.toArray⟩) ∧ l.length ≤ 30 ∧ Hid (GoodL l) ∧ LS B g w b p u' := by
  have qa := q.alloc (.cells pickA t)
  have hne := cursor_ne q.cu
  have hcl := pickA_at u t
  obtain ⟨U, hU⟩ : ∃ U, u.alloc (.cells pickA t) = U := ⟨_, rfl⟩
  rw [hU] at qa hcl ⊢
  obtain ⟨T, hT⟩ : ∃ T, u.heap.size = T := ⟨_, rfl⟩
  rw [hT] at hcl hne ⊢
  clear hU hT q
  go_enter Try.func31, Try.ntmps31
  go_wp2_with fail
  refine (below_any g 11 U qa.cu (by omega)).mono ?_
  rintro e u1 ⟨x, rfl, x0, x1, c1, g1⟩
  have hx := x1 (by omega)
  obtain ⟨k, rfl⟩ := Int.eq_ofNat_of_zero_le x0
  have hk : k < 11 := by omega
  have cb : u1.cell? ⟨T, k, none⟩ = some (.string ⟨(nth pickS k).toArray⟩) := g1.cell (a := ⟨T, k, none⟩) (hcl k hk) (by simpa using hne)
  have q1 := qa.call c1 g1
  have hl := pickS_len k
  have hgd : Hid (GoodL (nth pickS k)) := pickS_good k
  obtain ⟨s, hs⟩ : ∃ s, nth pickS k = s := ⟨_, rfl⟩
  rw [hs] at cb hl hgd
  clear hcl hs c1 g1 x1 x0 qa
  go_wp2
  go_ret
  exact ⟨s, rfl, hl, hgd, q1⟩

end Go.Proofs.Ytlonjjliochbhaa
