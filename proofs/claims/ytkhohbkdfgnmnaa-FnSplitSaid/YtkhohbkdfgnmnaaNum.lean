/- The contracts of Plus and Scale, the program's and the specification's, over plain numbers. -/
import Derived.Test.YtkhohbkdfgnmnaaLeaf
import Derived.Test.YtkhohbkdfgnmnaaPlain
import Derived.Deep.QuietTactic
import Derived.BigQuiet
import Derived.WalkSmall
namespace Go.Proofs.Ytkhohbkdfgnmnaa
open Go.RowKit

theorem next {w w1 w2 : World} (h : Below w.heap.size w w1) (k : Below w1.heap.size w1 w2) : Below w.heap.size w w2 := h.trans (k.mono h.size)

def plusOk (a b : Int) : Bool := mOk a && mOk b && mOk (a + b)
def plusV (a b : Int) : Int := if plusOk a b then a + b else 0
theorem plus_1 {a b : Int} (h : mOk a = false) : plusOk a b = false ∧ plusV a b = 0 := by simp [plusV, plusOk, h]
theorem plus_2 {a b : Int} (h : mOk b = false) : plusOk a b = false ∧ plusV a b = 0 := by simp [plusV, plusOk, h]
theorem plus_3 {a b : Int} (h : mOk (a + b) = false) : plusOk a b = false ∧ plusV a b = 0 := by simp [plusV, plusOk, h]
theorem plus_4 {a b : Int} (h1 : mOk a = true) (h2 : mOk b = true) (h3 : mOk (a + b) = true) : plusOk a b = true ∧ plusV a b = a + b := by simp [plusV, plusOk, h1, h2, h3]

theorem two_eq {k : IntKind} {a b : Int} {x y : Bool} (h : a = b) (g : x = y) : Ending.returned (.tuple #[.int k a, .bool x]) = .returned (.tuple #[.int k b, .bool y]) := by rw [h, g]

set_option maxHeartbeats 400000 in
theorem sPlus_any (a b : Int) (w : World) :
    Calls Try.prog 17 #[.int .i64 a, .int .i64 b] w fun e w' => e = .returned (.tuple #[.int .i64 (plusV a b), .bool (plusOk a b)]) ∧ w' = w := by
  cases h1 : mOk a
  · go_enter Try.func17, Try.ntmps17
    go_wp2_with (go_at_call 32; refine (sMoneyOk_any _ _).mono ?_; rintro e w' ⟨rfl, rfl⟩)
    go_ret2
    exact ⟨two_eq (plus_1 h1).2.symm (plus_1 h1).1.symm, rfl⟩
  · have d1 := mOk_bd h1
    cases h2 : mOk b
    · go_enter Try.func17, Try.ntmps17
      go_wp2_with (go_at_call 32; refine (sMoneyOk_any _ _).mono ?_; rintro e w' ⟨rfl, rfl⟩)
      go_ret2
      exact ⟨two_eq (plus_2 h2).2.symm (plus_2 h2).1.symm, rfl⟩
    · have d2 := mOk_bd h2
      cases h3 : mOk (a + b)
      · go_enter Try.func17, Try.ntmps17
        go_wp2_with (go_at_call 32; refine (sMoneyOk_any _ _).mono ?_; rintro e w' ⟨rfl, rfl⟩)
        go_ret2
        exact ⟨two_eq (plus_3 h3).2.symm (plus_3 h3).1.symm, rfl⟩
      · go_enter Try.func17, Try.ntmps17
        go_wp2_with (go_at_call 32; refine (sMoneyOk_any _ _).mono ?_; rintro e w' ⟨rfl, rfl⟩)
        go_ret2
        exact ⟨two_eq (plus_4 h1 h2 h3).2.symm (plus_4 h1 h2 h3).1.symm, rfl⟩

set_option maxHeartbeats 400000 in
theorem aPlus_any (a b : Int) (w : World) :
    Calls Try.prog 41 #[.int .i64 a, .int .i64 b] w fun e w' => e = .returned (.tuple #[.int .i64 (plusV a b), .bool (plusOk a b)]) ∧ w' = w := by
  cases h1 : mOk a
  · go_enter Try.func41, Try.ntmps41
    go_wp2_with (go_at_call 43; refine (ok_any _ _).mono ?_; rintro e w' ⟨rfl, rfl⟩)
    go_ret2
    exact ⟨two_eq (plus_1 h1).2.symm (plus_1 h1).1.symm, rfl⟩
  · have d1 := mOk_bd h1
    cases h2 : mOk b
    · go_enter Try.func41, Try.ntmps41
      go_wp2_with (go_at_call 43; refine (ok_any _ _).mono ?_; rintro e w' ⟨rfl, rfl⟩)
      go_ret2
      exact ⟨two_eq (plus_2 h2).2.symm (plus_2 h2).1.symm, rfl⟩
    · have d2 := mOk_bd h2
      cases h3 : mOk (a + b)
      · go_enter Try.func41, Try.ntmps41
        go_wp2_with (go_at_call 43; refine (ok_any _ _).mono ?_; rintro e w' ⟨rfl, rfl⟩)
        go_ret2
        exact ⟨two_eq (plus_3 h3).2.symm (plus_3 h3).1.symm, rfl⟩
      · go_enter Try.func41, Try.ntmps41
        go_wp2_with (go_at_call 43; refine (ok_any _ _).mono ?_; rintro e w' ⟨rfl, rfl⟩)
        go_ret2
        exact ⟨two_eq (plus_4 h1 h2 h3).2.symm (plus_4 h1 h2 h3).1.symm, rfl⟩

set_option maxHeartbeats 400000 in
theorem iPlus_any (a b : Int) (w : World) :
    Calls Try.prog 16 #[.int .i64 a, .int .i64 b] w fun e w' => e = .returned (.tuple #[.int .i64 (plusV a b), .bool (plusOk a b)]) ∧ w' = w := by
  go_enter Try.func16, Try.ntmps16
  go_wp2_with (go_at_call 41; refine (aPlus_any _ _ _).mono ?_; rintro e w' ⟨rfl, rfl⟩)
  go_ret2
  exact ⟨rfl, rfl⟩

theorem two_ints {k : IntKind} {a b x y : Int} (h : a = b) (g : x = y) : Ending.returned (.tuple #[.int k a, .int k x]) = .returned (.tuple #[.int k b, .int k y]) := by rw [h, g]
theorem one_int {k : IntKind} {a b : Int} (h : a = b) : Ending.returned (.int k a) = .returned (.int k b) := by rw [h]

set_option maxHeartbeats 400000 in
theorem down_any (a n : Int) (w : World) (hn : 1 ≤ n) (hn2 : n ≤ 1000000000) (h1 : -1000000000000000000 ≤ a) (h2 : a ≤ 1000000000000000000) :
    Calls Try.prog 49 #[.int .i64 a, .int .i64 n] w fun e w' => e = .returned (.tuple #[.int .i64 (a / n), .int .i64 (a % n)]) ∧ Below w.heap.size w w' := by
  have hne : (n == 0) = false := by simp; omega
  have hd := Plain.down_of_t a n hn
  have hb := Plain.ediv_bd a n 1000000000000000000 hn h1 h2 (by omega)
  have hm := Int.emod_lt_of_pos a (b := n) (by omega)
  have hm0 := Int.emod_nonneg a (b := n) (by omega)
  rcases hd with ⟨d1, d2, d3⟩ | ⟨d1, d2, d3⟩
  · have D2 : Hid (a.tdiv n = a / n) := d2.symm
    have D3 : Hid (a.tmod n = a % n) := d3.symm
    clear d2 d3
    go_enter Try.func49, Try.ntmps49
    go_wp2
    go_quiet (fail)
    go_wp2
    go_ret2
    exact ⟨two_ints D2.out D3.out, below_drewN (Below.refl _ _) _⟩
  · have b1 : -1000000000000000001 ≤ a.tdiv n ∧ a.tdiv n ≤ 1000000000000000001 := by omega
    have b2 : -1000000000 ≤ a.tmod n := by omega
    have D2 : Hid (a.tdiv n - 1 = a / n) := d2.symm
    have D3 : Hid (a.tmod n + n = a % n) := d3.symm
    clear d2 d3
    go_enter Try.func49, Try.ntmps49
    go_wp2
    go_quiet (fail)
    go_wp2
    go_ret2
    exact ⟨two_ints D2.out D3.out, below_drewN (Below.refl _ _) _⟩

set_option maxHeartbeats 400000 in
theorem scaled_any (x num den : Int) (w : World) (x1 : -1000000000000 ≤ x) (x2 : x ≤ 1000000000000) (n1 : 0 ≤ num) (n2 : num ≤ 1000000) (e1 : 1 ≤ den) (e2 : den ≤ 1000000) :
    Calls Try.prog 46 #[.int .i64 x, .int .i64 num, .int .i64 den] w fun e w' => e = .returned (.int .i64 (Plain.near (x * num) den)) ∧ Below w.heap.size w w' := by
  have hp := Plain.mul_bd x num 1000000000000 1000000 x1 x2 n1 n2 (by omega)
  have p1 : -1000000000000000000 ≤ x * num := by omega
  have p2 : x * num ≤ 1000000000000000000 := by omega
  clear hp
  have hb := Plain.ediv_bd (x * num) den 1000000000000000000 e1 p1 p2 (by omega)
  have hm := Int.emod_lt_of_pos (x * num) (b := den) (by omega)
  have hm0 := Int.emod_nonneg (x * num) (b := den) (by omega)
  by_cases c1 : den < 2 * (x * num % den)
  · go_enter Try.func46, Try.ntmps46
    go_wp2_with (go_at_call 49; refine (down_any _ _ _ (by omega) (by omega) (by omega) (by omega)).mono ?_; rintro e w1 ⟨rfl, b1⟩)
    go_ret
    exact ⟨one_int (by rw [Plain.near, if_pos (.inl c1)]), ‹_›⟩
  · by_cases c2 : 2 * (x * num % den) = den
    · have k2 : (2 * (x * num % den) == den) = true := by simp [c2]
      have C2 : Hid (2 * (x * num % den) = den) := c2
      clear c2
      by_cases c3 : (x * num / den).tmod 2 = 0
      · have c4 : ¬ (x * num / den) % 2 ≠ 0 := by simpa using (Plain.even_t _).1 c3
        have k3 : ((x * num / den).tmod 2 != 0) = false := by simp [c3]
        clear c3
        go_enter Try.func46, Try.ntmps46
        go_wp2_with (go_at_call 49; refine (down_any _ _ _ (by omega) (by omega) (by omega) (by omega)).mono ?_; rintro e w1 ⟨rfl, b1⟩)
        go_ret
        exact ⟨one_int (by rw [Plain.near, if_neg (by rintro (h | h); omega; exact c4 h.2)]), ‹_›⟩
      · have c4 : (x * num / den) % 2 ≠ 0 := fun h => c3 ((Plain.even_t _).2 h)
        have k3 : ((x * num / den).tmod 2 != 0) = true := by simp [c3]
        clear c3
        go_enter Try.func46, Try.ntmps46
        go_wp2_with (go_at_call 49; refine (down_any _ _ _ (by omega) (by omega) (by omega) (by omega)).mono ?_; rintro e w1 ⟨rfl, b1⟩)
        go_ret
        exact ⟨one_int (by rw [Plain.near, if_pos (.inr ⟨C2.out, c4⟩)]), ‹_›⟩
    · have k2 : (2 * (x * num % den) == den) = false := by simp [c2]
      go_enter Try.func46, Try.ntmps46
      go_wp2_with (go_at_call 49; refine (down_any _ _ _ (by omega) (by omega) (by omega) (by omega)).mono ?_; rintro e w1 ⟨rfl, b1⟩)
      go_ret
      exact ⟨one_int (by rw [Plain.near, if_neg (by rintro (h | h); omega; exact c2 h.1)]), ‹_›⟩

def scaleArgs (x num den : Int) : Bool := mOk x && inB num 0 1000000 && inB den 1 1000000
def scaleOk (x num den : Int) : Bool := scaleArgs x num den && mOk (Plain.near (x * num) den)
def scaleV (x num den : Int) : Int := if scaleOk x num den then Plain.near (x * num) den else 0
theorem scale_0 {x num den : Int} (h : scaleArgs x num den = false) : scaleOk x num den = false ∧ scaleV x num den = 0 := by simp [scaleV, scaleOk, h]
theorem scale_1 {x num den : Int} (h : mOk (Plain.near (x * num) den) = false) : scaleOk x num den = false ∧ scaleV x num den = 0 := by simp [scaleV, scaleOk, h]
theorem scale_2 {x num den : Int} (h : scaleArgs x num den = true) (g : mOk (Plain.near (x * num) den) = true) : scaleOk x num den = true ∧ scaleV x num den = Plain.near (x * num) den := by simp [scaleV, scaleOk, h, g]
theorem args_1 {x num den : Int} (h : mOk x = false) : scaleArgs x num den = false := by simp [scaleArgs, h]
theorem args_2 {x num den : Int} (h : num < 0 ∨ 1000000 < num) : scaleArgs x num den = false := by simp [scaleArgs, inB]; omega
theorem args_3 {x num den : Int} (h : den < 1 ∨ 1000000 < den) : scaleArgs x num den = false := by simp [scaleArgs, inB]; omega
theorem args_4 {x num den : Int} (h : mOk x = true) (n1 : 0 ≤ num) (n2 : num ≤ 1000000) (e1 : 1 ≤ den) (e2 : den ≤ 1000000) : scaleArgs x num den = true := by simp [scaleArgs, inB, h, n1, n2, e1, e2]

set_option maxHeartbeats 400000 in
theorem iScale_any (x num den : Int) (w : World) :
    Calls Try.prog 23 #[.int .i64 x, .int .i64 num, .int .i64 den] w fun e w' => e = .returned (.tuple #[.int .i64 (scaleV x num den), .bool (scaleOk x num den)]) ∧ Below w.heap.size w w' := by
  cases h1 : mOk x
  · have hz := scale_0 (args_1 (num := num) (den := den) h1)
    go_enter Try.func23, Try.ntmps23
    go_wp2_with (go_at_call 21; refine (iMoneyOk_any _ _).mono ?_; rintro e w' ⟨rfl, rfl⟩)
    go_ret2
    exact ⟨two_eq hz.2.symm hz.1.symm, Below.refl _ _⟩
  · have d1 := mOk_bd h1
    by_cases h2 : num < 0
    · have hz := scale_0 (args_2 (x := x) (den := den) (.inl h2))
      go_enter Try.func23, Try.ntmps23
      go_wp2_with (go_at_call 21; refine (iMoneyOk_any _ _).mono ?_; rintro e w' ⟨rfl, rfl⟩)
      go_ret2
      exact ⟨two_eq hz.2.symm hz.1.symm, Below.refl _ _⟩
    · by_cases h3 : 1000000 < num
      · have hz := scale_0 (args_2 (x := x) (den := den) (.inr h3))
        go_enter Try.func23, Try.ntmps23
        go_wp2_with (go_at_call 21; refine (iMoneyOk_any _ _).mono ?_; rintro e w' ⟨rfl, rfl⟩)
        go_ret2
        exact ⟨two_eq hz.2.symm hz.1.symm, Below.refl _ _⟩
      · by_cases h4 : den < 1
        · have hz := scale_0 (args_3 (x := x) (num := num) (.inl h4))
          go_enter Try.func23, Try.ntmps23
          go_wp2_with (go_at_call 21; refine (iMoneyOk_any _ _).mono ?_; rintro e w' ⟨rfl, rfl⟩)
          go_ret2
          exact ⟨two_eq hz.2.symm hz.1.symm, Below.refl _ _⟩
        · by_cases h5 : 1000000 < den
          · have hz := scale_0 (args_3 (x := x) (num := num) (.inr h5))
            go_enter Try.func23, Try.ntmps23
            go_wp2_with (go_at_call 21; refine (iMoneyOk_any _ _).mono ?_; rintro e w' ⟨rfl, rfl⟩)
            go_ret2
            exact ⟨two_eq hz.2.symm hz.1.symm, Below.refl _ _⟩
          · cases h6 : mOk (Plain.near (x * num) den)
            · have hz := scale_1 h6
              go_enter Try.func23, Try.ntmps23
              go_wp2_with (first | (go_at_call 21; refine (iMoneyOk_any _ _).mono ?_; rintro e w' ⟨rfl, rfl⟩) | (go_at_call 43; refine (ok_any _ _).mono ?_; rintro e w' ⟨rfl, rfl⟩) | (go_at_call 46; refine (scaled_any _ _ _ _ (by omega) (by omega) (by omega) (by omega) (by omega) (by omega)).mono ?_; rintro e w1 ⟨rfl, b1⟩))
              go_ret2
              exact ⟨two_eq hz.2.symm hz.1.symm, ‹_›⟩
            · have hz := scale_2 (args_4 h1 (by omega : 0 ≤ num) (by omega) (by omega : 1 ≤ den) (by omega)) h6
              have Z1 : Hid (scaleOk x num den = true) := hz.1
              have Z2 : Hid (scaleV x num den = Plain.near (x * num) den) := hz.2
              clear hz
              go_enter Try.func23, Try.ntmps23
              go_wp2_with (first | (go_at_call 21; refine (iMoneyOk_any _ _).mono ?_; rintro e w' ⟨rfl, rfl⟩) | (go_at_call 43; refine (ok_any _ _).mono ?_; rintro e w' ⟨rfl, rfl⟩) | (go_at_call 46; refine (scaled_any _ _ _ _ (by omega) (by omega) (by omega) (by omega) (by omega) (by omega)).mono ?_; rintro e w1 ⟨rfl, b1⟩))
              go_ret2
              exact ⟨two_eq Z2.out.symm Z1.out.symm, ‹_›⟩

end Go.Proofs.Ytkhohbkdfgnmnaa
