/- The contracts of Convert. -/
import Derived.Test.YtkhohbkdfgnmnaaCur
import Derived.Test.YtkhohbkdfgnmnaaScale
namespace Go.Proofs.Ytkhohbkdfgnmnaa
open Go.RowKit

def ten (n : Int) : Int := if n = 1 then 10 else if n = 2 then 100 else if n = 3 then 1000 else 1
theorem ten_bd (n : Int) : 1 ≤ ten n ∧ ten n ≤ 1000 := by unfold ten; repeat' split
                                                          all_goals omega
theorem ten_succ (k : Nat) (h : k < 3) : ten ((k : Int) + 1) = ten k * 10 := by
  rcases (show k = 0 ∨ k = 1 ∨ k = 2 from by omega) with rfl | rfl | rfl <;> decide

set_option maxHeartbeats 400000 in
theorem tenTo_any (n : Int) (w : World) (h0 : 0 ≤ n) (h3 : n ≤ 3) :
    Calls Try.prog 51 #[.int .i64 n] w fun e w' => e = .returned (.int .i64 (ten n)) ∧ w' = w := by
  go_enter Try.func51, Try.ntmps51
  go_wp2
  go_loop [3, 5] (fun p i => ∃ k : Nat, (k : Int) ≤ n ∧ i = .int .i64 k ∧ p = .int .i64 (ten k)) (fun _ i => n.toNat - (intOf i).toNat)
  case atStart => exact ⟨0, by omega, rfl, rfl⟩
  case round =>
    obtain ⟨k, hk, rfl, rfl⟩ := hrel
    have hd := ten_bd k
    by_cases hlt : (k : Int) < n
    · have HS : Hid (ten ((k : Int) + 1) = ten k * 10) := ten_succ k (by omega)
      go_wp2
      go_round
      case rel => exact ⟨k + 1, by omega, by go_num, by rw [show ((k + 1 : Nat) : Int) = (k : Int) + 1 from by omega, HS.out]⟩
      case measure => simp [intOf]; omega
    · go_wp2
      go_ret
      exact ⟨one_int (by rw [show (k : Int) = n from by omega]), rfl⟩

set_option maxHeartbeats 400000 in
theorem sTen_any (n : Int) (w : World) (h0 : 0 ≤ n) (h3 : n ≤ 3) :
    Calls Try.prog 52 #[.int .i64 n] w fun e w' => e = .returned (.int .i64 (ten n)) ∧ w' = w := by
  go_enter Try.func52, Try.ntmps52
  go_wp2
  go_loop [3, 4] (fun p i => ∃ k : Nat, (k : Int) ≤ n ∧ i = .int .i64 k ∧ p = .int .i64 (ten k)) (fun _ i => n.toNat - (intOf i).toNat)
  case atStart => exact ⟨0, by omega, rfl, rfl⟩
  case round =>
    obtain ⟨k, hk, rfl, rfl⟩ := hrel
    have hd := ten_bd k
    by_cases hlt : (k : Int) < n
    · have HS : Hid (ten ((k : Int) + 1) = 10 * ten k) := by rw [Hid, ten_succ k (by omega), Int.mul_comm]
      go_wp2
      go_round
      case rel => exact ⟨k + 1, by omega, by go_num, by rw [show ((k + 1 : Nat) : Int) = (k : Int) + 1 from by omega, HS.out]⟩
      case measure => simp [intOf]; omega
    · go_wp2
      go_ret
      exact ⟨one_int (by rw [show (k : Int) = n from by omega]), rfl⟩

def convArgs (fr to num den : Int) : Bool := decide (0 ≤ digs fr ∧ 0 ≤ digs to) && inB num 1 1000000 && inB den 1 1000000
def convOk (x fr to num den : Int) : Bool := convArgs fr to num den && scaleOk x (num * ten (digs to)) (den * ten (digs fr))
def convV (x fr to num den : Int) : Int := if convArgs fr to num den then scaleV x (num * ten (digs to)) (den * ten (digs fr)) else 0
theorem conv_0 {x fr to num den : Int} (h : convArgs fr to num den = false) : convOk x fr to num den = false ∧ convV x fr to num den = 0 := by simp [convV, convOk, h]
theorem conv_1 {x fr to num den : Int} (h : convArgs fr to num den = true) : convOk x fr to num den = scaleOk x (num * ten (digs to)) (den * ten (digs fr)) ∧ convV x fr to num den = scaleV x (num * ten (digs to)) (den * ten (digs fr)) := by simp [convV, convOk, h]
theorem cargs_1 {fr to num den : Int} (h : digs fr < 0 ∨ digs to < 0 ∨ num < 1 ∨ 1000000 < num ∨ den < 1 ∨ 1000000 < den) : convArgs fr to num den = false := by simp [convArgs, inB]; omega
theorem cargs_2 {fr to num den : Int} (h1 : 0 ≤ digs fr) (h2 : 0 ≤ digs to) (h3 : 1 ≤ num) (h4 : num ≤ 1000000) (h5 : 1 ≤ den) (h6 : den ≤ 1000000) : convArgs fr to num den = true := by simp [convArgs, inB, h1, h2, h3, h4, h5, h6]
theorem conv_mul {a d : Int} (h1 : 1 ≤ a) (h2 : a ≤ 1000000) : 1 ≤ a * ten d ∧ a * ten d ≤ 1000000000 := by
  have := ten_bd d
  have b1 : 1 * 1 ≤ a * ten d := Int.mul_le_mul h1 this.1 (by omega) (by omega)
  have b2 : a * ten d ≤ 1000000 * 1000 := Int.mul_le_mul h2 this.2 (by omega) (by omega)
  omega

set_option maxHeartbeats 1000000 in
theorem iConvert_any (x fr to num den : Int) (w : World) (hf : (Lit.int .i64 fr).wf = true) (ht : (Lit.int .i64 to).wf = true) :
    Calls Try.prog 30 #[.int .i64 x, .int .i64 fr, .int .i64 to, .int .i64 num, .int .i64 den] w fun e w' => e = .returned (.tuple #[.int .i64 (convV x fr to num den), .bool (convOk x fr to num den)]) ∧ Below w.heap.size w w' := by
  have g1 := digs_bd fr
  have g2 := digs_bd to
  by_cases h1 : digs fr < 0
  · have hz := conv_0 (x := x) (cargs_1 (fr := fr) (to := to) (num := num) (den := den) (by omega))
    go_enter Try.func30, Try.ntmps30
    go_wp2_with (first | (go_at_call 34; refine (iDigits_any _ _ (by assumption)).mono ?_; rintro e w1 ⟨rfl, b1⟩) | (go_at_call 51; refine (tenTo_any _ _ (by omega) (by omega)).mono ?_; rintro e w1 ⟨rfl, rfl⟩) | (go_at_call 23; refine (iScale_any _ _ _ _).mono ?_; rintro e w3 ⟨rfl, b3⟩))
    go_ret2
    exact ⟨two_eq hz.2.symm hz.1.symm, next ‹Below w.heap.size w _› ‹_›⟩
  · by_cases h2 : digs to < 0
    · have hz := conv_0 (x := x) (cargs_1 (fr := fr) (to := to) (num := num) (den := den) (by omega))
      go_enter Try.func30, Try.ntmps30
      go_wp2_with (first | (go_at_call 34; refine (iDigits_any _ _ (by assumption)).mono ?_; rintro e w1 ⟨rfl, b1⟩) | (go_at_call 51; refine (tenTo_any _ _ (by omega) (by omega)).mono ?_; rintro e w1 ⟨rfl, rfl⟩) | (go_at_call 23; refine (iScale_any _ _ _ _).mono ?_; rintro e w3 ⟨rfl, b3⟩))
      go_ret2
      exact ⟨two_eq hz.2.symm hz.1.symm, next ‹Below w.heap.size w _› ‹_›⟩
    · by_cases h3 : num < 1
      · have hz := conv_0 (x := x) (cargs_1 (fr := fr) (to := to) (num := num) (den := den) (by omega))
        go_enter Try.func30, Try.ntmps30
        go_wp2_with (first | (go_at_call 34; refine (iDigits_any _ _ (by assumption)).mono ?_; rintro e w1 ⟨rfl, b1⟩) | (go_at_call 51; refine (tenTo_any _ _ (by omega) (by omega)).mono ?_; rintro e w1 ⟨rfl, rfl⟩) | (go_at_call 23; refine (iScale_any _ _ _ _).mono ?_; rintro e w3 ⟨rfl, b3⟩))
        go_ret2
        exact ⟨two_eq hz.2.symm hz.1.symm, next ‹Below w.heap.size w _› ‹_›⟩
      · by_cases h4 : 1000000 < num
        · have hz := conv_0 (x := x) (cargs_1 (fr := fr) (to := to) (num := num) (den := den) (by omega))
          go_enter Try.func30, Try.ntmps30
          go_wp2_with (first | (go_at_call 34; refine (iDigits_any _ _ (by assumption)).mono ?_; rintro e w1 ⟨rfl, b1⟩) | (go_at_call 51; refine (tenTo_any _ _ (by omega) (by omega)).mono ?_; rintro e w1 ⟨rfl, rfl⟩) | (go_at_call 23; refine (iScale_any _ _ _ _).mono ?_; rintro e w3 ⟨rfl, b3⟩))
          go_ret2
          exact ⟨two_eq hz.2.symm hz.1.symm, next ‹Below w.heap.size w _› ‹_›⟩
        · by_cases h5 : den < 1
          · have hz := conv_0 (x := x) (cargs_1 (fr := fr) (to := to) (num := num) (den := den) (by omega))
            go_enter Try.func30, Try.ntmps30
            go_wp2_with (first | (go_at_call 34; refine (iDigits_any _ _ (by assumption)).mono ?_; rintro e w1 ⟨rfl, b1⟩) | (go_at_call 51; refine (tenTo_any _ _ (by omega) (by omega)).mono ?_; rintro e w1 ⟨rfl, rfl⟩) | (go_at_call 23; refine (iScale_any _ _ _ _).mono ?_; rintro e w3 ⟨rfl, b3⟩))
            go_ret2
            exact ⟨two_eq hz.2.symm hz.1.symm, next ‹Below w.heap.size w _› ‹_›⟩
          · by_cases h6 : 1000000 < den
            · have hz := conv_0 (x := x) (cargs_1 (fr := fr) (to := to) (num := num) (den := den) (by omega))
              go_enter Try.func30, Try.ntmps30
              go_wp2_with (first | (go_at_call 34; refine (iDigits_any _ _ (by assumption)).mono ?_; rintro e w1 ⟨rfl, b1⟩) | (go_at_call 51; refine (tenTo_any _ _ (by omega) (by omega)).mono ?_; rintro e w1 ⟨rfl, rfl⟩) | (go_at_call 23; refine (iScale_any _ _ _ _).mono ?_; rintro e w3 ⟨rfl, b3⟩))
              go_ret2
              exact ⟨two_eq hz.2.symm hz.1.symm, next ‹Below w.heap.size w _› ‹_›⟩
            · have hz := conv_1 (x := x) (cargs_2 (fr := fr) (to := to) (num := num) (den := den) (by omega) (by omega) (by omega) (by omega) (by omega) (by omega))
              have Z1 := hz.1
              have Z2 := hz.2
              have Z1' : Hid (convOk x fr to num den = scaleOk x (num * ten (digs to)) (den * ten (digs fr))) := Z1
              have Z2' : Hid (convV x fr to num den = scaleV x (num * ten (digs to)) (den * ten (digs fr))) := Z2
              clear hz Z1 Z2
              have m1 := conv_mul (a := num) (d := digs to) (by omega) (by omega)
              have m2 := conv_mul (a := den) (d := digs fr) (by omega) (by omega)
              go_enter Try.func30, Try.ntmps30
              go_wp2_with (first | (go_at_call 34; refine (iDigits_any _ _ (by assumption)).mono ?_; rintro e w1 ⟨rfl, b1⟩) | (go_at_call 51; refine (tenTo_any _ _ (by omega) (by omega)).mono ?_; rintro e w1 ⟨rfl, rfl⟩) | (go_at_call 23; refine (iScale_any _ _ _ _).mono ?_; rintro e w3 ⟨rfl, b3⟩))
              go_ret2
              exact ⟨two_eq Z2'.out.symm Z1'.out.symm, next (next ‹Below w.heap.size w _› ‹_›) b3⟩

set_option maxHeartbeats 1000000 in
theorem sConvert_any (x fr to num den : Int) (w : World) :
    Calls Try.prog 31 #[.int .i64 x, .int .i64 fr, .int .i64 to, .int .i64 num, .int .i64 den] w fun e w' => e = .returned (.tuple #[.int .i64 (convV x fr to num den), .bool (convOk x fr to num den)]) ∧ Below w.heap.size w w' := by
  have g1 := digs_bd fr
  have g2 := digs_bd to
  by_cases h1 : digs fr < 0
  · have hz := conv_0 (x := x) (cargs_1 (fr := fr) (to := to) (num := num) (den := den) (by omega))
    go_enter Try.func31, Try.ntmps31
    go_wp2_with (first | (go_at_call 33; refine (sDigits_any _ _).mono ?_; rintro e w1 ⟨rfl, b1⟩) | (go_at_call 47; refine (in_any _ _ _ _).mono ?_; rintro e w1 ⟨rfl, rfl⟩) | (go_at_call 52; refine (sTen_any _ _ (by omega) (by omega)).mono ?_; rintro e w1 ⟨rfl, rfl⟩) | (go_at_call 24; refine (sScale_any _ _ _ _).mono ?_; rintro e w3 ⟨rfl, b3⟩))
    go_ret2
    exact ⟨two_eq hz.2.symm hz.1.symm, next ‹Below w.heap.size w _› ‹_›⟩
  · by_cases h2 : digs to < 0
    · have hz := conv_0 (x := x) (cargs_1 (fr := fr) (to := to) (num := num) (den := den) (by omega))
      go_enter Try.func31, Try.ntmps31
      go_wp2_with (first | (go_at_call 33; refine (sDigits_any _ _).mono ?_; rintro e w1 ⟨rfl, b1⟩) | (go_at_call 47; refine (in_any _ _ _ _).mono ?_; rintro e w1 ⟨rfl, rfl⟩) | (go_at_call 52; refine (sTen_any _ _ (by omega) (by omega)).mono ?_; rintro e w1 ⟨rfl, rfl⟩) | (go_at_call 24; refine (sScale_any _ _ _ _).mono ?_; rintro e w3 ⟨rfl, b3⟩))
      go_ret2
      exact ⟨two_eq hz.2.symm hz.1.symm, next ‹Below w.heap.size w _› ‹_›⟩
    · by_cases h3 : num < 1
      · have hz := conv_0 (x := x) (cargs_1 (fr := fr) (to := to) (num := num) (den := den) (by omega))
        have i1 : inB num 1 1000000 = false := by simp [inB]; omega
        go_enter Try.func31, Try.ntmps31
        go_wp2_with (first | (go_at_call 33; refine (sDigits_any _ _).mono ?_; rintro e w1 ⟨rfl, b1⟩) | (go_at_call 47; refine (in_any _ _ _ _).mono ?_; rintro e w1 ⟨rfl, rfl⟩) | (go_at_call 52; refine (sTen_any _ _ (by omega) (by omega)).mono ?_; rintro e w1 ⟨rfl, rfl⟩) | (go_at_call 24; refine (sScale_any _ _ _ _).mono ?_; rintro e w3 ⟨rfl, b3⟩))
        go_ret2
        exact ⟨two_eq hz.2.symm hz.1.symm, next ‹Below w.heap.size w _› ‹_›⟩
      · by_cases h4 : 1000000 < num
        · have hz := conv_0 (x := x) (cargs_1 (fr := fr) (to := to) (num := num) (den := den) (by omega))
          have i1 : inB num 1 1000000 = false := by simp [inB]; omega
          go_enter Try.func31, Try.ntmps31
          go_wp2_with (first | (go_at_call 33; refine (sDigits_any _ _).mono ?_; rintro e w1 ⟨rfl, b1⟩) | (go_at_call 47; refine (in_any _ _ _ _).mono ?_; rintro e w1 ⟨rfl, rfl⟩) | (go_at_call 52; refine (sTen_any _ _ (by omega) (by omega)).mono ?_; rintro e w1 ⟨rfl, rfl⟩) | (go_at_call 24; refine (sScale_any _ _ _ _).mono ?_; rintro e w3 ⟨rfl, b3⟩))
          go_ret2
          exact ⟨two_eq hz.2.symm hz.1.symm, next ‹Below w.heap.size w _› ‹_›⟩
        · by_cases h5 : den < 1
          · have hz := conv_0 (x := x) (cargs_1 (fr := fr) (to := to) (num := num) (den := den) (by omega))
            have i1 : inB num 1 1000000 = true := by simp [inB]; omega
            have i2 : inB den 1 1000000 = false := by simp [inB]; omega
            go_enter Try.func31, Try.ntmps31
            go_wp2_with (first | (go_at_call 33; refine (sDigits_any _ _).mono ?_; rintro e w1 ⟨rfl, b1⟩) | (go_at_call 47; refine (in_any _ _ _ _).mono ?_; rintro e w1 ⟨rfl, rfl⟩) | (go_at_call 52; refine (sTen_any _ _ (by omega) (by omega)).mono ?_; rintro e w1 ⟨rfl, rfl⟩) | (go_at_call 24; refine (sScale_any _ _ _ _).mono ?_; rintro e w3 ⟨rfl, b3⟩))
            go_ret2
            exact ⟨two_eq hz.2.symm hz.1.symm, next ‹Below w.heap.size w _› ‹_›⟩
          · by_cases h6 : 1000000 < den
            · have hz := conv_0 (x := x) (cargs_1 (fr := fr) (to := to) (num := num) (den := den) (by omega))
              have i1 : inB num 1 1000000 = true := by simp [inB]; omega
              have i2 : inB den 1 1000000 = false := by simp [inB]; omega
              go_enter Try.func31, Try.ntmps31
              go_wp2_with (first | (go_at_call 33; refine (sDigits_any _ _).mono ?_; rintro e w1 ⟨rfl, b1⟩) | (go_at_call 47; refine (in_any _ _ _ _).mono ?_; rintro e w1 ⟨rfl, rfl⟩) | (go_at_call 52; refine (sTen_any _ _ (by omega) (by omega)).mono ?_; rintro e w1 ⟨rfl, rfl⟩) | (go_at_call 24; refine (sScale_any _ _ _ _).mono ?_; rintro e w3 ⟨rfl, b3⟩))
              go_ret2
              exact ⟨two_eq hz.2.symm hz.1.symm, next ‹Below w.heap.size w _› ‹_›⟩
            · have hz := conv_1 (x := x) (cargs_2 (fr := fr) (to := to) (num := num) (den := den) (by omega) (by omega) (by omega) (by omega) (by omega) (by omega))
              have Z1 := hz.1
              have Z2 := hz.2
              have Z1' : Hid (convOk x fr to num den = scaleOk x (num * ten (digs to)) (den * ten (digs fr))) := Z1
              have Z2' : Hid (convV x fr to num den = scaleV x (num * ten (digs to)) (den * ten (digs fr))) := Z2
              clear hz Z1 Z2
              have m1 := conv_mul (a := num) (d := digs to) (by omega) (by omega)
              have m2 := conv_mul (a := den) (d := digs fr) (by omega) (by omega)
              have i1 : inB num 1 1000000 = true := by simp [inB]; omega
              have i2 : inB den 1 1000000 = true := by simp [inB]; omega
              go_enter Try.func31, Try.ntmps31
              go_wp2_with (first | (go_at_call 33; refine (sDigits_any _ _).mono ?_; rintro e w1 ⟨rfl, b1⟩) | (go_at_call 47; refine (in_any _ _ _ _).mono ?_; rintro e w1 ⟨rfl, rfl⟩) | (go_at_call 52; refine (sTen_any _ _ (by omega) (by omega)).mono ?_; rintro e w1 ⟨rfl, rfl⟩) | (go_at_call 24; refine (sScale_any _ _ _ _).mono ?_; rintro e w3 ⟨rfl, b3⟩))
              go_ret2
              exact ⟨two_eq Z2'.out.symm Z1'.out.symm, next (next ‹Below w.heap.size w _› ‹_›) b3⟩

end Go.Proofs.Ytkhohbkdfgnmnaa
