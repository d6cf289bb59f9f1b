/- The contracts of the program's accountOk, EntryOk, Back, keyOf, BalanceOf, Worth, lineOk. -/
import Derived.Test.YtpjfigjgamlcdaaDoorLns
import Derived.Handy
import Derived.Deep.RegionWith
import Derived.Deep.RegionHeld3
namespace Go.Proofs.YtpjfigjgamlcdaaDoor
open Go.RowKit
set_option maxRecDepth 100000

set_option maxHeartbeats 400000 in
theorem iAcct_any (a : Int) (w : World) :
    Calls Tryd.prog 65 #[.int .i64 a] w fun e w' => e = .returned (.bool (acctOk a)) ∧ w' = w := by
  by_cases h1 : 1 ≤ a
  · by_cases h2 : a ≤ 9999
    · have HE : Hid (acctOk a = true) := by simp [Hid, acctOk, h1, h2]
      go_enter Tryd.func65, Tryd.ntmps65
      go_wp2
      go_ret
      exact ⟨one_bool HE.out.symm, rfl⟩
    · have HE : Hid (acctOk a = false) := by simp [Hid, acctOk, h1, h2]
      go_enter Tryd.func65, Tryd.ntmps65
      go_wp2
      go_ret
      exact ⟨one_bool HE.out.symm, rfl⟩
  · have HE : Hid (acctOk a = false) := by simp [Hid, acctOk]; omega
    go_enter Tryd.func65, Tryd.ntmps65
    go_wp2
    go_ret
    exact ⟨one_bool HE.out.symm, rfl⟩
theorem iAcct_is {a : Int} {q : Bool} (h : acctOk a = q) (w : World) : Calls Tryd.prog 65 #[.int .i64 a] w fun e w' => e = .returned (.bool q) ∧ w' = w := by rw [← h]; exact iAcct_any a w
theorem iDigs_is {c : Int} (w : World) (d : Int) (h : digs c = d) (hc : (Lit.int .i64 c).wf = true) : Calls Tryd.prog 58 #[.int .i64 c] w fun e w' => e = .returned (.int .i64 d) ∧ Below w.heap.size w w' := by rw [← h]; exact iDigits_any c w hc



set_option maxHeartbeats 1600000 in
theorem iEntryOk_any (a b c m : Int) (w : World) (hc : (Lit.int .i64 c).wf = true) :
    Calls Tryd.prog 16 #[.agg #[.int .i64 a, .int .i64 b, .int .i64 c, .int .i64 m]] w fun e w' => e = .returned (.bool (entryOk (a, b, c, m))) ∧ Below w.heap.size w w' := by
  have bel : Below w.heap.size w (w.alloc (.cells #[.int .i64 a, .int .i64 b, .int .i64 c, .int .i64 m] 36)) := by go_grown
  have HC : Hid _ := hc
  clear hc
  cases h1 : acctOk a
  · have HE : Hid (entryOk (a, b, c, m) = false) := by simp [Hid, entryOk, h1]
    have H1 : Hid _ := h1
    clear h1
    go_enter Tryd.func16, Tryd.ntmps16
    go_wp2_with fail
    refine (iAcct_is H1.out _).mono ?_
    rintro e w1 ⟨rfl, hw⟩
    rw [hw]
    clear hw
    go_wp2
    go_ret
    exact ⟨one_bool HE.out.symm, bel⟩
  have H1 : Hid _ := h1
  cases h2 : acctOk b
  · have HE : Hid (entryOk (a, b, c, m) = false) := by simp [Hid, entryOk, h2]
    have H2 : Hid _ := h2
    clear h1 h2
    go_enter Tryd.func16, Tryd.ntmps16
    go_wp2_with fail
    refine (iAcct_is H1.out _).mono ?_
    rintro e w1 ⟨rfl, hw⟩
    rw [hw]
    clear hw
    go_wp2_with fail
    refine (iAcct_is H2.out _).mono ?_
    rintro e w2 ⟨rfl, hw⟩
    rw [hw]
    clear hw
    go_wp2
    go_ret
    exact ⟨one_bool HE.out.symm, bel⟩
  have H2 : Hid _ := h2
  by_cases h3 : a = b
  · have HE : Hid (entryOk (a, b, c, m) = false) := by simp [Hid, entryOk, h3]
    have h3' : (a != b) = false := by simpa using h3
    clear h1 h2 h3
    go_enter Tryd.func16, Tryd.ntmps16
    go_wp2_with fail
    refine (iAcct_is H1.out _).mono ?_
    rintro e w1 ⟨rfl, hw⟩
    rw [hw]
    clear hw
    go_wp2_with fail
    refine (iAcct_is H2.out _).mono ?_
    rintro e w2 ⟨rfl, hw⟩
    rw [hw]
    clear hw
    go_wp2
    go_ret
    exact ⟨one_bool HE.out.symm, bel⟩
  have h3' : (a != b) = true := by simpa using h3
  have hx : ∀ q : Bool, (decide (0 ≤ digs c) && decide (1 ≤ m ∧ m ≤ 1000000000000)) = q → entryOk (a, b, c, m) = q := by
    intro q hq
    simp only [entryOk, h1, h2, Bool.true_and, decide_eq_true h3]
    exact hq
  obtain ⟨d, hd⟩ : ∃ d, digs c = d := ⟨_, rfl⟩
  have HD : Hid _ := hd
  have HE : Hid (entryOk (a, b, c, m) = (decide (0 ≤ d) && decide (1 ≤ m ∧ m ≤ 1000000000000))) := hx _ (by rw [hd])
  clear hx hd h3 h1 h2
  go_enter Tryd.func16, Tryd.ntmps16
  go_wp2_with fail
  refine (iAcct_is H1.out _).mono ?_
  rintro e w1 ⟨rfl, hw⟩
  rw [hw]
  clear hw
  go_wp2_with fail
  refine (iAcct_is H2.out _).mono ?_
  rintro e w2 ⟨rfl, hw⟩
  rw [hw]
  clear hw
  go_wp2_with fail
  refine (iDigs_is _ d HD.out HC.out).mono ?_
  rintro e w3 ⟨rfl, b3⟩
  have x3 := (b3.cell (p := ⟨w.heap.size, 3, none⟩) (by simp)).trans (show _ = some (.int .i64 m) by simp)
  have q3 := bel.trans (b3.mono bel.size)
  clear b3 bel
  by_cases h4 : 0 ≤ d
  · by_cases h5 : 1 ≤ m
    · by_cases h6 : m ≤ 1000000000000
      · have HX : Hid (entryOk (a, b, c, m) = true) := by rw [Hid, HE.out]; simp [h4, h5, h6]
        clear HE
        go_wp2
        go_ret
        exact ⟨one_bool HX.out.symm, q3⟩
      · have HX : Hid (entryOk (a, b, c, m) = false) := by rw [Hid, HE.out]; simp [h6]
        have H6 : Hid (decide (m ≤ 1000000000000) = false) := decide_eq_false h6
        clear HE
        go_wp2
        go_ret
        exact ⟨one_bool (by rw [HX.out, H6.out]), q3⟩
    · have HX : Hid (entryOk (a, b, c, m) = false) := by rw [Hid, HE.out]; simp [h5]
      clear HE
      go_wp2
      go_ret
      exact ⟨one_bool HX.out.symm, q3⟩
  · have HX : Hid (entryOk (a, b, c, m) = false) := by rw [Hid, HE.out]; simp [h4]
    clear HE
    go_wp2
    go_ret
    exact ⟨one_bool HX.out.symm, q3⟩


end Go.Proofs.YtpjfigjgamlcdaaDoor
