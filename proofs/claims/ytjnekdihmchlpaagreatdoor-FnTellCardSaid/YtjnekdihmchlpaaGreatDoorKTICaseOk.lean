/- The contract of the program's CaseOk. -/
import Derived.Test.YtjnekdihmchlpaaGreatDoorJT1a
import Derived.Test.YtjnekdihmchlpaaGreatDoorKTRReas
import Derived.Deep.DeepCutAuto
namespace Go.Proofs.YtjnekdihmchlpaaGreatDoor
open Go.RowKit
set_option maxRecDepth 100000

def stOk (x : Int) : Bool := decide (0 ≤ x ∧ x ≤ 7)
set_option maxHeartbeats 400000 in
theorem iStOk_any (x : Int) (w : World) : Calls Tryz.prog 44 #[.int .i64 x] w fun e w' => e = .returned (.bool (stOk x)) ∧ w' = w := by
  by_cases h1 : 0 ≤ x
  · by_cases h2 : x < 8
    · have HE : Hid (stOk x = true) := decide_eq_true ⟨h1, by omega⟩
      go_enter Tryz.func44, Tryz.ntmps44
      go_wp2
      go_ret
      exact ⟨one_bool HE.out.symm, rfl⟩
    · have HE : Hid (stOk x = false) := decide_eq_false (by omega)
      go_enter Tryz.func44, Tryz.ntmps44
      go_wp2
      go_ret
      exact ⟨one_bool HE.out.symm, rfl⟩
  · have HE : Hid (stOk x = false) := decide_eq_false (by omega)
    go_enter Tryz.func44, Tryz.ntmps44
    go_wp2
    go_ret
    exact ⟨one_bool HE.out.symm, rfl⟩

set_option maxHeartbeats 400000 in
theorem iParty_any (x : Int) (w : World) : Calls Tryz.prog 50 #[.int .i64 x] w fun e w' => e = .returned (.bool (party x)) ∧ w' = w := by
  cases h : acctOk x
  · have HE : Hid (party x = false) := by simp [Hid, party, h]
    go_enter Tryz.func50, Tryz.ntmps50
    go_wp2_with fail
    refine (iAcct_is h _).mono ?_
    rintro e w1 ⟨rfl, hw⟩
    subst hw
    go_wp2
    go_ret
    exact ⟨one_bool HE.out.symm, rfl⟩
  · have HE : Hid (party x = (x != 9999)) := by
      simp only [Hid, party, h, Bool.true_and]
      by_cases h9 : x = 9999 <;> simp [h9]
    go_enter Tryz.func50, Tryz.ntmps50
    go_wp2_with fail
    refine (iAcct_is h _).mono ?_
    rintro e w1 ⟨rfl, hw⟩
    subst hw
    go_wp2
    go_ret
    exact ⟨one_bool HE.out.symm, rfl⟩

set_option maxHeartbeats 1600000 in
theorem iReasAt_any (r st : Int) (w : World) : Calls Tryz.prog 52 #[.int .i64 r, .int .i64 st] w fun e w' => e = .returned (.bool (reasonOkAt r st)) ∧ Below w.heap.size w w' := by
  by_cases he : st = 0 ∨ st = 1 ∨ st = 2 ∨ st = 7
  · have hE : early st = true := by rcases he with rfl | rfl | rfl | rfl <;> rfl
    by_cases h0 : r = 0
    · have HE : Hid (reasonOkAt r st = true) := by simp [Hid, reasonOkAt, hE, h0]
      subst h0
      clear hE
      rcases he with rfl | rfl | rfl | rfl
      iterate 4
        · go_enter Tryz.func52, Tryz.ntmps52
          go_wp2
          go_ret
          exact ⟨one_bool HE.out.symm, Below.refl _ _⟩
    · have HE : Hid (reasonOkAt r st = rOk r) := by simp [Hid, reasonOkAt, h0]
      have h0' := beq_no h0
      clear hE h0
      rcases he with rfl | rfl | rfl | rfl
      iterate 4
        · go_enter Tryz.func52, Tryz.ntmps52
          go_wp2_with fail
          refine (iROk_any r _).mono ?_
          rintro e w1 ⟨rfl, b1⟩
          go_wp2
          go_ret
          exact ⟨one_bool HE.out.symm, b1⟩
  · have hE : early st = false := by simp [early]; omega
    have HE : Hid (reasonOkAt r st = rOk r) := by simp [Hid, reasonOkAt, hE]
    have g0 : (st == 0) = false := beq_no (by omega)
    have g1 : (st == 1) = false := beq_no (by omega)
    have g2 : (st == 2) = false := beq_no (by omega)
    have g7 : (st == 7) = false := beq_no (by omega)
    clear hE he
    go_enter Tryz.func52, Tryz.ntmps52
    go_wp2_with fail
    refine (iROk_any r _).mono ?_
    rintro e w1 ⟨rfl, b1⟩
    go_wp2
    go_ret
    exact ⟨one_bool HE.out.symm, b1⟩

set_option maxHeartbeats 6400000 in
theorem iCaseOk_any (c : Cs) (w : World) (hc : (Lit.int .i64 c.cur).wf = true) :
    Calls Tryz.prog 20 #[cv c] w fun e w' => e = .returned (.bool (caseOk c)) ∧ Below w.heap.size w w' := by
  obtain ⟨W, hW⟩ : ∃ W, W = w.alloc (.cells #[.int .i64 c.iss, .int .i64 c.acq, .int .i64 c.cur, .int .i64 c.am, .int .i64 c.st, .int .i64 c.rsn, .int .i64 c.cl, .int .i64 c.bk, .int .i64 c.fee, .bool c.cop, .int .i64 c.sta, .int .i64 c.due] 25) := ⟨_, rfl⟩
  have B : CB w.heap.size 0 c W := by rw [hW]; exact CB.new w c _
  have bW : Below w.heap.size w W := by rw [hW]; exact (Below.refl _ _).alloc (Nat.le_refl _) _
  obtain ⟨iss, acq, cur, am, st, rsn, cl, bk, fee, cop, sta, due⟩ := c
  unfold cv
  simp only at hW hc ⊢
  have HBC : Hid (CB w.heap.size 0 ⟨iss, acq, cur, am, st, rsn, cl, bk, fee, cop, sta, due⟩ W) := B
  have HC : Hid _ := hc
  have HW : Hid _ := hW
  have HBW : Hid (Below w.heap.size w W) := bW
  obtain ⟨f0, f1, f2, f3, f4, f5, f6, f7, f8, f9, f10, f11⟩ := B
  simp only [Nat.zero_add] at f0 f1 f2 f3 f4 f5 f6 f7 f8 f9 f10 f11
  clear hc hW bW f9
  go_enter Tryz.func20, Tryz.ntmps20
  go_upto_region 1 with fail
  rw [← HW.out]
  go_wp2_with fail
  refine (iParty_any iss _).mono ?_
  rintro e w1 ⟨rfl, hw⟩
  rw [hw]
  clear hw
  cases h1 : party iss
  · have HE : Hid (caseOk ⟨iss, acq, cur, am, st, rsn, cl, bk, fee, cop, sta, due⟩ = false) := by simp [Hid, caseOk, h1]
    clear h1
    go_wp2
    go_ret
    exact ⟨one_bool HE.out.symm, HBW.out⟩
  go_wp2_with fail
  refine (iParty_any acq _).mono ?_
  rintro e w1 ⟨rfl, hw⟩
  rw [hw]
  clear hw
  cases h2 : party acq
  · have HE : Hid (caseOk ⟨iss, acq, cur, am, st, rsn, cl, bk, fee, cop, sta, due⟩ = false) := by simp [Hid, caseOk, h2]
    clear h1 h2
    go_wp2
    go_ret
    exact ⟨one_bool HE.out.symm, HBW.out⟩
  by_cases h3 : iss = acq
  · have HE : Hid (caseOk ⟨iss, acq, cur, am, st, rsn, cl, bk, fee, cop, sta, due⟩ = false) := by simp [Hid, caseOk, h3]
    have h3' : (iss == acq) = true := by simpa using h3
    clear h1 h2 h3
    go_wp2
    go_ret
    exact ⟨one_bool HE.out.symm, HBW.out⟩
  have h3' := beq_no h3
  have H1 : Hid _ := h1
  have H2 : Hid _ := h2
  have H3 : Hid (decide (iss ≠ acq) = true) := decide_eq_true h3
  obtain ⟨d, hd⟩ : ∃ d, digs cur = d := ⟨_, rfl⟩
  have HD : Hid _ := hd
  clear h1 h2 h3 hd
  go_wp2_with fail
  refine (iDigs_is _ d HD.out HC.out).mono ?_
  rintro e w3 ⟨rfl, b3⟩
  have B3 := HBC.out.below b3
  have HB3 : Hid (Below w.heap.size w w3) := next HBW.out b3
  clear b3 f0 f1 f2 f3 f4 f5 f6 f7 f8 f10 f11 h3'
  have HBC3 : Hid (CB w.heap.size 0 ⟨iss, acq, cur, am, st, rsn, cl, bk, fee, cop, sta, due⟩ w3) := B3
  obtain ⟨f0, f1, f2, f3, f4, f5, f6, f7, f8, f9, f10, f11⟩ := B3
  simp only [Nat.zero_add] at f0 f1 f2 f3 f4 f5 f6 f7 f8 f9 f10 f11
  clear f9 f0 f1 f2
  by_cases h4 : d < 0
  · have HE : Hid (caseOk ⟨iss, acq, cur, am, st, rsn, cl, bk, fee, cop, sta, due⟩ = false) := by
      have : ¬ 0 ≤ digs cur := by rw [HD.out]; omega
      simp [Hid, caseOk, this]
    go_wp2
    go_ret
    exact ⟨one_bool HE.out.symm, HB3.out⟩
  by_cases h5 : am < 1
  · have HE : Hid (caseOk ⟨iss, acq, cur, am, st, rsn, cl, bk, fee, cop, sta, due⟩ = false) := by
      have : ¬ (1 ≤ am ∧ am ≤ 100000000000) := by omega
      simp [Hid, caseOk, this]
    go_wp2
    go_ret
    exact ⟨one_bool HE.out.symm, HB3.out⟩
  by_cases h6 : 100000000000 < am
  · have HE : Hid (caseOk ⟨iss, acq, cur, am, st, rsn, cl, bk, fee, cop, sta, due⟩ = false) := by
      have : ¬ (1 ≤ am ∧ am ≤ 100000000000) := by omega
      simp [Hid, caseOk, this]
    go_wp2
    go_ret
    exact ⟨one_bool HE.out.symm, HB3.out⟩
  have H4 : Hid (0 ≤ digs cur) := by rw [Hid, HD.out]; omega
  have H5 : Hid (1 ≤ am ∧ am ≤ 100000000000) := ⟨by omega, by omega⟩
  clear HD
  go_wp2_with fail
  refine (iStOk_any st _).mono ?_
  rintro e w4 ⟨rfl, hw⟩
  rw [hw]
  clear hw
  cases h7 : stOk st
  · have HE : Hid (caseOk ⟨iss, acq, cur, am, st, rsn, cl, bk, fee, cop, sta, due⟩ = false) := by
      have h : decide (0 ≤ st ∧ st ≤ 7) = false := h7
      simp only [Hid, caseOk, h, Bool.false_and, Bool.and_false]
    clear h7
    go_wp2
    go_ret
    exact ⟨one_bool HE.out.symm, HB3.out⟩
  have H7 : Hid (decide (0 ≤ st ∧ st ≤ 7) = true) := h7
  clear h7 h4 h5 h6
  go_wp2_with fail
  refine (iReasAt_any rsn st _).mono ?_
  rintro e w5 ⟨rfl, b5⟩
  have B5 := HBC3.out.below b5
  have HB5 : Hid (Below w.heap.size w w5) := next HB3.out b5
  clear b5 f3 f4 f5 f6 f7 f8 f10 f11
  obtain ⟨f0, f1, f2, f3, f4, f5, f6, f7, f8, f9, f10, f11⟩ := B5
  simp only [Nat.zero_add] at f0 f1 f2 f3 f4 f5 f6 f7 f8 f9 f10 f11
  clear f9 f0 f1 f2 f4 f5
  cases h8 : reasonOkAt rsn st
  · have HE : Hid (caseOk ⟨iss, acq, cur, am, st, rsn, cl, bk, fee, cop, sta, due⟩ = false) := by simp [Hid, caseOk, h8]
    clear h8
    go_wp2
    go_ret
    exact ⟨one_bool HE.out.symm, HB5.out⟩
  have H8 : Hid _ := h8
  clear h8
  by_cases h9 : cl < 0
  · have HE : Hid (caseOk ⟨iss, acq, cur, am, st, rsn, cl, bk, fee, cop, sta, due⟩ = false) := by
      have : ¬ (0 ≤ cl ∧ cl ≤ am) := by omega
      simp [Hid, caseOk, this]
    go_wp2
    go_ret
    exact ⟨one_bool HE.out.symm, HB5.out⟩
  by_cases h10 : am < cl
  · have HE : Hid (caseOk ⟨iss, acq, cur, am, st, rsn, cl, bk, fee, cop, sta, due⟩ = false) := by
      have : ¬ (0 ≤ cl ∧ cl ≤ am) := by omega
      simp [Hid, caseOk, this]
    go_wp2
    go_ret
    exact ⟨one_bool HE.out.symm, HB5.out⟩
  by_cases h11 : bk < 0
  · have HE : Hid (caseOk ⟨iss, acq, cur, am, st, rsn, cl, bk, fee, cop, sta, due⟩ = false) := by
      have : ¬ (0 ≤ bk ∧ bk ≤ am) := by omega
      simp [Hid, caseOk, this]
    go_wp2
    go_ret
    exact ⟨one_bool HE.out.symm, HB5.out⟩
  by_cases h12 : am < bk
  · have HE : Hid (caseOk ⟨iss, acq, cur, am, st, rsn, cl, bk, fee, cop, sta, due⟩ = false) := by
      have : ¬ (0 ≤ bk ∧ bk ≤ am) := by omega
      simp [Hid, caseOk, this]
    go_wp2
    go_ret
    exact ⟨one_bool HE.out.symm, HB5.out⟩
  by_cases h13 : fee < 0
  · have HE : Hid (caseOk ⟨iss, acq, cur, am, st, rsn, cl, bk, fee, cop, sta, due⟩ = false) := by
      have : ¬ (0 ≤ fee ∧ fee ≤ 500000) := by omega
      simp [Hid, caseOk, this]
    go_wp2
    go_ret
    exact ⟨one_bool HE.out.symm, HB5.out⟩
  by_cases h14 : 500000 < fee
  · have HE : Hid (caseOk ⟨iss, acq, cur, am, st, rsn, cl, bk, fee, cop, sta, due⟩ = false) := by
      have : ¬ (0 ≤ fee ∧ fee ≤ 500000) := by omega
      simp [Hid, caseOk, this]
    go_wp2
    go_ret
    exact ⟨one_bool HE.out.symm, HB5.out⟩
  have HE : Hid (caseOk ⟨iss, acq, cur, am, st, rsn, cl, bk, fee, cop, sta, due⟩ = (dOk sta && (dOk due || decide (due = -1)))) := by
    have g1 : (0 ≤ cl ∧ cl ≤ am) := ⟨by omega, by omega⟩
    have g2 : (0 ≤ bk ∧ bk ≤ am) := ⟨by omega, by omega⟩
    have g3 : (0 ≤ fee ∧ fee ≤ 500000) := ⟨by omega, by omega⟩
    simp only [Hid, caseOk, H1.out, H2.out, H7.out, H8.out, H3.out, decide_eq_true H4.out, decide_eq_true H5.out, decide_eq_true g1, decide_eq_true g2, decide_eq_true g3, Bool.true_and]
  clear HBC HBC3 HBW HB3 H1 H2 H3 H4 H5 H7 H8
  go_wp2_with fail
  refine (iDayOk_any sta _).mono ?_
  rintro e w6 ⟨rfl, hw⟩
  rw [hw]
  clear hw
  cases h15 : dOk sta
  · rw [h15, Bool.false_and] at HE
    clear h15
    go_wp2
    go_ret
    exact ⟨one_bool HE.out.symm, HB5.out⟩
  rw [h15, Bool.true_and] at HE
  clear h15
  go_wp2_with fail
  refine (iDayOk_any due _).mono ?_
  rintro e w7 ⟨rfl, hw⟩
  rw [hw]
  clear hw
  cases h16 : dOk due
  · rw [h16, Bool.false_or] at HE
    clear h16
    by_cases h17 : due = -1
    · rw [decide_eq_true h17] at HE
      have h17' : (due == -1) = true := by simpa using h17
      clear h17
      go_wp2
      go_ret
      exact ⟨one_bool HE.out.symm, HB5.out⟩
    · rw [decide_eq_false h17] at HE
      have h17' := beq_no h17
      clear h17
      go_wp2
      go_ret
      exact ⟨one_bool HE.out.symm, HB5.out⟩
  · rw [h16, Bool.true_or] at HE
    clear h16
    go_wp2
    go_ret
    exact ⟨one_bool HE.out.symm, HB5.out⟩

end Go.Proofs.YtjnekdihmchlpaaGreatDoor
