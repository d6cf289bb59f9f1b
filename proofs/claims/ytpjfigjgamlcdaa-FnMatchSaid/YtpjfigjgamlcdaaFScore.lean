/- The contract of the program's MatchScore: how near an authorization is, for every authorization and every four numbers. -/
import Derived.Test.YtpjfigjgamlcdaaFAuOk
import Derived.Test.YtpjfigjgamlcdaaAuBox
import Derived.Deep.DeepCutAuto
namespace Go.Proofs.Ytpjfigjgamlcdaa
open Go.RowKit
set_option maxRecDepth 100000

theorem wf_bd {x : Int} (h : (Lit.int .i64 x).wf = true) : -9223372036854775808 ≤ x ∧ x ≤ 9223372036854775807 := by
  simpa [Lit.wf, IntKind.min, IntKind.max, IntKind.signed, IntKind.bits] using h
theorem score_no {a : Au} {iss cur am day : Int} (h : canV a iss cur am day = false) : scoreV a iss cur am day = -1 := by rw [scoreV, if_neg (by rw [h]; decide)]
theorem score_yes {a : Au} {iss cur am day : Int} (h : canV a iss cur am day = true) : scoreV a iss cur am day = 8 * absV (am - a.am) + day - a.day := by rw [scoreV, if_pos h]
theorem can_is (a : Au) (iss cur am day : Int) : canV a iss cur am day = (auOk a && (!a.used && (decide (a.iss = iss) && (decide (a.cur = cur) && (timeOk a day && sumOk a am))))) := rfl
theorem abs_max (x : Int) : max x (-x) = absV x := by unfold absV; split <;> omega

set_option maxHeartbeats 800000 in
theorem iTime_any (a : Au) (day : Int) (w : World) (hd : 0 ≤ a.day ∧ a.day ≤ 80000) (hb : day ≤ 9223372036854775807) :
    Calls Try.prog 39 #[auv a, .int .i64 day] w fun e w' => e = .returned (.bool (timeOk a day)) ∧ Below w.heap.size w w' := by
  obtain ⟨r, i, c, m, d, u⟩ := a
  simp only [auv] at hd ⊢
  have b0 : ∀ o, Below w.heap.size w (w.alloc o) := fun o => (Below.refl _ _).alloc (Nat.le_refl _) _
  by_cases h1 : d ≤ day
  · by_cases h2 : day - d ≤ 7
    · have HV : Hid (timeOk ⟨r, i, c, m, d, u⟩ day = true) := by rw [Hid, timeOk]; exact decide_eq_true (show d ≤ day ∧ day ≤ d + 7 by omega)
      go_enter Try.func39, Try.ntmps39
      go_wp2
      go_ret
      exact ⟨one_bool HV.out.symm, b0 _⟩
    · have HV : Hid (timeOk ⟨r, i, c, m, d, u⟩ day = false) := by rw [Hid, timeOk]; exact decide_eq_false (show ¬ (d ≤ day ∧ day ≤ d + 7) by omega)
      go_enter Try.func39, Try.ntmps39
      go_wp2
      go_ret
      exact ⟨one_bool HV.out.symm, b0 _⟩
  · have HV : Hid (timeOk ⟨r, i, c, m, d, u⟩ day = false) := by rw [Hid, timeOk]; exact decide_eq_false (show ¬ (d ≤ day ∧ day ≤ d + 7) by omega)
    go_enter Try.func39, Try.ntmps39
    go_wp2
    go_ret
    exact ⟨one_bool HV.out.symm, b0 _⟩

set_option maxHeartbeats 800000 in
theorem iSum_any (a : Au) (am : Int) (w : World) (hd : 1 ≤ a.am ∧ a.am ≤ 100000000000) :
    Calls Try.prog 40 #[auv a, .int .i64 am] w fun e w' => e = .returned (.bool (sumOk a am)) ∧ Below w.heap.size w w' := by
  obtain ⟨r, i, c, m, d, u⟩ := a
  simp only [auv] at hd ⊢
  have b0 : ∀ o, Below w.heap.size w (w.alloc o) := fun o => (Below.refl _ _).alloc (Nat.le_refl _) _
  have hq : m.tdiv 10 = m / 10 := Int.tdiv_eq_ediv_of_nonneg (by omega)
  obtain ⟨t, ht⟩ : ∃ t, m / 10 = t := ⟨_, rfl⟩
  have ht1 : 0 ≤ t ∧ t ≤ 10000000000 := by omega
  have HV : Hid (sumOk ⟨r, i, c, m, d, u⟩ am = decide (1 ≤ am ∧ am ≤ m + t)) := by rw [Hid, sumOk, ht]
  rw [ht] at hq
  by_cases h1 : 1 ≤ am
  · by_cases h2 : am ≤ m + t
    · have HW : Hid (sumOk ⟨r, i, c, m, d, u⟩ am = true) := by rw [Hid, HV.out]; exact decide_eq_true ⟨h1, h2⟩
      clear HV
      go_enter Try.func40, Try.ntmps40
      go_wp2
      go_ret
      exact ⟨one_bool HW.out.symm, b0 _⟩
    · have HW : Hid (sumOk ⟨r, i, c, m, d, u⟩ am = false) := by rw [Hid, HV.out]; exact decide_eq_false (fun h => h2 h.2)
      clear HV
      go_enter Try.func40, Try.ntmps40
      go_wp2
      go_ret
      exact ⟨one_bool HW.out.symm, b0 _⟩
  · have HW : Hid (sumOk ⟨r, i, c, m, d, u⟩ am = false) := by rw [Hid, HV.out]; exact decide_eq_false (fun h => h1 h.1)
    clear HV
    go_enter Try.func40, Try.ntmps40
    go_wp2
    go_ret
    exact ⟨one_bool HW.out.symm, b0 _⟩

set_option maxHeartbeats 3200000 in
theorem iScore_any (a : Au) (iss cur am day : Int) (w : World) (hl : a.ref.length ≤ 1099511627776) (hc : wf64 a.cur) (_w3 : (Lit.int .i64 am).wf = true) (w4 : (Lit.int .i64 day).wf = true) :
    Calls Try.prog 15 #[auv a, .int .i64 iss, .int .i64 cur, .int .i64 am, .int .i64 day] w fun e w' => e = .returned (.int .i64 (scoreV a iss cur am day)) ∧ Below w.heap.size w w' := by
  have hday := wf_bd w4
  have HV := can_is a iss cur am day
  obtain ⟨q, hq⟩ : ∃ q, auOk a = q := ⟨_, rfl⟩
  have HO : Hid (∀ u, Calls Try.prog 25 #[auv a] u fun e w' => e = .returned (.bool q) ∧ Below u.heap.size u w') := fun u => by rw [← hq]; exact iAuthOk_any a u hl hc
  have HN : Hid (canV a iss cur am day = false → scoreV a iss cur am day = -1) := score_no
  have HY : Hid (canV a iss cur am day = true → scoreV a iss cur am day = 8 * absV (am - a.am) + day - a.day) := score_yes
  obtain ⟨W, hW⟩ : ∃ W, W = w.alloc (.cells #[.string ⟨a.ref.toArray⟩, .int .i64 a.iss, .int .i64 a.cur, .int .i64 a.am, .int .i64 a.day, .bool a.used] 30) := ⟨_, rfl⟩
  have B : AuB w.heap.size a W := by rw [hW]; exact AuB.new w a _
  have HBB : Hid (AuB w.heap.size a W) := B
  have bW : Below w.heap.size w W := by rw [hW]; exact (Below.refl _ _).alloc (Nat.le_refl _) _
  have HBW : Hid (Below w.heap.size w W) := bW
  clear bW _w3 w4
  cases q
  · have HE : Hid (scoreV a iss cur am day = -1) := HN.out (by rw [HV, hq]; rfl)
    clear HV HN HY hq HBB
    obtain ⟨r, i, c, m, d, u⟩ := a
    unfold auv at HO ⊢
    simp only at hW HO ⊢
    have HW : Hid _ := hW
    obtain ⟨f0, f1, f2, f3, f4, f5⟩ := B
    clear hW
    go_enter Try.func15, Try.ntmps15
    go_upto_region 1 with fail
    rw [← HW.out]
    go_wp2_with fail
    refine (HO.out _).mono ?_
    rintro e u1 ⟨rfl, b1⟩
    have HB1 : Hid (Below w.heap.size w u1) := next HBW.out b1
    clear b1 f0 f1 f2 f3 f4 f5
    go_wp2
    go_ret
    exact ⟨one_int HE.out.symm, HB1.out⟩
  obtain ⟨-, -, -, hmm, hdd⟩ := auOk_parts hq
  have hdb := dOk_bd hdd
  have HT : Hid (∀ u, Calls Try.prog 39 #[auv a, .int .i64 day] u fun e w' => e = .returned (.bool (timeOk a day)) ∧ Below u.heap.size u w') := fun u => iTime_any a day u hdb hday.2
  have HS : Hid (∀ u, Calls Try.prog 40 #[auv a, .int .i64 am] u fun e w' => e = .returned (.bool (sumOk a am)) ∧ Below u.heap.size u w') := fun u => iSum_any a am u hmm
  have HTB : Hid (timeOk a day = true → a.day ≤ day ∧ day ≤ a.day + 7) := fun h => of_decide_eq_true h
  have HSB : Hid (sumOk a am = true → 1 ≤ am ∧ am ≤ a.am + a.am / 10) := fun h => of_decide_eq_true h
  rw [hq, Bool.true_and] at HV
  clear hq hdd
  cases hu : a.used
  · rw [hu, Bool.not_false, Bool.true_and] at HV
    cases hi : (a.iss != iss)
    · have hi' : decide (a.iss = iss) = true := decide_eq_true (by simpa using hi)
      rw [hi', Bool.true_and] at HV
      cases hcu : (a.cur != cur)
      · have hc' : decide (a.cur = cur) = true := decide_eq_true (by simpa using hcu)
        rw [hc', Bool.true_and] at HV
        cases ht : timeOk a day
        · have HE : Hid (scoreV a iss cur am day = -1) := HN.out (by rw [HV, ht]; rfl)
          rw [ht] at HT
          clear HV HN HY ht HS HTB HSB hi' hc'
          obtain ⟨r, i, c, m, d, u⟩ := a
          unfold auv at HO HT ⊢
          simp only at hW HO HT hu hi hcu hmm hdb ⊢
          subst hu
          have HW : Hid _ := hW
          obtain ⟨f0, f1, f2, f3, f4, f5⟩ := B
          clear hW
          go_enter Try.func15, Try.ntmps15
          go_upto_region 1 with fail
          rw [← HW.out]
          go_wp2_with fail
          refine (HO.out _).mono ?_
          rintro e u1 ⟨rfl, b1⟩
          have B1 := HBB.out.below b1
          have HB1 : Hid (Below w.heap.size w u1) := next HBW.out b1
          clear b1 f0 f1 f2 f3 f4 f5
          obtain ⟨f0, f1, f2, f3, f4, f5⟩ := B1
          simp only at f0 f1 f2 f3 f4 f5
          go_wp2_with fail
          refine (HT.out _).mono ?_
          rintro e u2 ⟨rfl, b2⟩
          have HB2 : Hid (Below w.heap.size w u2) := next HB1.out b2
          clear b2 f0 f1 f2 f3 f4 f5
          go_wp2
          go_ret
          exact ⟨one_int HE.out.symm, HB2.out⟩
        · rw [ht, Bool.true_and] at HV
          rw [ht] at HT
          have htb := HTB.out ht
          cases hs : sumOk a am
          · have HE : Hid (scoreV a iss cur am day = -1) := HN.out (by rw [HV, hs])
            rw [hs] at HS
            clear HV HN HY ht HTB HSB hi' hc' hs htb
            obtain ⟨r, i, c, m, d, u⟩ := a
            unfold auv at HO HT HS ⊢
            simp only at hW HO HT HS hu hi hcu hmm hdb ⊢
            subst hu
            have HW : Hid _ := hW
            obtain ⟨f0, f1, f2, f3, f4, f5⟩ := B
            clear hW
            go_enter Try.func15, Try.ntmps15
            go_upto_region 1 with fail
            rw [← HW.out]
            go_wp2_with fail
            refine (HO.out _).mono ?_
            rintro e u1 ⟨rfl, b1⟩
            have B1 := HBB.out.below b1
            have HBB1 : Hid (AuB w.heap.size ⟨r, i, c, m, d, false⟩ u1) := B1
            have HB1 : Hid (Below w.heap.size w u1) := next HBW.out b1
            clear b1 f0 f1 f2 f3 f4 f5
            obtain ⟨f0, f1, f2, f3, f4, f5⟩ := B1
            simp only at f0 f1 f2 f3 f4 f5
            go_wp2_with fail
            refine (HT.out _).mono ?_
            rintro e u2 ⟨rfl, b2⟩
            have B2 := HBB1.out.below b2
            have HB2 : Hid (Below w.heap.size w u2) := next HB1.out b2
            clear b2 f0 f1 f2 f3 f4 f5
            obtain ⟨f0, f1, f2, f3, f4, f5⟩ := B2
            simp only at f0 f1 f2 f3 f4 f5
            go_wp2_with fail
            refine (HS.out _).mono ?_
            rintro e u3 ⟨rfl, b3⟩
            have HB3 : Hid (Below w.heap.size w u3) := next HB2.out b3
            clear b3 f0 f1 f2 f3 f4 f5
            go_wp2
            go_ret
            exact ⟨one_int HE.out.symm, HB3.out⟩
          · have hsb := HSB.out hs
            have HE : Hid (scoreV a iss cur am day = 8 * max (am - a.am) (-(am - a.am)) + day - a.day) := by rw [Hid, HY.out (by rw [HV, hs]), abs_max]
            rw [hs] at HS
            have hmx : 0 ≤ max (am - a.am) (-(am - a.am)) ∧ max (am - a.am) (-(am - a.am)) ≤ 100000000000 := by omega
            clear HV HN HY ht HTB HSB hi' hc' hs
            obtain ⟨r, i, c, m, d, u⟩ := a
            unfold auv at HO HT HS ⊢
            simp only at hW HO HT HS hu hi hcu hmm hdb htb hsb HE hmx ⊢
            subst hu
            have HW : Hid _ := hW
            obtain ⟨f0, f1, f2, f3, f4, f5⟩ := B
            clear hW
            go_enter Try.func15, Try.ntmps15
            go_upto_region 1 with fail
            rw [← HW.out]
            go_wp2_with fail
            refine (HO.out _).mono ?_
            rintro e u1 ⟨rfl, b1⟩
            have B1 := HBB.out.below b1
            have HBB1 : Hid (AuB w.heap.size ⟨r, i, c, m, d, false⟩ u1) := B1
            have HB1 : Hid (Below w.heap.size w u1) := next HBW.out b1
            clear b1 f0 f1 f2 f3 f4 f5
            obtain ⟨f0, f1, f2, f3, f4, f5⟩ := B1
            simp only at f0 f1 f2 f3 f4 f5
            go_wp2_with fail
            refine (HT.out _).mono ?_
            rintro e u2 ⟨rfl, b2⟩
            have B2 := HBB1.out.below b2
            have HBB2 : Hid (AuB w.heap.size ⟨r, i, c, m, d, false⟩ u2) := B2
            have HB2 : Hid (Below w.heap.size w u2) := next HB1.out b2
            clear b2 f0 f1 f2 f3 f4 f5
            obtain ⟨f0, f1, f2, f3, f4, f5⟩ := B2
            simp only at f0 f1 f2 f3 f4 f5
            go_wp2_with fail
            refine (HS.out _).mono ?_
            rintro e u3 ⟨rfl, b3⟩
            have B3 := HBB2.out.below b3
            have HB3 : Hid (Below w.heap.size w u3) := next HB2.out b3
            clear b3 f0 f1 f2 f3 f4 f5
            obtain ⟨f0, f1, f2, f3, f4, f5⟩ := B3
            simp only at f0 f1 f2 f3 f4 f5
            go_wp2
            go_ret
            exact ⟨one_int HE.out.symm, HB3.out⟩
      · have hc' : decide (a.cur = cur) = false := decide_eq_false (by simpa using hcu)
        have HE : Hid (scoreV a iss cur am day = -1) := HN.out (by rw [HV, hc']; rfl)
        clear HV HN HY HT HS HTB HSB hi' hc'
        obtain ⟨r, i, c, m, d, u⟩ := a
        unfold auv at HO ⊢
        simp only at hW HO hu hi hcu hmm hdb ⊢
        subst hu
        have HW : Hid _ := hW
        obtain ⟨f0, f1, f2, f3, f4, f5⟩ := B
        clear hW
        go_enter Try.func15, Try.ntmps15
        go_upto_region 1 with fail
        rw [← HW.out]
        go_wp2_with fail
        refine (HO.out _).mono ?_
        rintro e u1 ⟨rfl, b1⟩
        have B1 := HBB.out.below b1
        have HB1 : Hid (Below w.heap.size w u1) := next HBW.out b1
        clear b1 f0 f1 f2 f3 f4 f5
        obtain ⟨f0, f1, f2, f3, f4, f5⟩ := B1
        simp only at f0 f1 f2 f3 f4 f5
        go_wp2
        go_ret
        exact ⟨one_int HE.out.symm, HB1.out⟩
    · have hi' : decide (a.iss = iss) = false := decide_eq_false (by simpa using hi)
      have HE : Hid (scoreV a iss cur am day = -1) := HN.out (by rw [HV, hi']; rfl)
      clear HV HN HY HT HS HTB HSB hi'
      obtain ⟨r, i, c, m, d, u⟩ := a
      unfold auv at HO ⊢
      simp only at hW HO hu hi hmm hdb ⊢
      subst hu
      have HW : Hid _ := hW
      obtain ⟨f0, f1, f2, f3, f4, f5⟩ := B
      clear hW
      go_enter Try.func15, Try.ntmps15
      go_upto_region 1 with fail
      rw [← HW.out]
      go_wp2_with fail
      refine (HO.out _).mono ?_
      rintro e u1 ⟨rfl, b1⟩
      have B1 := HBB.out.below b1
      have HB1 : Hid (Below w.heap.size w u1) := next HBW.out b1
      clear b1 f0 f1 f2 f3 f4 f5
      obtain ⟨f0, f1, f2, f3, f4, f5⟩ := B1
      simp only at f0 f1 f2 f3 f4 f5
      go_wp2
      go_ret
      exact ⟨one_int HE.out.symm, HB1.out⟩
  · have HE : Hid (scoreV a iss cur am day = -1) := HN.out (by rw [HV, hu]; rfl)
    clear HV HN HY HT HS HTB HSB
    obtain ⟨r, i, c, m, d, u⟩ := a
    unfold auv at HO ⊢
    simp only at hW HO hu hmm hdb ⊢
    subst hu
    have HW : Hid _ := hW
    obtain ⟨f0, f1, f2, f3, f4, f5⟩ := B
    clear hW
    go_enter Try.func15, Try.ntmps15
    go_upto_region 1 with fail
    rw [← HW.out]
    go_wp2_with fail
    refine (HO.out _).mono ?_
    rintro e u1 ⟨rfl, b1⟩
    have B1 := HBB.out.below b1
    have HB1 : Hid (Below w.heap.size w u1) := next HBW.out b1
    clear b1 f0 f1 f2 f3 f4 f5
    obtain ⟨f0, f1, f2, f3, f4, f5⟩ := B1
    simp only at f0 f1 f2 f3 f4 f5
    go_wp2
    go_ret
    exact ⟨one_int HE.out.symm, HB1.out⟩

end Go.Proofs.Ytpjfigjgamlcdaa
