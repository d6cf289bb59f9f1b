/- The contract of the specification's MatchScore: how near an authorization is, for every authorization and every four numbers. -/
import Derived.Test.YtpjfigjgamlcdaaSAuOk
import Derived.Test.YtpjfigjgamlcdaaAuBox
import Derived.Test.YtpjfigjgamlcdaaFScore
import Derived.Deep.DeepCutAuto
namespace Go.Proofs.Ytpjfigjgamlcdaa
open Go.RowKit
set_option maxRecDepth 100000

set_option maxHeartbeats 6400000 in
theorem sScore_any (a : Au) (iss cur am day : Int) (w : World) (hl : a.ref.length ≤ 1099511627776) (_w3 : (Lit.int .i64 am).wf = true) (w4 : (Lit.int .i64 day).wf = true) :
    Calls Try.prog 26 #[auv a, .int .i64 iss, .int .i64 cur, .int .i64 am, .int .i64 day] w fun e w' => e = .returned (.int .i64 (scoreV a iss cur am day)) ∧ Below w.heap.size w w' := by
  have hday := wf_bd w4
  have HV := can_is a iss cur am day
  obtain ⟨q, hq⟩ : ∃ q, auOk a = q := ⟨_, rfl⟩
  have HO : Hid (∀ u, Calls Try.prog 23 #[auv a] u fun e w' => e = .returned (.bool q) ∧ Below u.heap.size u w') := fun u => by rw [← hq]; exact sAuthOk_any a u hl
  have HN : Hid (canV a iss cur am day = false → scoreV a iss cur am day = -1) := score_no
  have HY : Hid (canV a iss cur am day = true → scoreV a iss cur am day = 8 * absV (am - a.am) + day - a.day) := score_yes
  obtain ⟨W, hW⟩ : ∃ W, W = w.alloc (.cells #[.string ⟨a.ref.toArray⟩, .int .i64 a.iss, .int .i64 a.cur, .int .i64 a.am, .int .i64 a.day, .bool a.used] 30) := ⟨_, rfl⟩
  have B : AuB w.heap.size a W := by rw [hW]; exact AuB.new w a _
  have HBB : Hid (AuB w.heap.size a W) := B
  have bW : Below w.heap.size w W := by rw [hW]; exact (Below.refl _ _).alloc (Nat.le_refl _) _
  have HBW : Hid (Below w.heap.size w W) := bW
  clear bW _w3 w4
  cases q
  · have HE : Hid (scoreV a iss cur am day = -1) := HN.out (by rw [HV, hq]; rfl)
    clear HV HN HY hq
    obtain ⟨r, i, c, m, d, u⟩ := a
    unfold auv at HO ⊢
    simp only at hW HO  ⊢
    have HW : Hid _ := hW
    obtain ⟨f0, f1, f2, f3, f4, f5⟩ := B
    clear hW
    go_enter Try.func26, Try.ntmps26
    go_upto_region 1 with fail
    rw [← HW.out]
    go_wp2_with fail
    refine (HO.out _).mono ?_
    rintro e u1 ⟨rfl, b1⟩
    have B1 := HBB.out.below b1
    have HB1 : Hid (Below w.heap.size w u1) := next HBW.out b1
    clear b1 f0 f1 f2 f3 f4 f5
    obtain ⟨f0, f1, f2, f3, f4, f5⟩ := B1
    simp only at f0 f1 f2 f3 f4 f5
    go_wp2
    go_ret
    exact ⟨one_int HE.out.symm, HB1.out⟩
  obtain ⟨-, -, -, hmm, hdd⟩ := auOk_parts hq
  have hdb := dOk_bd hdd
  have HTB : Hid (timeOk a day = true → a.day ≤ day ∧ day ≤ a.day + 7) := fun h => of_decide_eq_true h
  have HSB : Hid (sumOk a am = true → 1 ≤ am ∧ am ≤ a.am + a.am / 10) := fun h => of_decide_eq_true h
  have HT : Hid (∀ u, Calls Try.prog 48 #[.int .i64 day, .int .i64 a.day, .int .i64 (a.day + 7)] u fun e w' => e = .returned (.bool (timeOk a day)) ∧ w' = u) := fun u => in_any day a.day (a.day + 7) u
  have HS : Hid (∀ u, Calls Try.prog 48 #[.int .i64 am, .int .i64 1, .int .i64 (a.am + a.am / 10)] u fun e w' => e = .returned (.bool (sumOk a am)) ∧ w' = u) := fun u => in_any am 1 (a.am + a.am / 10) u
  have hq10 : a.am.tdiv 10 = a.am / 10 := Int.tdiv_eq_ediv_of_nonneg (by omega)
  rw [hq, Bool.true_and] at HV
  clear hq hdd
  cases hu : a.used
  · rw [hu, Bool.not_false, Bool.true_and] at HV
    cases hi : (a.iss != iss)
    · have hi' : decide (a.iss = iss) = true := decide_eq_true (by simpa using hi)
      rw [hi', Bool.true_and] at HV
      cases hcu : (a.cur != cur)
      · have hc' : decide (a.cur = cur) = true := decide_eq_true (by simpa using hcu)
        rw [hc', Bool.true_and] at HV
        cases ht : timeOk a day
        · have HE : Hid (scoreV a iss cur am day = -1) := HN.out (by rw [HV, ht]; rfl)
          rw [ht] at HT
          clear HV HN HY ht HS HTB HSB hi' hc' hq10
          obtain ⟨r, i, c, m, d, u⟩ := a
          unfold auv at HO ⊢
          simp only at hW HO HT hu hi hcu hmm hdb ⊢
          subst hu
          have HW : Hid _ := hW
          obtain ⟨f0, f1, f2, f3, f4, f5⟩ := B
          clear hW
          go_enter Try.func26, Try.ntmps26
          go_upto_region 1 with fail
          rw [← HW.out]
          go_wp2_with fail
          refine (HO.out _).mono ?_
          rintro e u1 ⟨rfl, b1⟩
          have B1 := HBB.out.below b1
          have HB1 : Hid (Below w.heap.size w u1) := next HBW.out b1
          clear b1 f0 f1 f2 f3 f4 f5
          obtain ⟨f0, f1, f2, f3, f4, f5⟩ := B1
          simp only at f0 f1 f2 f3 f4 f5
          go_wp2_with fail
          refine (HT.out _).mono ?_
          rintro e u2 ⟨rfl, hu2⟩
          subst hu2
          go_wp2
          go_ret
          exact ⟨one_int HE.out.symm, HB1.out⟩
        · rw [ht, Bool.true_and] at HV
          rw [ht] at HT
          have htb := HTB.out ht
          cases hs : sumOk a am
          · have HE : Hid (scoreV a iss cur am day = -1) := HN.out (by rw [HV, hs])
            rw [hs] at HS
            clear HV HN HY ht HTB HSB hi' hc' hs htb
            obtain ⟨tt, htt⟩ : ∃ t, a.am / 10 = t := ⟨_, rfl⟩
            have ht1 : 0 ≤ tt ∧ tt ≤ 10000000000 := by omega
            rw [htt] at HS hq10
            clear htt
            obtain ⟨r, i, c, m, d, u⟩ := a
            unfold auv at HO ⊢
            simp only at hW HO HT HS hu hi hcu hmm hdb hq10 ⊢
            subst hu
            have HW : Hid _ := hW
            obtain ⟨f0, f1, f2, f3, f4, f5⟩ := B
            clear hW
            go_enter Try.func26, Try.ntmps26
            go_upto_region 1 with fail
            rw [← HW.out]
            go_wp2_with fail
            refine (HO.out _).mono ?_
            rintro e u1 ⟨rfl, b1⟩
            have B1 := HBB.out.below b1
            have HB1 : Hid (Below w.heap.size w u1) := next HBW.out b1
            clear b1 f0 f1 f2 f3 f4 f5
            obtain ⟨f0, f1, f2, f3, f4, f5⟩ := B1
            simp only at f0 f1 f2 f3 f4 f5
            go_wp2_with fail
            refine (HT.out _).mono ?_
            rintro e u2 ⟨rfl, hu2⟩
            subst hu2
            go_wp2_with fail
            refine (HS.out _).mono ?_
            rintro e u2 ⟨rfl, hu2⟩
            subst hu2
            go_wp2
            go_ret
            exact ⟨one_int HE.out.symm, HB1.out⟩
          · have hsb := HSB.out hs
            rw [hs] at HS
            have HEE : Hid (scoreV a iss cur am day = 8 * absV (am - a.am) + day - a.day) := by rw [Hid, HY.out (by rw [HV, hs])]
            clear HV HN HY ht HTB HSB hi' hc' hs
            obtain ⟨tt, htt⟩ : ∃ t, a.am / 10 = t := ⟨_, rfl⟩
            have ht1 : 0 ≤ tt ∧ tt ≤ 10000000000 := by omega
            rw [htt] at HS hq10 hsb
            clear htt
            by_cases hng : am - a.am < 0
            · have HE : Hid (scoreV a iss cur am day = 8 * (-(am - a.am)) + day - a.day) := by rw [Hid, HEE.out, absV, if_pos hng]
              clear HEE
              obtain ⟨r, i, c, m, d, u⟩ := a
              unfold auv at HO ⊢
              simp only at hW HO HT HS HE hu hi hcu hmm hdb htb hsb hq10 hng ⊢
              subst hu
              have HW : Hid _ := hW
              obtain ⟨f0, f1, f2, f3, f4, f5⟩ := B
              clear hW
              go_enter Try.func26, Try.ntmps26
              go_upto_region 1 with fail
              rw [← HW.out]
              go_wp2_with fail
              refine (HO.out _).mono ?_
              rintro e u1 ⟨rfl, b1⟩
              have B1 := HBB.out.below b1
              have HB1 : Hid (Below w.heap.size w u1) := next HBW.out b1
              clear b1 f0 f1 f2 f3 f4 f5
              obtain ⟨f0, f1, f2, f3, f4, f5⟩ := B1
              simp only at f0 f1 f2 f3 f4 f5
              go_wp2_with fail
              refine (HT.out _).mono ?_
              rintro e u2 ⟨rfl, hu2⟩
              subst hu2
              go_wp2_with fail
              refine (HS.out _).mono ?_
              rintro e u2 ⟨rfl, hu2⟩
              subst hu2
              go_wp2
              go_ret
              exact ⟨one_int HE.out.symm, HB1.out⟩
            · have HE : Hid (scoreV a iss cur am day = 8 * (am - a.am) + day - a.day) := by rw [Hid, HEE.out, absV, if_neg hng]
              clear HEE
              obtain ⟨r, i, c, m, d, u⟩ := a
              unfold auv at HO ⊢
              simp only at hW HO HT HS HE hu hi hcu hmm hdb htb hsb hq10 hng ⊢
              subst hu
              have HW : Hid _ := hW
              obtain ⟨f0, f1, f2, f3, f4, f5⟩ := B
              clear hW
              go_enter Try.func26, Try.ntmps26
              go_upto_region 1 with fail
              rw [← HW.out]
              go_wp2_with fail
              refine (HO.out _).mono ?_
              rintro e u1 ⟨rfl, b1⟩
              have B1 := HBB.out.below b1
              have HB1 : Hid (Below w.heap.size w u1) := next HBW.out b1
              clear b1 f0 f1 f2 f3 f4 f5
              obtain ⟨f0, f1, f2, f3, f4, f5⟩ := B1
              simp only at f0 f1 f2 f3 f4 f5
              go_wp2_with fail
              refine (HT.out _).mono ?_
              rintro e u2 ⟨rfl, hu2⟩
              subst hu2
              go_wp2_with fail
              refine (HS.out _).mono ?_
              rintro e u2 ⟨rfl, hu2⟩
              subst hu2
              go_wp2
              go_ret
              exact ⟨one_int HE.out.symm, HB1.out⟩
      · have hc' : decide (a.cur = cur) = false := decide_eq_false (by simpa using hcu)
        have HE : Hid (scoreV a iss cur am day = -1) := HN.out (by rw [HV, hc']; rfl)
        clear HV HN HY HT HS HTB HSB hi' hc' hq10
        obtain ⟨r, i, c, m, d, u⟩ := a
        unfold auv at HO ⊢
        simp only at hW HO hu hi hcu hmm hdb ⊢
        subst hu
        have HW : Hid _ := hW
        obtain ⟨f0, f1, f2, f3, f4, f5⟩ := B
        clear hW
        go_enter Try.func26, Try.ntmps26
        go_upto_region 1 with fail
        rw [← HW.out]
        go_wp2_with fail
        refine (HO.out _).mono ?_
        rintro e u1 ⟨rfl, b1⟩
        have B1 := HBB.out.below b1
        have HB1 : Hid (Below w.heap.size w u1) := next HBW.out b1
        clear b1 f0 f1 f2 f3 f4 f5
        obtain ⟨f0, f1, f2, f3, f4, f5⟩ := B1
        simp only at f0 f1 f2 f3 f4 f5
        go_wp2
        go_ret
        exact ⟨one_int HE.out.symm, HB1.out⟩
    · have hi' : decide (a.iss = iss) = false := decide_eq_false (by simpa using hi)
      have HE : Hid (scoreV a iss cur am day = -1) := HN.out (by rw [HV, hi']; rfl)
      clear HV HN HY HT HS HTB HSB hi' hq10
      obtain ⟨r, i, c, m, d, u⟩ := a
      unfold auv at HO ⊢
      simp only at hW HO hu hi hmm hdb ⊢
      subst hu
      have HW : Hid _ := hW
      obtain ⟨f0, f1, f2, f3, f4, f5⟩ := B
      clear hW
      go_enter Try.func26, Try.ntmps26
      go_upto_region 1 with fail
      rw [← HW.out]
      go_wp2_with fail
      refine (HO.out _).mono ?_
      rintro e u1 ⟨rfl, b1⟩
      have B1 := HBB.out.below b1
      have HB1 : Hid (Below w.heap.size w u1) := next HBW.out b1
      clear b1 f0 f1 f2 f3 f4 f5
      obtain ⟨f0, f1, f2, f3, f4, f5⟩ := B1
      simp only at f0 f1 f2 f3 f4 f5
      go_wp2
      go_ret
      exact ⟨one_int HE.out.symm, HB1.out⟩
  · have HE : Hid (scoreV a iss cur am day = -1) := HN.out (by rw [HV, hu]; rfl)
    clear HV HN HY HT HS HTB HSB hq10
    obtain ⟨r, i, c, m, d, u⟩ := a
    unfold auv at HO ⊢
    simp only at hW HO hu hmm hdb ⊢
    subst hu
    have HW : Hid _ := hW
    obtain ⟨f0, f1, f2, f3, f4, f5⟩ := B
    clear hW
    go_enter Try.func26, Try.ntmps26
    go_upto_region 1 with fail
    rw [← HW.out]
    go_wp2_with fail
    refine (HO.out _).mono ?_
    rintro e u1 ⟨rfl, b1⟩
    have B1 := HBB.out.below b1
    have HB1 : Hid (Below w.heap.size w u1) := next HBW.out b1
    clear b1 f0 f1 f2 f3 f4 f5
    obtain ⟨f0, f1, f2, f3, f4, f5⟩ := B1
    simp only at f0 f1 f2 f3 f4 f5
    go_wp2
    go_ret
    exact ⟨one_int HE.out.symm, HB1.out⟩

end Go.Proofs.Ytpjfigjgamlcdaa
