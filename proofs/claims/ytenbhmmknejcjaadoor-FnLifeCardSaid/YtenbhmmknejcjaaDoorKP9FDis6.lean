/- The contracts of a dispute's charge. -/
import Derived.Test.YtenbhmmknejcjaaDoorKP9FDis5
namespace Go.Proofs.YtenbhmmknejcjaaDoor
open Go.RowKit
set_option maxRecDepth 100000

set_option maxHeartbeats 1600000 in
theorem hasProof_any {b : Nat} {ao : Option Addr} {cp : Nat} {zs : List Int} {a : Ac} {t : Int} {c : Cs} {v : Value} {w : World} (h : DS b ao cp zs a t c [] v w) :
    Calls Tryd.prog 96 #[.pointer (some ⟨b, 0, none⟩)] w fun e w' => e = .returned (.bool (copied c t)) ∧ Below w.heap.size w w' := by
  have c9 := h.db.cb.f9
  have c4 := h.db.cb.f4
  simp only [Nat.zero_add] at c9 c4
  have HQ : Hid (Calls Tryd.prog 81 #[.pointer (some ⟨b, 0, none⟩)] w fun e w' => e = .returned (.bool (lateV t c.due)) ∧ Below w.heap.size w w') := isLate_any h
  obtain ⟨p, hp⟩ : ∃ p, c.cop = p := ⟨_, rfl⟩
  obtain ⟨s, hs⟩ : ∃ s, c.st = s := ⟨_, rfl⟩
  obtain ⟨l, hl⟩ : ∃ l, lateV t c.due = l := ⟨_, rfl⟩
  have HV : Hid (copied c t = (p || (decide (s = 1) && l))) := by rw [Hid, copied, hp, hs, hl]
  rw [hp] at c9
  rw [hs] at c4
  rw [hl] at HQ
  clear h hp hs hl
  cases p
  · by_cases h1 : s = 1
    · have HE : Hid (copied c t = l) := by rw [Hid, HV.out, decide_eq_true h1, Bool.false_or, Bool.true_and]
      have h1' : (s == 1) = true := by simpa using h1
      clear h1
      go_enter Tryd.func96, Tryd.ntmps96
      go_wp2_with fail
      refine Calls.mono HQ.out ?_
      rintro e w1 ⟨rfl, b1⟩
      go_wp2
      go_ret
      exact ⟨one_bool HE.out.symm, b1⟩
    · have HE : Hid (copied c t = false) := by rw [Hid, HV.out, decide_eq_false h1, Bool.false_or, Bool.false_and]
      have h1' := beq_no h1
      clear h1
      go_enter Tryd.func96, Tryd.ntmps96
      go_wp2
      go_ret
      exact ⟨one_bool HE.out.symm, Below.refl _ _⟩
  · have HE : Hid (copied c t = true) := by rw [Hid, HV.out, Bool.true_or]
    go_enter Tryd.func96, Tryd.ntmps96
    go_wp2
    go_ret
    exact ⟨one_bool HE.out.symm, Below.refl _ _⟩

theorem chargeV_is {c : Cs} {a : Ac} {t : Int} {zs : List Int} {p q l : Bool} (h1 : (!rOk a.rsn || (rProof a.rsn && !copied c t)) = p) (h2 : (decide (a.am < 1) || (decide (c.am < a.am) || (decide (a.am < c.am) && !rPart a.rsn))) = q) (h3 : lateV t (dueV c.sta (rDays a.rsn) zs) = l) :
    chargeV c a t zs = if p = true then 3 else if q = true then 2 else if l = true then 4 else 0 := by
  unfold chargeV
  rw [h3]
  have e1 : (rOk a.rsn = false ∨ (rProof a.rsn = true ∧ copied c t = false)) ↔ p = true := by rw [← h1]; simp
  have e2 : (¬ (1 ≤ a.am ∧ a.am ≤ c.am) ∨ (a.am < c.am ∧ rPart a.rsn = false)) ↔ q = true := by
    rw [← h2]
    cases rPart a.rsn
    · simp; omega
    · simp; omega
  simp only [e1, e2]
set_option maxHeartbeats 6400000 in
theorem chargeRef_any {b : Nat} {ao : Option Addr} {cp : Nat} {zs : List Int} {a : Ac} {t : Int} {c : Cs} {v : Value} {w : World} (h : DS b ao cp zs a t c [] v w) (hn : zs.length ≤ 1099511627776) :
    Calls Tryd.prog 83 #[.pointer (some ⟨b, 0, none⟩)] w fun e w' => e = .returned (.int .i64 (chargeV c a t zs)) ∧ Below w.heap.size w w' := by
  have c13 := h.db.a1
  have c14 := h.db.a2
  have HH : Hid (DS b ao cp zs a t c [] v w) := h
  obtain ⟨p, hp⟩ : ∃ p, (!rOk a.rsn || (rProof a.rsn && !copied c t)) = p := ⟨_, rfl⟩
  obtain ⟨q, hq⟩ : ∃ q, (decide (a.am < 1) || (decide (c.am < a.am) || (decide (a.am < c.am) && !rPart a.rsn))) = q := ⟨_, rfl⟩
  obtain ⟨l, hl⟩ : ∃ l, lateV t (dueV c.sta (rDays a.rsn) zs) = l := ⟨_, rfl⟩
  have HV : Hid _ := chargeV_is hp hq hl
  have HPP : Hid _ := hp
  have HQQ : Hid _ := hq
  have HLL : Hid _ := hl
  have HCO : Hid (∀ u, Below w.heap.size w u → Calls Tryd.prog 96 #[.pointer (some ⟨b, 0, none⟩)] u fun e w' => e = .returned (.bool (copied c t)) ∧ Below u.heap.size u w') := fun u hu => hasProof_any (h.below hu)
  have HDU : Hid (∀ u, Below w.heap.size w u → Calls Tryd.prog 19 #[.int .i64 c.sta, .int .i64 (rDays a.rsn), .slice ao zs.length cp] u fun e w' => e = .returned (.int .i64 (dueV c.sta (rDays a.rsn) zs)) ∧ Below u.heap.size u w') := fun u hu => iDue_any c.sta (rDays a.rsn) ao cp zs u (h.below hu).offs hn
  clear h hp hq hl
  go_enter Tryd.func83, Tryd.ntmps83
  go_upto_region 1 with fail
  go_cut [3, 4] (fun v3 v4 wc => v3 = .int .i64 a.am ∧ v4 = .int .i64 a.rsn ∧ Below w.heap.size w wc)
  case first =>
    go_wp2
    go_quiet (fail)
    all_goals
      go_wp2_with fail
      go_meet
      exact ⟨rfl, rfl, below_drewN (Below.refl _ _) _⟩
  case rest =>
    obtain ⟨rfl, rfl, b0⟩ := hcut
    obtain ⟨u0, hu0⟩ : ∃ x, x = wc := ⟨_, rfl⟩
    subst hu0
    clear c13 c14
    have HB0 : Hid (Below w.heap.size w u0) := b0
    clear b0
    go_upto_region 2 with fail
    go_cut [15] (fun v wc => v = .bool p ∧ Below w.heap.size w wc)
    case first =>
      go_wp2_with fail
      refine (iROk_any a.rsn _).mono ?_
      rintro e u1 ⟨rfl, b1⟩
      have HB1 : Hid (Below w.heap.size w u1) := next HB0.out b1
      clear b1
      cases h1 : rOk a.rsn
      · have HE : Hid (p = true) := by rw [Hid, ← HPP.out, h1]; rfl
        clear h1
        go_wp2
        go_meet
        exact ⟨by rw [HE.out], HB1.out⟩
      go_wp2_with fail
      refine (iRProof_any a.rsn _).mono ?_
      rintro e u2 ⟨rfl, b2⟩
      have HB2 : Hid (Below w.heap.size w u2) := next HB1.out b2
      clear b2
      cases h2 : rProof a.rsn
      · have HE : Hid (p = false) := by rw [Hid, ← HPP.out, h1, h2]; rfl
        clear h1 h2
        go_wp2
        go_meet
        exact ⟨by rw [HE.out], HB2.out⟩
      go_wp2_with fail
      refine (HCO.out _ HB2.out).mono ?_
      rintro e u3 ⟨rfl, b3⟩
      have HB3 : Hid (Below w.heap.size w u3) := next HB2.out b3
      clear b3
      have HE : Hid (p = !copied c t) := by rw [Hid, ← HPP.out, h1, h2]; rfl
      clear h1 h2
      go_wp2
      go_meet
      exact ⟨by rw [HE.out], HB3.out⟩
    case rest =>
      obtain ⟨rfl, b4⟩ := hcut
      obtain ⟨u4, hu4⟩ : ∃ x, x = wc := ⟨_, rfl⟩
      subst hu4
      have HB4 : Hid (Below w.heap.size w u4) := b4
      clear b4 HB0
      cases p
      rotate_left
      · have HE : Hid (chargeV c a t zs = 3) := by rw [Hid, HV.out, if_pos rfl]
        go_wp2
        go_ret
        exact ⟨one_int HE.out.symm, HB4.out⟩
      have HV1 : Hid (chargeV c a t zs = if q = true then 2 else if l = true then 4 else 0) := by rw [Hid, HV.out, if_neg (by decide)]
      have h4 := HH.out.below HB4.out
      have c3 := h4.db.cb.f3
      simp only [Nat.zero_add] at c3
      clear HV h4
      go_upto_region 4 with fail
      go_cut [28] (fun v wc => v = .bool q ∧ Below w.heap.size w wc)
      case first =>
        have HQ2 : Hid ((decide (a.am < 1) || (decide (c.am < a.am) || (decide (a.am < c.am) && !rPart a.rsn))) = q) := HQQ.out
        by_cases h1 : a.am < 1
        · have HE : Hid (q = true) := by rw [Hid, ← HQ2.out, decide_eq_true h1]; rfl
          go_wp2
          go_meet
          exact ⟨by rw [HE.out], HB4.out⟩
        by_cases h2 : c.am < a.am
        · have HE : Hid (q = true) := by rw [Hid, ← HQ2.out, decide_eq_true h2]; simp
          go_wp2
          go_meet
          exact ⟨by rw [HE.out], HB4.out⟩
        by_cases h3 : a.am < c.am
        · have HE : Hid (q = !rPart a.rsn) := by rw [Hid, ← HQ2.out, decide_eq_false h1, decide_eq_false h2, decide_eq_true h3]; rfl
          go_wp2_with fail
          refine (iRPart_any a.rsn _).mono ?_
          rintro e u5 ⟨rfl, b5⟩
          have HB5 : Hid (Below w.heap.size w u5) := next HB4.out b5
          clear b5
          go_wp2
          go_meet
          exact ⟨by rw [HE.out], HB5.out⟩
        · have HE : Hid (q = false) := by rw [Hid, ← HQ2.out, decide_eq_false h1, decide_eq_false h2, decide_eq_false h3]; rfl
          go_wp2
          go_meet
          exact ⟨by rw [HE.out], HB4.out⟩
      case rest =>
        obtain ⟨rfl, b5⟩ := hcut
        obtain ⟨u5, hu5⟩ : ∃ x, x = wc := ⟨_, rfl⟩
        subst hu5
        have HB5 : Hid (Below w.heap.size w u5) := b5
        clear b5 c3 HB4
        cases q
        rotate_left
        · have HE : Hid (chargeV c a t zs = 2) := by rw [Hid, HV1.out, if_pos rfl]
          go_wp2
          go_ret
          exact ⟨one_int HE.out.symm, HB5.out⟩
        have HV2 : Hid (chargeV c a t zs = if l = true then 4 else 0) := by rw [Hid, HV1.out, if_neg (by decide)]
        clear HV1
        have HAT : Hid (∀ u, Below w.heap.size w u → u.cell? ⟨b, 15, none⟩ = some (.int .i64 t) ∧ u.cell? ⟨b, 10, none⟩ = some (.int .i64 c.sta) ∧ u.cell? ⟨b, 16, none⟩ = some (.slice ao zs.length cp)) := fun u hu => by
          have g := HH.out.below hu
          have g10 := g.db.cb.f10
          simp only [Nat.zero_add] at g10
          exact ⟨g.db.td, g10, g.db.ho⟩
        obtain ⟨k15, k10, k16⟩ := HAT.out u5 HB5.out
        obtain ⟨n, hn'⟩ : ∃ n, rDays a.rsn = n := ⟨_, rfl⟩
        have HRD : Hid (∀ u, Calls Tryd.prog 20 #[.int .i64 a.rsn] u fun e w' => e = .returned (.int .i64 n) ∧ Below u.heap.size u w') := fun u => by rw [← hn']; exact iRDays_any a.rsn u
        rw [hn'] at HDU HLL
        obtain ⟨dd, hdd⟩ : ∃ dd, dueV c.sta n zs = dd := ⟨_, rfl⟩
        rw [hdd] at HDU HLL
        have HLT : Hid (∀ u, Calls Tryd.prog 95 #[.int .i64 t, .int .i64 dd] u fun e w' => e = .returned (.bool l) ∧ w' = u) := fun u => by rw [← HLL.out]; exact iLate_any t dd u
        clear hn' hdd
        have d5 : Below w.heap.size w u5.drew := HB5.out.drew
        go_upto_region 6 with fail
        go_cut [54] (fun v wc => v = .bool l ∧ Below w.heap.size w wc)
        case first =>
          go_region_held3 (fun u => u.cell? ⟨b, 15, none⟩ = some (.int .i64 t) ∧ u.cell? ⟨b, 10, none⟩ = some (.int .i64 c.sta) ∧ u.cell? ⟨b, 16, none⟩ = some (.slice ao zs.length cp)) (first | exact ⟨k15, k10, k16⟩ | exact HAT.out _ HB5.out | exact HAT.out _ d5 | exact HAT.out _ HB6.out | exact HAT.out _ HB7.out) ((first
            | (go_at_call 20; refine (HRD.out _).mono ?_; rintro e u6 ⟨rfl, b6⟩; (first | (have HB6 : Hid (Below w.heap.size w u6) := next d5 b6) | (have HB6 : Hid (Below w.heap.size w u6) := next HB5.out b6)); clear b6)
            | (go_at_call 19; refine (HDU.out _ HB6.out).mono ?_; rintro e u7 ⟨rfl, b7⟩; (have HB7 : Hid (Below w.heap.size w u7) := next HB6.out b7); clear b7)
            | (go_at_call 95; refine (HLT.out _).mono ?_; rintro e u8 ⟨rfl, hu8⟩; rw [hu8]; clear hu8)))
          all_goals
            go_wp2_with fail
            go_meet
            exact ⟨rfl, HB7.out⟩
        case rest =>
          obtain ⟨rfl, b8⟩ := hcut
          clear k15 k10 k16
          cases l
          · have HE : Hid (chargeV c a t zs = 0) := by rw [Hid, HV2.out, if_neg (by decide)]
            go_wp2
            go_ret
            exact ⟨one_int HE.out.symm, b8⟩
          · have HE : Hid (chargeV c a t zs = 4) := by rw [Hid, HV2.out, if_pos rfl]
            go_wp2
            go_ret
            exact ⟨one_int HE.out.symm, b8⟩


end Go.Proofs.YtenbhmmknejcjaaDoor
