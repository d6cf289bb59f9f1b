/- The contracts of the specification's l09Of, l09Charge and l09Code. -/
import Derived.Test.YtjnekdihmchlpaaGreatDoorKTSDo1
import Derived.Test.YtjnekdihmchlpaaGreatDoorJT4a
import Derived.Test.YtjnekdihmchlpaaGreatDoorJT2a
namespace Go.Proofs.YtjnekdihmchlpaaGreatDoor
open Go.RowKit
set_option maxRecDepth 100000

set_option maxHeartbeats 3200000 in
theorem sOf_any (st k : Int) (w : World) : Calls Tryz.prog 90 #[.int .i64 st, .int .i64 k] w fun e w' => e = .returned (.bool (ofSt st k)) ∧ w' = w := by
  by_cases hk : k < 0 ∨ 9 < k
  · have HE : Hid (ofSt st k = false) := by
      cases e : ofSt st k
      · rfl
      · have := of_cases e; omega
    have g0 : (k == 0) = false := beq_no (by omega)
    have g1 : (k == 1) = false := beq_no (by omega)
    have g2 : (k == 2) = false := beq_no (by omega)
    have g3 : (k == 3) = false := beq_no (by omega)
    have g4 : (k == 4) = false := beq_no (by omega)
    have g5 : (k == 5) = false := beq_no (by omega)
    have g6 : (k == 6) = false := beq_no (by omega)
    have g7 : (k == 7) = false := beq_no (by omega)
    have g8 : (k == 8) = false := beq_no (by omega)
    have g9 : (k == 9) = false := beq_no (by omega)
    clear hk
    go_enter Tryz.func90, Tryz.ntmps90
    go_wp2
    go_ret
    exact ⟨one_bool HE.out.symm, rfl⟩
  · rcases (show k = 0 ∨ k = 1 ∨ k = 2 ∨ k = 3 ∨ k = 4 ∨ k = 5 ∨ k = 6 ∨ k = 7 ∨ k = 8 ∨ k = 9 by omega) with rfl | rfl | rfl | rfl | rfl | rfl | rfl | rfl | rfl | rfl
    · have HE : Hid (ofSt st 0 = (st == 0)) := by
        by_cases h : st = 0 <;> simp [Hid, ofSt, h]
      clear hk
      go_enter Tryz.func90, Tryz.ntmps90
      go_wp2
      go_ret
      exact ⟨one_bool HE.out.symm, rfl⟩
    · have HE : Hid (ofSt st 1 = (st == 1)) := by
        by_cases h : st = 1 <;> simp [Hid, ofSt, h]
      clear hk
      go_enter Tryz.func90, Tryz.ntmps90
      go_wp2
      go_ret
      exact ⟨one_bool HE.out.symm, rfl⟩
    · clear hk
      go_enter Tryz.func90, Tryz.ntmps90
      go_wp2_with (go_at_call 26; refine (in_any _ _ _ _).mono ?_; rintro e w' ⟨rfl, rfl⟩)
      go_ret
      exact ⟨rfl, rfl⟩
    · have HE : Hid (ofSt st 3 = (st == 3)) := by
        by_cases h : st = 3 <;> simp [Hid, ofSt, h]
      clear hk
      go_enter Tryz.func90, Tryz.ntmps90
      go_wp2
      go_ret
      exact ⟨one_bool HE.out.symm, rfl⟩
    · have HE : Hid (ofSt st 4 = (st == 4)) := by
        by_cases h : st = 4 <;> simp [Hid, ofSt, h]
      clear hk
      go_enter Tryz.func90, Tryz.ntmps90
      go_wp2
      go_ret
      exact ⟨one_bool HE.out.symm, rfl⟩
    · have HE : Hid (ofSt st 5 = (st == 5)) := by
        by_cases h : st = 5 <;> simp [Hid, ofSt, h]
      clear hk
      go_enter Tryz.func90, Tryz.ntmps90
      go_wp2
      go_ret
      exact ⟨one_bool HE.out.symm, rfl⟩
    · have HE : Hid (ofSt st 6 = (st == 5)) := by
        by_cases h : st = 5 <;> simp [Hid, ofSt, h]
      clear hk
      go_enter Tryz.func90, Tryz.ntmps90
      go_wp2
      go_ret
      exact ⟨one_bool HE.out.symm, rfl⟩
    · have HE : Hid (ofSt st 7 = (st == 6)) := by
        by_cases h : st = 6 <;> simp [Hid, ofSt, h]
      clear hk
      go_enter Tryz.func90, Tryz.ntmps90
      go_wp2
      go_ret
      exact ⟨one_bool HE.out.symm, rfl⟩
    · by_cases h1 : st = 1
      · have HE : Hid (ofSt st 8 = true) := by simp [Hid, ofSt, h1]
        have h1' : (st == 1) = true := by simpa using h1
        clear hk h1
        go_enter Tryz.func90, Tryz.ntmps90
        go_wp2
        go_ret
        exact ⟨one_bool HE.out.symm, rfl⟩
      · have HE : Hid (ofSt st 8 = inB st 3 6) := by simp [Hid, ofSt, h1, inB]
        have h1' := beq_no h1
        clear hk h1
        go_enter Tryz.func90, Tryz.ntmps90
        go_wp2_with (go_at_call 26; refine (in_any _ _ _ _).mono ?_; rintro e w' ⟨rfl, rfl⟩)
        go_ret
        exact ⟨one_bool HE.out.symm, rfl⟩
    · by_cases h1 : st = 0
      · have HE : Hid (ofSt st 9 = true) := by simp [Hid, ofSt, h1]
        have h1' : (st == 0) = true := by simpa using h1
        clear hk h1
        go_enter Tryz.func90, Tryz.ntmps90
        go_wp2
        go_ret
        exact ⟨one_bool HE.out.symm, rfl⟩
      · have HE : Hid (ofSt st 9 = (st == 2)) := by
          by_cases h : st = 2 <;> simp [Hid, ofSt, h1, h]
        have h1' := beq_no h1
        clear hk h1
        go_enter Tryz.func90, Tryz.ntmps90
        go_wp2
        go_ret
        exact ⟨one_bool HE.out.symm, rfl⟩

/-- two boxes: a case, an act -/
structure B2 (s : Nat) (c : Cs) (a : Ac) (u : World) : Prop where
  cb : CB s 0 c u
  a0 : u.cell? ⟨s + 1, 0, none⟩ = some (.int .i64 a.kind)
  a1 : u.cell? ⟨s + 1, 1, none⟩ = some (.int .i64 a.am)
  a2 : u.cell? ⟨s + 1, 2, none⟩ = some (.int .i64 a.rsn)
theorem B2.below {s : Nat} {c : Cs} {a : Ac} {u u' : World} (h : B2 s c a u) (b : Below u.heap.size u u') : B2 s c a u' := by
  have l : s + 1 < u.heap.size := World.block_lt_of_cell? u _ h.a0
  exact ⟨h.cb.below b, (b.cell (p := ⟨s + 1, 0, none⟩) l).trans h.a0, (b.cell (p := ⟨s + 1, 1, none⟩) l).trans h.a1, (b.cell (p := ⟨s + 1, 2, none⟩) l).trans h.a2⟩
theorem B2.new (w : World) (c : Cs) (a : Ac) (t1 t2 : TypeId) : B2 w.heap.size c a ((w.alloc (.cells #[.int .i64 c.iss, .int .i64 c.acq, .int .i64 c.cur, .int .i64 c.am, .int .i64 c.st, .int .i64 c.rsn, .int .i64 c.cl, .int .i64 c.bk, .int .i64 c.fee, .bool c.cop, .int .i64 c.sta, .int .i64 c.due] t1)).alloc (.cells #[.int .i64 a.kind, .int .i64 a.am, .int .i64 a.rsn] t2)) :=
  ⟨(CB.new w c t1).below ((Below.refl _ _).alloc (Nat.le_refl _) _), by simp [go_sem], by simp [go_sem], by simp [go_sem]⟩

set_option maxHeartbeats 6400000 in
theorem sCharge_any (c : Cs) (a : Ac) (t : Int) (ao : Option Addr) (cp : Nat) (zs : List Int) (w : World) (hx : IntsAt w ao zs) (hn : zs.length ≤ 1099511627776) :
    Calls Tryz.prog 134 #[cv c, av a, .int .i64 t, .slice ao zs.length cp] w fun e w' => e = .returned (.int .i64 (chargeV c a t zs)) ∧ Below w.heap.size w w' := by
  obtain ⟨W, hW⟩ : ∃ W, W = (w.alloc (.cells #[.int .i64 c.iss, .int .i64 c.acq, .int .i64 c.cur, .int .i64 c.am, .int .i64 c.st, .int .i64 c.rsn, .int .i64 c.cl, .int .i64 c.bk, .int .i64 c.fee, .bool c.cop, .int .i64 c.sta, .int .i64 c.due] 25)).alloc (.cells #[.int .i64 a.kind, .int .i64 a.am, .int .i64 a.rsn] 91) := ⟨_, rfl⟩
  have HX : Hid (B2 w.heap.size c a W) := by rw [Hid, hW]; exact B2.new w c a _ _
  have HBW : Hid (Below w.heap.size w W) := by rw [Hid, hW]; go_grown
  have HW : Hid _ := hW
  have HI : Hid (IntsAt W ao zs) := hx.below HBW.out
  obtain ⟨p, hp⟩ : ∃ p, (!rOk a.rsn || (rProof a.rsn && !copied c t)) = p := ⟨_, rfl⟩
  obtain ⟨q, hq⟩ : ∃ q, (decide (a.am < 1) || (decide (c.am < a.am) || (decide (a.am < c.am) && !rPart a.rsn))) = q := ⟨_, rfl⟩
  obtain ⟨l, hl⟩ : ∃ l, lateV t (dueV c.sta (rDays a.rsn) zs) = l := ⟨_, rfl⟩
  have HV : Hid _ := chargeV_is hp hq hl
  have HPP : Hid _ := hp
  have HQQ : Hid _ := hq
  have HLL : Hid _ := hl
  have hcop : copied c t = (c.cop || (decide (c.st = 1) && lateV t c.due)) := rfl
  obtain ⟨cc, hcc⟩ : ∃ cc, copied c t = cc := ⟨_, rfl⟩
  have HCC : Hid (cc = (c.cop || (decide (c.st = 1) && lateV t c.due))) := by rw [Hid, ← hcc, hcop]
  rw [hcc] at HPP
  clear hp hq hl hx hW hcop hcc
  obtain ⟨k, m, r⟩ := a
  obtain ⟨iss, acq, cur, am, st, rsn, cl, bk, fee, cop, sta, due⟩ := c
  unfold cv av
  simp only at HW HPP HQQ HLL HCC ⊢
  have HDU : Hid (∀ u, Below W.heap.size W u → Calls Tryz.prog 92 #[.int .i64 sta, .int .i64 (rDays r), .slice ao zs.length cp] u fun e w' => e = .returned (.int .i64 (dueV sta (rDays r) zs)) ∧ Below u.heap.size u w') := fun u hu => sDue_any sta (rDays r) ao cp zs u (HI.out.below hu) hn
  go_enter Tryz.func134, Tryz.ntmps134
  go_upto_region 1 with fail
  rw [← HW.out]
  clear HW
  obtain ⟨⟨f0, f1, f2, f3, f4, f5, f6, f7, f8, f9, f10, f11⟩, k0, k1, k2⟩ := HX.out
  simp only [Nat.zero_add] at f0 f1 f2 f3 f4 f5 f6 f7 f8 f9 f10 f11 k0 k1 k2
  clear f0 f1 f2 f5 f6 f7 f8
  go_cut [9] (fun v wc => v = .bool cc ∧ wc = W)
  case first =>
    cases cop
    · by_cases h1 : st = 1
      · have HE : Hid (cc = lateV t due) := by rw [Hid, HCC.out, decide_eq_true h1, Bool.false_or, Bool.true_and]
        have h1' : (st == 1) = true := by simpa using h1
        clear h1
        go_wp2_with (go_at_call 133; refine (sLate_any _ _ _).mono ?_; rintro e w' ⟨rfl, rfl⟩)
        go_meet
        exact ⟨by rw [HE.out], rfl⟩
      · have HE : Hid (cc = false) := by rw [Hid, HCC.out, decide_eq_false h1, Bool.false_or, Bool.false_and]
        have h1' := beq_no h1
        clear h1
        go_wp2
        go_meet
        exact ⟨by rw [HE.out], rfl⟩
    · have HE : Hid (cc = true) := by rw [Hid, HCC.out, Bool.true_or]
      go_wp2
      go_meet
      exact ⟨by rw [HE.out], rfl⟩
  case rest =>
    obtain ⟨rfl, hwc⟩ := hcut
    rw [hwc]
    clear hwc
    go_upto_region 2 with fail
    go_cut [23] (fun v wc => v = .bool p ∧ Below W.heap.size W wc)
    case first =>
      go_wp2_with fail
      refine (sROk_any r _).mono ?_
      rintro e u1 ⟨rfl, b1⟩
      have HB1 : Hid (Below W.heap.size W u1) := b1
      have j2 := (HX.out.below b1).a2
      simp only at j2
      clear b1
      cases h1 : rOk r
      · have HE : Hid (p = true) := by rw [Hid, ← HPP.out, h1]; rfl
        clear h1
        go_wp2
        go_meet
        exact ⟨by rw [HE.out], HB1.out⟩
      go_wp2_with fail
      refine (sRProof_any r _).mono ?_
      rintro e u2 ⟨rfl, hw2⟩
      rw [hw2]
      clear hw2
      cases h2 : rProof r
      · have HE : Hid (p = false) := by rw [Hid, ← HPP.out, h1, h2]; rfl
        clear h1 h2
        go_wp2
        go_meet
        exact ⟨by rw [HE.out], HB1.out⟩
      have HE : Hid (p = !cc) := by rw [Hid, ← HPP.out, h1, h2]; rfl
      clear h1 h2
      go_wp2
      go_meet
      exact ⟨by rw [HE.out], HB1.out⟩
    case rest =>
      obtain ⟨rfl, b4⟩ := hcut
      obtain ⟨u4, hu4⟩ : ∃ x, x = wc := ⟨_, rfl⟩
      subst hu4
      have HB4 : Hid (Below W.heap.size W u4) := b4
      have HX4 : Hid (B2 w.heap.size ⟨iss, acq, cur, am, st, rsn, cl, bk, fee, cop, sta, due⟩ ⟨k, m, r⟩ u4) := HX.out.below b4
      clear b4 f3 f4 f9 f10 f11 k0 k1 k2
      cases p
      rotate_left
      · have HE : Hid (chargeV ⟨iss, acq, cur, am, st, rsn, cl, bk, fee, cop, sta, due⟩ ⟨k, m, r⟩ t zs = 3) := by rw [Hid, HV.out, if_pos rfl]
        go_wp2
        go_ret
        exact ⟨one_int HE.out.symm, next HBW.out HB4.out⟩
      have HV1 : Hid (chargeV ⟨iss, acq, cur, am, st, rsn, cl, bk, fee, cop, sta, due⟩ ⟨k, m, r⟩ t zs = if q = true then 2 else if l = true then 4 else 0) := by rw [Hid, HV.out, if_neg (by decide)]
      obtain ⟨⟨f0, f1, f2, f3, f4, f5, f6, f7, f8, f9, f10, f11⟩, k0, k1, k2⟩ := HX4.out
      simp only [Nat.zero_add] at f0 f1 f2 f3 f4 f5 f6 f7 f8 f9 f10 f11 k0 k1 k2
      clear HV f0 f1 f2 f4 f5 f6 f7 f8 f9 f10 f11
      go_upto_region 4 with fail
      go_cut [37] (fun v wc => v = .bool q ∧ wc = u4)
      case first =>
        go_wp2_with fail
        cases h1 : inB m 1 am
        · have HE : Hid (q = true) := by
            have := inB_of h1
            have g : m < 1 ∨ am < m := by simp at this; omega
            rw [Hid, ← HQQ.out]
            rcases g with g | g <;> simp [g]
          refine (in_is h1 _).mono ?_
          rintro e v1 ⟨rfl, hv⟩
          rw [hv]
          clear hv h1
          go_wp2
          go_meet
          exact ⟨by rw [HE.out], rfl⟩
        have g1 : ¬ m < 1 ∧ ¬ am < m := by have := inB_of h1; simp at this; omega
        refine (in_is h1 _).mono ?_
        rintro e v1 ⟨rfl, hv⟩
        rw [hv]
        clear hv h1
        by_cases h3 : m < am
        · have HE : Hid (q = !rPart r) := by rw [Hid, ← HQQ.out, decide_eq_false g1.1, decide_eq_false g1.2, decide_eq_true h3]; rfl
          clear g1
          go_wp2_with fail
          refine (sRPart_any r _).mono ?_
          rintro e v2 ⟨rfl, hv⟩
          rw [hv]
          clear hv
          go_wp2
          go_meet
          exact ⟨by rw [HE.out], rfl⟩
        · have HE : Hid (q = false) := by rw [Hid, ← HQQ.out, decide_eq_false g1.1, decide_eq_false g1.2, decide_eq_false h3]; rfl
          clear g1
          go_wp2
          go_meet
          exact ⟨by rw [HE.out], rfl⟩
      case rest =>
        obtain ⟨rfl, hwc⟩ := hcut
        rw [hwc]
        clear hwc f3 k0 k1 k2
        cases q
        rotate_left
        · have HE : Hid (chargeV ⟨iss, acq, cur, am, st, rsn, cl, bk, fee, cop, sta, due⟩ ⟨k, m, r⟩ t zs = 2) := by rw [Hid, HV1.out, if_pos rfl]
          go_wp2
          go_ret
          exact ⟨one_int HE.out.symm, next HBW.out HB4.out⟩
        have HV2 : Hid (chargeV ⟨iss, acq, cur, am, st, rsn, cl, bk, fee, cop, sta, due⟩ ⟨k, m, r⟩ t zs = if l = true then 4 else 0) := by rw [Hid, HV1.out, if_neg (by decide)]
        clear HV1
        have HAT : Hid (∀ u, Below W.heap.size W u → u.cell? ⟨w.heap.size, 10, none⟩ = some (.int .i64 sta) ∧ u.cell? ⟨w.heap.size + 1, 2, none⟩ = some (.int .i64 r)) := fun u hu => by
          have g := HX.out.below hu
          have g10 := g.cb.f10
          simp only [Nat.zero_add] at g10
          exact ⟨g10, g.a2⟩
        obtain ⟨k10, k2⟩ := HAT.out u4 HB4.out
        obtain ⟨n, hn'⟩ : ∃ n, rDays r = n := ⟨_, rfl⟩
        have HRD : Hid (∀ u, Calls Tryz.prog 164 #[.int .i64 r] u fun e w' => e = .returned (.int .i64 n) ∧ Below u.heap.size u w') := fun u => by rw [← hn']; exact sRDays_any r u
        rw [hn'] at HDU HLL
        obtain ⟨dd, hdd⟩ : ∃ dd, dueV sta n zs = dd := ⟨_, rfl⟩
        rw [hdd] at HDU HLL
        have HLT : Hid (∀ u, Calls Tryz.prog 133 #[.int .i64 t, .int .i64 dd] u fun e w' => e = .returned (.bool l) ∧ w' = u) := fun u => by rw [← HLL.out]; exact sLate_any t dd u
        clear hn' hdd
        have d5 : Below W.heap.size W u4.drew := HB4.out.drew
        go_upto_region 6 with fail
        go_cut [57] (fun v wc => v = .bool l ∧ Below W.heap.size W wc)
        case first =>
          go_region_held3 (fun u => u.cell? ⟨w.heap.size, 10, none⟩ = some (.int .i64 sta) ∧ u.cell? ⟨w.heap.size + 1, 2, none⟩ = some (.int .i64 r)) (first | exact ⟨k10, k2⟩ | exact HAT.out _ HB4.out | exact HAT.out _ d5 | exact HAT.out _ HB6.out | exact HAT.out _ HB7.out) ((first
            | (go_at_call 164; refine (HRD.out _).mono ?_; rintro e u6 ⟨rfl, b6⟩; (first | (have HB6 : Hid (Below W.heap.size W u6) := next d5 b6) | (have HB6 : Hid (Below W.heap.size W u6) := next HB4.out b6)); clear b6)
            | (go_at_call 92; refine (HDU.out _ HB6.out).mono ?_; rintro e u7 ⟨rfl, b7⟩; (have HB7 : Hid (Below W.heap.size W u7) := next HB6.out b7); clear b7)
            | (go_at_call 133; refine (HLT.out _).mono ?_; rintro e u8 ⟨rfl, hu8⟩; rw [hu8]; clear hu8)))
          all_goals
            go_wp2_with fail
            go_meet
            exact ⟨rfl, HB7.out⟩
        case rest =>
          obtain ⟨rfl, b8⟩ := hcut
          clear k10 k2
          cases l
          · have HE : Hid (chargeV ⟨iss, acq, cur, am, st, rsn, cl, bk, fee, cop, sta, due⟩ ⟨k, m, r⟩ t zs = 0) := by rw [Hid, HV2.out, if_neg (by decide)]
            go_wp2
            go_ret
            exact ⟨one_int HE.out.symm, next HBW.out b8⟩
          · have HE : Hid (chargeV ⟨iss, acq, cur, am, st, rsn, cl, bk, fee, cop, sta, due⟩ ⟨k, m, r⟩ t zs = 4) := by rw [Hid, HV2.out, if_pos rfl]
            go_wp2
            go_ret
            exact ⟨one_int HE.out.symm, next HBW.out b8⟩


end Go.Proofs.YtjnekdihmchlpaaGreatDoor
