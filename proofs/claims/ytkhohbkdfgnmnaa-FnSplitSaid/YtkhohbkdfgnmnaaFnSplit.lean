/- Proved: whatever bytes are drawn from, the parts that the program's Split answers are the specification's; they make up their amount, the greater ones first, and no two differ by more than one. No conditions. -/
import Derived.Test.YtkhohbkdfgnmnaaBase
import Derived.Test.YtkhohbkdfgnmnaaDraws1
namespace Go.Proofs.Ytkhohbkdfgnmnaa.fnSplit
open Go.ChangeShapes Go.WideShapes Go.ChangeAt Go.RowKit

/-- the sum of the first k parts -/
def psum (x m : Int) (k : Nat) : Int := (k : Int) * (x / m) + (if (k : Int) < x % m then (k : Int) else x % m)
theorem psum_zero (x m : Int) (h : 0 ≤ x % m) : psum x m 0 = 0 := by unfold psum; split <;> omega
theorem psum_succ (x m : Int) (k : Nat) : psum x m (k + 1) = psum x m k + partOf x m k := by
  unfold psum partOf
  rw [show ((k + 1 : Nat) : Int) = (k : Int) + 1 from by omega, Int.add_mul]
  split <;> split <;> omega
theorem psum_all (x : Int) (m : Nat) (h : x % (m : Int) < m) : psum x m m = x := by
  have := Int.mul_ediv_add_emod x m
  unfold psum
  split <;> omega
theorem psum_bd (x : Int) (m k : Nat) (hk : k ≤ 100) (h1 : -1000000000000 ≤ x / (m : Int)) (h2 : x / (m : Int) ≤ 1000000000000) (h3 : 0 ≤ x % (m : Int)) (h4 : x % (m : Int) ≤ 100) :
    -100000000000000 ≤ psum x m k ∧ psum x m k ≤ 100000000000100 := by
  have a1 : (k : Int) * (x / (m : Int)) ≤ 100 * 1000000000000 := Int.le_trans (Int.mul_le_mul_of_nonneg_left h2 (by omega)) (Int.mul_le_mul_of_nonneg_right (by omega) (by omega))
  have a2 : -(100 * 1000000000000) ≤ (k : Int) * (x / (m : Int)) := by
    have b1 : (k : Int) * (-1000000000000) ≤ (k : Int) * (x / (m : Int)) := Int.mul_le_mul_of_nonneg_left h1 (by omega)
    omega
  unfold psum
  split <;> omega
theorem part_bd (x m : Int) (k : Nat) : x / m ≤ partOf x m k ∧ partOf x m k ≤ x / m + 1 := by unfold partOf; split <;> omega
theorem part_mono (x m : Int) (k : Nat) : partOf x m (k + 1) ≤ partOf x m k := by unfold partOf; split <;> split <;> omega
theorem parts_at (x : Int) (m k : Nat) (h : k < m) : (partsL x m).getD k 0 = partOf x m k := by simp [partsL, List.getD_eq_getElem?_getD, h]

theorem split_bd {x n : Int} (h : splitOk x n = true) : mOk x = true ∧ ∃ m : Nat, n = m ∧ 1 ≤ m ∧ m ≤ 100 := by
  simp [splitOk, inB] at h
  obtain ⟨m, rfl⟩ := Int.eq_ofNat_of_zero_le (show 0 ≤ n by omega)
  exact ⟨h.1, m, rfl, by omega, by omega⟩

set_option maxHeartbeats 2000000 in
theorem walk (a0 : Option Addr) (len0 cap0 : Nat) (z0 : List Int) (w : World) (w0 : IsRow .u8 w a0 len0 cap0 z0) :
    Calls Try.prog 5 #[.slice a0 len0 cap0] w fun e w' => e = .returned (.bool true) ∧ Below w.heap.size w w' := by
  by_cases hbig : (1048576 : Int) < (len0 : Int)
  · go_enter Try.func5, Try.ntmps5
    go_wp2_with (go_at_call 14; refine (big_any _ _ _ _).mono ?_; rintro e w1 ⟨rfl, hw1⟩; subst hw1)
    go_ret
    exact ⟨rfl, Below.refl _ _⟩
  · have hn : len0 ≤ 1048576 := by omega
    go_enter Try.func5, Try.ntmps5
    go_wp2_with fail
    refine (big_any _ _ _ _).mono ?_
    rintro e w1 ⟨rfl, hw1⟩
    subst hw1
    rename_i w
    go_wp2_with fail
    refine (drawSplit_any _ _ _ _ _ w0 hn).mono ?_
    rintro e w1 ⟨x, n, rfl, fx, fn, b1⟩
    have hlen := splitL_len x n
    go_wp2_with fail
    refine (iSplit_any _ _ _).mono ?_
    rintro e w2 ⟨ao, c, rfl, o2, b2⟩
    have z2 := ints_own o2
    go_wp2_with fail
    refine (sSplit_any _ _ _).mono ?_
    rintro e w3 ⟨ao3, c3, rfl, o3, b3⟩
    have z3 := ints_own o3
    clear o2 o3
    go_wp2_with fail
    refine (sameInts_any _ _ _ _ (splitL x n) (splitL x n) _ (z2.below b3) z3 (by omega) (by omega)).mono ?_
    rintro e w4 ⟨rfl, b4⟩
    have B4 := next (next (next b1 b2) b3) b4
    have z4 := (z2.below b3).below b4
    clear b1 b2 b3 b4 z2 z3
    cases hp : splitOk x n
    · have hl : (splitL x n).length = 0 := by rw [split_no hp]; rfl
      go_wp2
      go_ret
      exact ⟨rfl, B4⟩
    · obtain ⟨h1, m, rfl, m1, m2⟩ := split_bd hp
      have hl : (splitL x m).length = m := by rw [split_yes hp, parts_len, Int.toNat_natCast]
      have d1 := mOk_bd h1
      have hb := Plain.ediv_bd x m 1000000000000 (by omega) d1.1 d1.2 (by omega)
      have hm := Int.emod_lt_of_pos x (b := (m : Int)) (by omega)
      have hm0 := Int.emod_nonneg x (b := (m : Int)) (by omega)
      rw [split_yes hp] at z4
      rw [hl]
      clear hl hlen
      rcases z4 with z4 | ⟨b, off, rfl, hbs, hcell⟩
      · exfalso
        have := parts_len x m
        rw [z4] at this
        simp at this
        omega
      · rw [parts_len, Int.toNat_natCast] at hcell
        go_wp2
        go_loopw [9, 10] (fun s i wr => ∃ k : Nat, k ≤ m ∧ i = .int .i64 k ∧ s = .int .i64 (psum x m k) ∧ Below w4.heap.size w4 wr) (fun _ i _ => m - (intOf i).toNat)
        case atStart => exact ⟨0, Nat.zero_le _, rfl, by rw [psum_zero x m hm0], Below.refl _ _⟩
        case round =>
          obtain ⟨k, hk, rfl, rfl, hbr⟩ := hrel
          have pb := psum_bd x m k (by omega) hb.1 hb.2 hm0 (by omega)
          by_cases hlt : k < m
          · have hki : (k : Int) < (m : Int) := by omega
            have HP : Hid (psum x m (k + 1) = psum x m k + partOf x m k) := psum_succ x m k
            have e1 : wr.cell? ⟨b, off + k, none⟩ = some (.int .i64 (partOf x m k)) := by rw [hbr.cell (p := ⟨b, off + k, none⟩) hbs, hcell k hlt, parts_at x m k hlt]
            have p1 := part_bd x m k
            rcases Nat.eq_zero_or_pos k with rfl | hpos
            · clear hcell
              rw [Nat.add_zero] at e1
              have g3 : (0 : Int) < (m : Int) := by omega
              generalize partOf x m 0 = u at *
              generalize psum x m 0 = s at *
              go_wp2
              go_quiet (fail)
              go_wp2
              go_roundw
              case rel => exact ⟨1, by omega, by go_num, by rw [HP.out], below_drewN hbr _⟩
              case measure => simp [intOf]; omega
            · obtain ⟨j, rfl⟩ : ∃ j, k = j + 1 := ⟨k - 1, by omega⟩
              have e2 : wr.cell? ⟨b, off + j, none⟩ = some (.int .i64 (partOf x m j)) := by rw [hbr.cell (p := ⟨b, off + j, none⟩) hbs, hcell j (by omega), parts_at x m j (by omega)]
              have e3 : wr.cell? ⟨b, off, none⟩ = some (.int .i64 (partOf x m 0)) := by have := hcell 0 (by omega); rw [Nat.add_zero] at this; rw [hbr.cell (p := ⟨b, off, none⟩) hbs, this, parts_at x m 0 (by omega)]
              have p2 := part_bd x m j
              have p3 := part_bd x m 0
              have p4 := part_mono x m j
              clear hcell
              generalize partOf x m (j + 1) = u at *
              generalize partOf x m j = v at *
              generalize partOf x m 0 = t at *
              generalize psum x m (j + 1) = s at *
              have g1 : decide (v < u) = false := by simp; omega
              have g2 : decide (1 < t - u) = false := by simp; omega
              have g3 : (0 : Int) < (m : Int) := by omega
              have g4 : (j : Int) < (m : Int) := by omega
              go_wp2
              go_quiet (fail)
              go_wp2
              go_roundw
              case rel => exact ⟨j + 1 + 1, by omega, by go_num, by rw [HP.out], below_drewN hbr _⟩
              case measure => simp [intOf]; omega
          · have hkm : k = m := by omega
            subst hkm
            have HA : psum x k k = x := psum_all x k hm
            clear hcell
            go_wp2
            go_ret
            exact ⟨rfl, next B4 hbr⟩

set_option maxRecDepth 100000 in
theorem lifted (os : Os) (started : os.Started) (H : Type) (enc : TypeId × Value → H) :
    ReturnsInHanded {} Try.checked os 5 .any (Rows.fnSplitSpec.pre6 enc Try.prog Try.f5 Rows.fnSplitRow.domain false) (Rows.fnSplitSpec.post enc Try.prog Try.f5 false true false false) := by
  refine returnsInHanded_of_change (C := Try.checked) own started (by kernel_rfl) Try.func5
    (ChangeSpec.witness6 (enc := enc) (C := Try.checked) false ⟨#[], #[.slice none 0 0], []⟩ 8 (by kernel_rfl) (by kernel_rfl) (by kernel_rfl) (by kernel_rfl)) ?_
  intro W base args ds gs before hval0 hW hcnd _
  have hval : ∀ (j : Nat) t v, Try.f5.params[j]? = some t → args[j]? = some v → Value.okWide Try.prog W .any base t v := hval0
  have hW' := hW
  obtain ⟨p, q, hA0, hV, rfl, hfz, hnd⟩ := hW
  have hA : DataW.TrodAll enc Try.prog W 0 (fun _ => true) true Try.f5.params.toList args.toList ds p := hA0
  rw [Try.params5] at hA hval
  obtain ⟨v0, vs0, d0, ds0, p0, q0, hargs, rfl, rfl, h0, r0⟩ := trodAll_cons hA
  obtain ⟨rfl, rfl, rfl⟩ := trodAll_nil r0
  obtain rfl : args = #[v0] := by cases args; simp_all
  obtain ⟨rfl, rfl⟩ := trodVars_none hV
  obtain ⟨a0, len0, cap0, rfl⟩ := okWide_slice Try.underlying22 (hval 0 22 v0 rfl rfl)
  have k0 := h0
  have lt0 : ∀ x ∈ p0, x.block < W.heap.size := by obtain ⟨m, hm⟩ := k0; exact DataW.trod_lt m _ _ _ hm
  obtain ⟨z0, w0⟩ : ∃ zs, IsRow .u8 W a0 len0 cap0 zs := is_row Try.underlying22 Try.underlying5 (by kernel_rfl) h0
  clear hA0 hval0
  refine (walk a0 len0 cap0 z0 W w0).mono fun e W' ⟨he, bel⟩ => ?_
  subst he
  exact ⟨_, rfl, _, _, _, [], _, [], hW', trodAll_mk1 (shut_bool Try.underlying4 _), (trodAll_cons_mk (Below.trod laidOut (by kernel_rfl) (of_decide_eq_true (by kernel_rfl)) k0 bel lt0) trodAll_mk0), rfl, bel.frame _, fun h => by cases h⟩

theorem proved : Rows.FnSplitSaid :=
  OpenClaim.holds_of_wide 5 Try.f5 rfl rfl rfl rfl rfl rfl rfl ⟨rfl, rfl, rfl, rfl, rfl⟩ rfl rfl rfl rfl rfl (by kernel_rfl) Try.func5 (by kernel_rfl)
    (of_decide_eq_true (by kernel_rfl)) (by unfold Func.isWrapper; first | (rw [if_pos (by decide +kernel)]; kernel_rfl) | (rw [if_neg (by decide +kernel)]; exact ⟨rfl, rfl⟩))
    (fun os started H enc _ => lifted os started H enc)
end Go.Proofs.Ytkhohbkdfgnmnaa.fnSplit
