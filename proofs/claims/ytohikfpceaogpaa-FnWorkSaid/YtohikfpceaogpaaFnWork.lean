/- Proved: for whatever bytes the draw is made of (up to 1048576; more pass by the law's own first test): what AddWork answers is what the specification's answers; where there is such a day, there are so many working days between, it is a working day (or the day itself for 0), and days in two parts are days at once. No conditions. -/
import Derived.Test.YtohikfpceaogpaaBase
import Derived.Test.YtohikfpceaogpaaSAdd
import Derived.Test.YtohikfpceaogpaaDrawWork
namespace Go.Proofs.Ytohikfpceaogpaa.fnWork
open Go.ChangeShapes Go.WideShapes Go.ChangeAt Go.RowKit

set_option maxHeartbeats 400000 in
theorem at_any (a : Option Addr) (len cap : Nat) (zs : List Int) (w : World) (hr : IsRow .u8 w a len cap zs) (hn : len ≤ 1048576) :
    Calls Try.prog 13 #[.slice a len cap, .int .i64 3] w fun e w' => ∃ k : Nat, k ≤ 255 ∧ e = .returned (.int .i64 k) ∧ w' = w := by
  by_cases h3 : 3 < len
  · have hb := bytes_of_row (g := w.heap.size) hr (Nat.le_refl _)
    rcases hb with h0 | ⟨b, off, rfl, _, _, hbytes⟩
    · omega
    · obtain ⟨v, v0, v1, cb⟩ := hbytes 3 h3
      obtain ⟨k, rfl⟩ := Int.eq_ofNat_of_zero_le v0
      have h3i : (3 : Int) < (len : Int) := by omega
      clear hbytes hr
      go_enter Try.func13, Try.ntmps13
      go_wp2
      go_ret
      exact ⟨k, by omega, rfl, rfl⟩
  · have h3i : ¬ (3 : Int) < (len : Int) := by omega
    clear hr
    go_enter Try.func13, Try.ntmps13
    go_wp2
    go_ret
    exact ⟨(21 + len) % 256, by omega, one_int (by omega), rfl⟩

theorem some_parts {d n : Int} {xs : List Int} {e : Int} (h : addV d n xs = some e) : dOk d = true ∧ offOk xs = true ∧ 0 ≤ n ∧ n ≤ 400 ∧ adv xs (80000 - d).toNat n.toNat = some e := by
  unfold addV at h
  split at h
  · rename_i hh; exact ⟨hh.1, hh.2.2.2, hh.2.1, hh.2.2.1, h⟩
  · cases h

theorem iAdd_some {d n x : Int} {zs : List Int} (ao : Option Addr) (c : Nat) (w : World) (hx : IntsAt w ao zs) (h1 : zs.length ≤ 1099511627776) (h : addV d n zs = some x) :
    Calls Try.prog 11 #[.int .i64 d, .int .i64 n, .slice ao zs.length c] w fun e w' => e = .returned (.tuple #[.int .i64 x, .bool true]) ∧ Below w.heap.size w w' := by
  have := iAdd_any d n ao c zs w hx h1
  rw [h] at this
  exact this
theorem sAdd_some {d n x : Int} {zs : List Int} (ao : Option Addr) (c : Nat) (w : World) (hx : IntsAt w ao zs) (h1 : zs.length ≤ 1099511627776) (h : addV d n zs = some x) :
    Calls Try.prog 12 #[.int .i64 d, .int .i64 n, .slice ao zs.length c] w fun e w' => e = .returned (.tuple #[.int .i64 x, .bool true]) ∧ Below w.heap.size w w' := by
  have := sAdd_any d n ao c zs w hx h1
  rw [h] at this
  exact this
theorem iAdd_none {d n : Int} {zs : List Int} (ao : Option Addr) (c : Nat) (w : World) (hx : IntsAt w ao zs) (h1 : zs.length ≤ 1099511627776) (h : addV d n zs = none) :
    Calls Try.prog 11 #[.int .i64 d, .int .i64 n, .slice ao zs.length c] w fun e w' => e = .returned (.tuple #[.int .i64 0, .bool false]) ∧ Below w.heap.size w w' := by
  have := iAdd_any d n ao c zs w hx h1
  rw [h] at this
  exact this
theorem sAdd_none {d n : Int} {zs : List Int} (ao : Option Addr) (c : Nat) (w : World) (hx : IntsAt w ao zs) (h1 : zs.length ≤ 1099511627776) (h : addV d n zs = none) :
    Calls Try.prog 12 #[.int .i64 d, .int .i64 n, .slice ao zs.length c] w fun e w' => e = .returned (.tuple #[.int .i64 0, .bool false]) ∧ Below w.heap.size w w' := by
  have := sAdd_any d n ao c zs w hx h1
  rw [h] at this
  exact this
theorem iBet_is {a b v : Int} {zs : List Int} (ao : Option Addr) (c : Nat) (w : World) (hx : IntsAt w ao zs) (h1 : zs.length ≤ 1099511627776) (h : betV a b zs = v) :
    Calls Try.prog 14 #[.int .i64 a, .int .i64 b, .slice ao zs.length c] w fun e w' => e = .returned (.int .i64 v) ∧ Below w.heap.size w w' := by
  have := iBet_any a b ao c zs w hx h1
  rw [h] at this
  exact this
theorem iWorks_is {d : Int} {zs : List Int} (ao : Option Addr) (c : Nat) (w : World) (hx : IntsAt w ao zs) (h1 : zs.length ≤ 1099511627776) (h : worksV d zs = true) :
    Calls Try.prog 15 #[.int .i64 d, .slice ao zs.length c] w fun e w' => e = .returned (.bool true) ∧ Below w.heap.size w w' := by
  have := iWorks_any d ao c zs w hx h1
  rw [h] at this
  exact this.mono fun e w' hh => ⟨hh.1, by rw [hh.2]; exact Below.refl _ _⟩

/-- what holds of so many working days in two parts -/
theorem parts {d : Int} {m K : Nat} {xs : List Int} {e : Int} (h : addV d m xs = some e) (hK : K ≤ m) :
    ∃ f, addV d K xs = some f ∧ addV f ((m : Int) - K) xs = some e ∧ betV d e xs = m ∧ betV d f xs = K ∧ betV f e xs = (m : Int) - K ∧ (m = 0 → e = d) ∧ (0 < m → worksV e xs = true) := by
  obtain ⟨hd, ho, m0, m4, ha⟩ := some_parts h
  have hdb := dOk_bd hd
  rw [show ((m : Int)).toNat = m from by omega, show m = K + (m - K) from by omega] at ha
  obtain ⟨f, h1, h2⟩ := adv_split (by omega) ha
  rw [show K + (m - K) = m from by omega] at ha
  have b1 := adv_bd (by omega) h1
  have b2 := adv_bd (by omega) ha
  have hf : dOk f = true := dOk_pos (by omega) b1.2.1
  have he : dOk e = true := dOk_pos (by omega) b2.2.1
  refine ⟨f, ?_, ?_, ?_, ?_, ?_, ?_, ?_⟩
  · rw [addV_yes hd (by omega) (by omega) ho, show ((K : Int)).toNat = K from by omega]; exact h1
  · rw [addV_yes hf (by omega) (by omega) ho, show ((m : Int) - K).toNat = m - K from by omega]; exact h2
  · rw [betV_yes hd he ho, adv_upto ha]
  · rw [betV_yes hd hf ho, adv_upto h1]
  · rw [betV_yes hf he ho, adv_upto h2]; omega
  · intro h0
    subst h0
    rw [adv_zero] at ha
    have : 80000 - (((80000 - d).toNat : Nat) : Int) = e := by simpa using ha
    omega
  · intro h0
    rw [worksV_is he ho]
    rcases b2.2.2 with h | h
    · omega
    · exact h

set_option maxHeartbeats 2000000 in
theorem walk (a0 : Option Addr) (len0 cap0 : Nat) (z0 : List Int) (w : World) (w0 : IsRow .u8 w a0 len0 cap0 z0) :
    Calls Try.prog 3 #[.slice a0 len0 cap0] w fun e w' => e = .returned (.bool true) ∧ Below w.heap.size w w' := by
  by_cases hbig : (1048576 : Int) < (len0 : Int)
  · have hdec : decide ((1048576 : Int) < (len0 : Int)) = true := decide_eq_true hbig
    clear w0
    go_enter Try.func3, Try.ntmps3
    go_wp2_with fail
    refine (big_any _ _ _ _).mono ?_
    rintro e u ⟨rfl, hu⟩
    subst hu
    rw [hdec]
    go_wp2
    go_ret
    exact ⟨rfl, Below.refl _ _⟩
  · have hdec : decide ((1048576 : Int) < (len0 : Int)) = false := decide_eq_false hbig
    have hn : len0 ≤ 1048576 := by omega
    have HR : Hid (IsRow .u8 w a0 len0 cap0 z0) := w0
    clear w0 hbig
    go_enter Try.func3, Try.ntmps3
    go_wp2_with fail
    refine (big_any _ _ _ _).mono ?_
    rintro e u ⟨rfl, hu⟩
    subst hu
    rw [hdec]
    go_wp2_with fail
    refine (drawAdd_any _ _ _ _ _ HR.out hn).mono ?_
    rintro e u1 ⟨d, n, ao, c, xs, rfl, hnb, hxl, hx1, b1⟩
    have HX1 : Hid (IntsAt u1 ao xs) := hx1
    clear hx1
    cases hA : addV d n xs with
    | none =>
      have HA : Hid _ := hA
      clear hA
      go_wp2_with fail
      refine (iAdd_none _ _ _ HX1.out (by omega) HA.out).mono ?_
      rintro e u2 ⟨rfl, b2⟩
      have HX2 : Hid (IntsAt u2 ao xs) := IntsAt.below HX1.out b2
      go_wp2_with fail
      refine (sAdd_none _ _ _ HX2.out (by omega) HA.out).mono ?_
      rintro e u3 ⟨rfl, b3⟩
      go_wp2
      go_ret
      exact ⟨rfl, next (next b1 b2) b3⟩
    | some x =>
      obtain ⟨_, _, n0, n4, _⟩ := some_parts hA
      obtain ⟨m, rfl⟩ := Int.eq_ofNat_of_zero_le n0
      have HA : Hid _ := hA
      clear hA
      have hm1 : (((m : Int) + 1) == 0) = false := by simp; omega
      go_wp2_with fail
      refine (iAdd_some _ _ _ HX1.out (by omega) HA.out).mono ?_
      rintro e u2 ⟨rfl, b2⟩
      have HX2 : Hid (IntsAt u2 ao xs) := IntsAt.below HX1.out b2
      have B2 := next b1 b2
      go_wp2_with fail
      refine (sAdd_some _ _ _ HX2.out (by omega) HA.out).mono ?_
      rintro e u3 ⟨rfl, b3⟩
      have HX3 : Hid (IntsAt u3 ao xs) := IntsAt.below HX2.out b3
      have B3 := next B2 b3
      clear b1 b2 b3 B2
      go_wp2_with fail
      refine (at_any _ _ _ _ _ (row_below HR.out B3) hn).mono ?_
      rintro e u4 ⟨k, hk, rfl, hu4⟩
      subst hu4
      obtain ⟨K, hK⟩ : ∃ K, k % (m + 1) = K := ⟨_, rfl⟩
      have hKm : K ≤ m := by have := Nat.mod_lt k (show 0 < m + 1 by omega); omega
      have hKi : (k : Int) % ((m : Int) + 1) = (K : Int) := by rw [← hK]; first | exact (Int.natCast_emod k (m + 1)).symm | exact (Int.ofNat_emod k (m + 1)).symm | simp
      obtain ⟨f, A2, A3, B1, B2, B4, W0, W1⟩ := parts HA.out hKm
      have HA2 : Hid _ := A2
      have HA3 : Hid _ := A3
      have HB1 : Hid _ := B1
      have HB2 : Hid _ := B2
      have HB4 : Hid _ := B4
      have HW0 : Hid _ := W0
      have HW1 : Hid _ := W1
      clear A2 A3 B1 B2 B4 W0 W1 hK
      go_wp2_with fail
      refine (iAdd_some _ _ _ HX3.out (by omega) HA2.out).mono ?_
      rintro e u5 ⟨rfl, b5⟩
      have HX5 : Hid (IntsAt u5 ao xs) := IntsAt.below HX3.out b5
      have B5 := next B3 b5
      go_wp2_with fail
      refine (iAdd_some _ _ _ HX5.out (by omega) HA3.out).mono ?_
      rintro e u6 ⟨rfl, b6⟩
      have HX6 : Hid (IntsAt u6 ao xs) := IntsAt.below HX5.out b6
      have B6 := next B5 b6
      clear b5 b6 B3 B5
      go_wp2_with fail
      refine (iBet_is _ _ _ HX6.out (by omega) HB1.out).mono ?_
      rintro e u7 ⟨rfl, b7⟩
      have HX7 : Hid (IntsAt u7 ao xs) := IntsAt.below HX6.out b7
      have B7 := next B6 b7
      clear b7 B6
      by_cases hm0 : m = 0
      · have hxd : x = d := HW0.out hm0
        have hmz : ((m : Int) == 0) = true := by simp; omega
        have hxb : (x == d) = true := by simp [hxd]
        clear hxd
        go_wp2_with fail
        refine (iBet_is _ _ _ HX7.out (by omega) HB2.out).mono ?_
        rintro e u8 ⟨rfl, b8⟩
        have HX8 : Hid (IntsAt u8 ao xs) := IntsAt.below HX7.out b8
        have B8 := next B7 b8
        go_wp2_with fail
        refine (iBet_is _ _ _ HX8.out (by omega) HB4.out).mono ?_
        rintro e u9 ⟨rfl, b9⟩
        have B9 := next B8 b9
        clear hxb hmz
        go_wp2
        go_ret
        exact ⟨one_bool (by simp <;> omega), B9⟩
      · have hwk : worksV x xs = true := HW1.out (by omega)
        have HWK : Hid _ := hwk
        have hmz : ((m : Int) == 0) = false := by simp; omega
        have hmp : (0 : Int) < (m : Int) := by omega
        clear hwk
        go_wp2_with fail
        refine (iWorks_is _ _ _ HX7.out (by omega) HWK.out).mono ?_
        rintro e u8 ⟨rfl, b8⟩
        have HX8 : Hid (IntsAt u8 ao xs) := IntsAt.below HX7.out b8
        have B8 := next B7 b8
        go_wp2_with fail
        refine (iBet_is _ _ _ HX8.out (by omega) HB2.out).mono ?_
        rintro e u9 ⟨rfl, b9⟩
        have HX9 : Hid (IntsAt u9 ao xs) := IntsAt.below HX8.out b9
        have B9 := next B8 b9
        go_wp2_with fail
        refine (iBet_is _ _ _ HX9.out (by omega) HB4.out).mono ?_
        rintro e u10 ⟨rfl, b10⟩
        have B10 := next B9 b10
        go_wp2
        go_ret
        exact ⟨one_bool (by simp <;> omega), B10⟩

set_option maxRecDepth 100000 in
theorem lifted (os : Os) (started : os.Started) (H : Type) (enc : TypeId × Value → H) :
    ReturnsInHanded {} Try.checked os 3 .any (Rows.fnWorkSpec.pre6 enc Try.prog Try.f3 Rows.fnWorkRow.domain false) (Rows.fnWorkSpec.post enc Try.prog Try.f3 false true false false) := by
  refine returnsInHanded_of_change (C := Try.checked) own started (by kernel_rfl) Try.func3
    (ChangeSpec.witness6 (enc := enc) (C := Try.checked) false ⟨#[], #[.slice none 0 0], []⟩ 8 (by kernel_rfl) (by kernel_rfl) (by kernel_rfl) (by kernel_rfl)) ?_
  intro W base args ds gs before hval0 hW hcnd _
  have hval : ∀ (j : Nat) t v, Try.f3.params[j]? = some t → args[j]? = some v → Value.okWide Try.prog W .any base t v := hval0
  have hW' := hW
  obtain ⟨p, q, hA0, hV, rfl, hfz, hnd⟩ := hW
  have hA : DataW.TrodAll enc Try.prog W 0 (fun _ => true) true Try.f3.params.toList args.toList ds p := hA0
  rw [Try.params3] at hA hval
  obtain ⟨v0, vs0, d0, ds0, p0, q0, hargs, rfl, rfl, h0, r0⟩ := trodAll_cons hA
  obtain ⟨rfl, rfl, rfl⟩ := trodAll_nil r0
  obtain rfl : args = #[v0] := by cases args; simp_all
  obtain ⟨rfl, rfl⟩ := trodVars_none hV
  obtain ⟨a0, len0, cap0, rfl⟩ := okWide_slice Try.underlying22 (hval 0 22 v0 rfl rfl)
  have k0 := h0
  have lt0 : ∀ x ∈ p0, x.block < W.heap.size := by obtain ⟨m, hm⟩ := k0; exact DataW.trod_lt m _ _ _ hm
  obtain ⟨z0, w0⟩ : ∃ zs, IsRow .u8 W a0 len0 cap0 zs := is_row Try.underlying22 Try.underlying5 (by kernel_rfl) h0
  clear hA0 hval0
  refine (walk a0 len0 cap0 z0 W w0).mono fun e W' ⟨he, bel⟩ => ?_
  subst he
  exact ⟨_, rfl, _, _, _, [], _, [], hW', trodAll_mk1 (shut_bool Try.underlying4 _), (trodAll_cons_mk (Below.trod laidOut (by kernel_rfl) (of_decide_eq_true (by kernel_rfl)) k0 bel lt0) trodAll_mk0), rfl, bel.frame _, fun h => by cases h⟩

theorem proved : Rows.FnWorkSaid :=
  OpenClaim.holds_of_wide 3 Try.f3 rfl rfl rfl rfl rfl rfl rfl ⟨rfl, rfl, rfl, rfl, rfl⟩ rfl rfl rfl rfl rfl (by kernel_rfl) Try.func3 (by kernel_rfl)
    (of_decide_eq_true (by kernel_rfl)) (by unfold Func.isWrapper; first | (rw [if_pos (by decide +kernel)]; kernel_rfl) | (rw [if_neg (by decide +kernel)]; exact ⟨rfl, rfl⟩))
    (fun os started H enc _ => lifted os started H enc)
end Go.Proofs.Ytohikfpceaogpaa.fnWork
