/- The laws' own measure and comparison of slices of cases. -/
import Derived.Test.YtkdodamdjajbiaaCaSl
import Derived.Test.YtkdodamdjajbiaaOver
import Derived.Deep.DeepCutAuto
namespace Go.Proofs.Ytkdodamdjajbiaa
open Go.RowKit
set_option maxRecDepth 100000

set_option maxHeartbeats 800000 in
theorem szCaseS_any (ao : Option Addr) (cap n : Nat) (left : Int) (w : World) (h0 : 0 ≤ left) (h1 : left ≤ 1048576) (hn : n ≤ 9223372036854775807) :
    Calls Try.prog 27 #[.slice ao n cap, .int .i64 left] w fun e w' => e = .returned (.int .i64 (leftL n left)) ∧ w' = w := by
  have hw : wrap64 (left - (n : Int)) = left - (n : Int) := by unfold wrap64; omega
  by_cases h : left - (n : Int) < 0
  · have e : leftL n left = -1 := if_pos h
    rw [e]
    go_enter Try.func27, Try.ntmps27
    go_wp2
    go_ret
    exact ⟨rfl, rfl⟩
  · have e : leftL n left = left - (n : Int) := if_neg h
    rw [e]
    go_enter Try.func27, Try.ntmps27
    go_wp2
    go_ret
    exact ⟨rfl, rfl⟩

set_option maxHeartbeats 6400000 in
theorem eqCaseS_same (ao bo : Option Addr) (c1 c2 : Nat) (cs : List Cs) (w : World) (hx : CasesAt w ao cs) (hy : CasesAt w bo cs) (h1 : cs.length ≤ 1099511627776) :
    Calls Try.prog 41 #[.slice ao cs.length c1, .slice bo cs.length c2] w fun e w' => e = .returned (.bool true) ∧ Below w.heap.size w w' := by
  have HX : Hid (CasesAt w ao cs) := hx
  have HY : Hid (CasesAt w bo cs) := hy
  clear hx hy
  have nn : ((cs.length : Int) != (cs.length : Int)) = false := by simp
  go_enter Try.func41, Try.ntmps41
  go_wp2
  go_loopw [5] (fun i wr => ∃ k : Nat, k ≤ cs.length ∧ i = .int .i64 k ∧ Below w.heap.size w wr) (fun i _ => cs.length - (intOf i).toNat)
  case atStart => exact ⟨0, Nat.zero_le _, rfl, Below.refl _ _⟩
  case round =>
    obtain ⟨k, hk, rfl, hbr⟩ := hrel
    have HBR : Hid (Below w.heap.size w wr) := hbr
    clear hbr
    by_cases hlt : k < cs.length
    · have hki : (k : Int) < (cs.length : Int) := by omega
      obtain ⟨b, off, ha, hb, cx⟩ := CasesAt.at (CasesAt.below HX.out HBR.out) hlt
      obtain ⟨d, off2, hb2, hd, cy⟩ := CasesAt.at (CasesAt.below HY.out HBR.out) hlt
      subst ha
      subst hb2
      obtain ⟨⟨iss, acq, cur, am, st, rsn, cl, bk, fee, cop, sta, due⟩, hf⟩ : ∃ f, csAt cs k = f := ⟨_, rfl⟩
      rw [hf] at cx cy
      clear hf hb hd
      obtain ⟨x0, x1, x2, x3, x4, x5, x6, x7, x8, x9, x10, x11⟩ := cx
      obtain ⟨y0, y1, y2, y3, y4, y5, y6, y7, y8, y9, y10, y11⟩ := cy
      simp only at x0 y0 x1 y1 x2 y2 x3 y3 x4 y4 x5 y5 x6 y6 x7 y7 x8 y8 x9 y9 x10 y10 x11 y11
      have hne := over_ne wr
      have ox0 := over_cell x0
      have oy0 := over_cell y0
      have ox1 := over_cell x1
      have oy1 := over_cell y1
      have ox2 := over_cell x2
      have oy2 := over_cell y2
      have ox3 := over_cell x3
      have oy3 := over_cell y3
      have ox4 := over_cell x4
      have oy4 := over_cell y4
      have ox5 := over_cell x5
      have oy5 := over_cell y5
      have ox6 := over_cell x6
      have oy6 := over_cell y6
      have ox7 := over_cell x7
      have oy7 := over_cell y7
      have ox8 := over_cell x8
      have oy8 := over_cell y8
      have ox9 := over_cell x9
      have oy9 := over_cell y9
      have ox10 := over_cell x10
      have oy10 := over_cell y10
      have ox11 := over_cell x11
      have oy11 := over_cell y11
      have HEQ : Hid (∀ z : Over wr, Calls Try.prog 61 #[.agg #[.int .i64 iss, .int .i64 acq, .int .i64 cur, .int .i64 am, .int .i64 st, .int .i64 rsn, .int .i64 cl, .int .i64 bk, .int .i64 fee, .bool cop, .int .i64 sta, .int .i64 due], .agg #[.int .i64 iss, .int .i64 acq, .int .i64 cur, .int .i64 am, .int .i64 st, .int .i64 rsn, .int .i64 cl, .int .i64 bk, .int .i64 fee, .bool cop, .int .i64 sta, .int .i64 due]] z.x fun e w' => e = .returned (.bool true) ∧ Below z.x.heap.size z.x w') := fun z => eqCase_same ⟨iss, acq, cur, am, st, rsn, cl, bk, fee, cop, sta, due⟩ z.x
      clear x0 y0 x1 y1 x2 y2 x3 y3 x4 y4 x5 y5 x6 y6 x7 y7 x8 y8 x9 y9 x10 y10 x11 y11
      go_upto_region 6 with fail
      refine wp_region_over (by kernel_rfl) (by kernel_rfl) ?_
      repeat (go_big_quiet_step (exact over_of (HEQ.out _)))
      refine wpQuiet_nil ?_
      rintro w6 ⟨⟨wz, b6⟩, hw6⟩
      subst hw6
      have HB6 : Hid (Below w.heap.size w w6) := HBR.out.trans (b6.mono HBR.out.size)
      clear ox0 oy0 ox1 oy1 ox2 oy2 ox3 oy3 ox4 oy4 ox5 oy5 ox6 oy6 ox7 oy7 ox8 oy8 ox9 oy9 ox10 oy10 ox11 oy11 hne HEQ b6
      go_wp2
      go_roundw
      case rel => exact ⟨k + 1, by omega, by go_num, HB6.out⟩
      case measure => simp [intOf]; omega
    · have hki : ¬ (k : Int) < (cs.length : Int) := by omega
      go_wp2
      go_ret
      exact ⟨rfl, HBR.out⟩

end Go.Proofs.Ytkdodamdjajbiaa
