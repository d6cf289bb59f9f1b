/- Proved: for every list of bytes (of at most 1048576; a longer one passes by the law's own first test) the authorization that the program's MatchBest finds in the list that the bytes draw is the one that the specification's finds; it has a score of 0 or more, is not used and of the issuer and the currency that are asked for; and none of the list that may be taken is nearer, or as near and ahead of it. No other conditions. -/
import Derived.Test.YtpjfigjgamlcdaaBase
import Derived.Test.YtpjfigjgamlcdaaDrawMb
import Derived.Test.YtpjfigjgamlcdaaSBest
namespace Go.Proofs.Ytpjfigjgamlcdaa.fnMatch
open Go.ChangeShapes Go.WideShapes Go.ChangeAt Go.RowKit
set_option maxRecDepth 100000

theorem can_of {a : Au} {iss cur am day : Int} (h : 0 ≤ scoreV a iss cur am day) : a.used = false ∧ a.iss = iss ∧ a.cur = cur := by
  cases hc : canV a iss cur am day
  · rw [score_no hc] at h; omega
  · rw [can_is] at hc
    simp at hc
    exact ⟨hc.2.1, hc.2.2.1, hc.2.2.2.1⟩
theorem small_wf {x : Int} (h : 0 ≤ x ∧ x ≤ 10000) : (Lit.int .i64 x).wf = true := fits_wf ⟨by omega, by omega⟩

set_option maxHeartbeats 6400000 in
theorem walk (b0 : Option Addr) (len0 cap0 : Nat) (z0 : List Int) (w : World) (w0 : IsRow .u8 w b0 len0 cap0 z0) :
    Calls Try.prog 3 #[.slice b0 len0 cap0] w fun e w' => e = .returned (.bool true) ∧ Below w.heap.size w w' := by
  by_cases hbig : (1048576 : Int) < (len0 : Int)
  · go_enter Try.func3, Try.ntmps3
    go_wp2_with fail
    refine (big_any _ _ _ _).mono ?_
    rintro e w1 ⟨rfl, hw⟩
    rw [hw, decide_eq_true hbig]
    clear hw w1
    go_wp2
    go_ret
    exact ⟨rfl, Below.refl _ _⟩
  have hlen : len0 ≤ 1048576 := by omega
  have HDB : Hid (decide ((1048576 : Int) < (len0 : Int)) = false) := decide_eq_false hbig
  clear hbig
  go_enter Try.func3, Try.ntmps3
  go_wp2_with fail
  refine (big_any _ _ _ _).mono ?_
  rintro e w1 ⟨rfl, hw⟩
  rw [hw, HDB.out]
  clear hw w1
  go_wp2_with fail
  refine (drawMatch_any _ _ _ _ _ w0 hlen).mono ?_
  rintro e W ⟨ao, c, az, is, cu, am, da, rfl, hal, hz, hg, ham, hda, bW⟩
  have hd : ∀ a ∈ az, a.ref.length ≤ 1099511627776 := fun a ha => by have := (hg a ha).ref; omega
  have hcu : ∀ a ∈ az, wf64 a.cur := fun a ha => (hg a ha).cur
  have w3 : (Lit.int .i64 am).wf = true := small_wf (by omega)
  have w4 : (Lit.int .i64 da).wf = true := small_wf (by omega)
  have HBW : Hid (Below w.heap.size w W) := bW
  have HZ : Hid (AuthsAt W ao az) := hz
  have HI : Hid (∀ u, AuthsAt u ao az → Calls Try.prog 13 #[.slice ao az.length c, .int .i64 is, .int .i64 cu, .int .i64 am, .int .i64 da] u fun e w' => ∃ x, e = .returned (.int .i64 x) ∧ BestAt az is cu am da x ∧ Below u.heap.size u w') := fun u hu => iBest_any ao c az is cu am da u hu (by omega) hd hcu w3 w4
  have HS : Hid (∀ u, AuthsAt u ao az → Calls Try.prog 14 #[.slice ao az.length c, .int .i64 is, .int .i64 cu, .int .i64 am, .int .i64 da] u fun e w' => ∃ x, e = .returned (.int .i64 x) ∧ BestAt az is cu am da x ∧ Below u.heap.size u w') := fun u hu => sBest_any ao c az is cu am da u hu (by omega) hd w3 w4
  have HSC : Hid (∀ k, k < az.length → ∀ u, Calls Try.prog 15 #[auv (auAt az k), .int .i64 is, .int .i64 cu, .int .i64 am, .int .i64 da] u fun e w' => e = .returned (.int .i64 (scA az is cu am da k)) ∧ Below u.heap.size u w') := fun k hk u => iScore_any _ is cu am da u (hd _ (auAt_mem hk)) (hcu _ (auAt_mem hk)) w3 w4
  have HCN : Hid (∀ k, 0 ≤ scA az is cu am da k → (auAt az k).used = false ∧ (auAt az k).iss = is ∧ (auAt az k).cur = cu) := fun k hk => can_of hk
  clear hz hg ham hda bW hd hcu w3 w4 w0
  go_wp2_with fail
  refine (HI.out _ HZ.out).mono ?_
  rintro e u1 ⟨x, rfl, hx, b1⟩
  have HX : Hid (BestAt az is cu am da x) := hx
  have HB1 : Hid (Below W.heap.size W u1) := b1
  clear hx b1
  go_wp2_with fail
  refine (HS.out _ (HZ.out.below HB1.out)).mono ?_
  rintro e u2 ⟨y, rfl, hy, b2⟩
  obtain rfl : x = y := bestAt_one HX.out hy
  have HB2 : Hid (Below W.heap.size W u2) := next HB1.out b2
  have nx : (x != x) = false := by simp
  clear hy b2 HB1 HI HS
  obtain ⟨sc, hsc⟩ : ∃ f, scA az is cu am da = f := ⟨_, rfl⟩
  rcases HX.out with ⟨h100, hbest⟩ | ⟨h100, hx1⟩
  · rw [hsc] at hbest HSC HCN
    clear hsc HX
    have h100' : (az.length : Int) ≤ 100 := by omega
    rcases hbest with ⟨hx1, hneg⟩ | ⟨i, hi, hx1, hs0, hmin⟩
    · subst hx1
      have HNG : Hid (∀ k, k < az.length → sc k < 0) := hneg
      clear hneg
      go_wp2
      go_loopw [10, 11] (fun i _ wr => ∃ k : Nat, k ≤ az.length ∧ i = .int .i64 k ∧ Below W.heap.size W wr) (fun i _ _ => az.length - (intOf i).toNat)
      case atStart => exact ⟨0, Nat.zero_le _, rfl, HB2.out⟩
      case round =>
        obtain ⟨k, hk, rfl, hbr⟩ := hrel
        by_cases hlt : k < az.length
        · rcases HZ.out with h0 | ⟨b, off, rfl, hbz, hcell⟩
          · rw [h0] at hlt; simp at hlt
          have HCL : Hid (∀ j, j < az.length → W.cell? ⟨b, off + j * 6, none⟩ = some (.string ⟨(auAt az j).ref.toArray⟩) ∧ W.cell? ⟨b, off + j * 6 + 1, none⟩ = some (.int .i64 (auAt az j).iss) ∧ W.cell? ⟨b, off + j * 6 + 2, none⟩ = some (.int .i64 (auAt az j).cur) ∧ W.cell? ⟨b, off + j * 6 + 3, none⟩ = some (.int .i64 (auAt az j).am) ∧ W.cell? ⟨b, off + j * 6 + 4, none⟩ = some (.int .i64 (auAt az j).day) ∧ W.cell? ⟨b, off + j * 6 + 5, none⟩ = some (.bool (auAt az j).used)) := hcell
          have x0 : wr.cell? ⟨b, off + k * 6, none⟩ = some (.string ⟨(auAt az k).ref.toArray⟩) := (hbr.cell (p := ⟨b, off + k * 6, none⟩) hbz).trans (HCL.out k hlt).1
          have x1 : wr.cell? ⟨b, off + k * 6 + 1, none⟩ = some (.int .i64 (auAt az k).iss) := (hbr.cell (p := ⟨b, off + k * 6 + 1, none⟩) hbz).trans (HCL.out k hlt).2.1
          have x2 : wr.cell? ⟨b, off + k * 6 + 2, none⟩ = some (.int .i64 (auAt az k).cur) := (hbr.cell (p := ⟨b, off + k * 6 + 2, none⟩) hbz).trans (HCL.out k hlt).2.2.1
          have x3 : wr.cell? ⟨b, off + k * 6 + 3, none⟩ = some (.int .i64 (auAt az k).am) := (hbr.cell (p := ⟨b, off + k * 6 + 3, none⟩) hbz).trans (HCL.out k hlt).2.2.2.1
          have x4 : wr.cell? ⟨b, off + k * 6 + 4, none⟩ = some (.int .i64 (auAt az k).day) := (hbr.cell (p := ⟨b, off + k * 6 + 4, none⟩) hbz).trans (HCL.out k hlt).2.2.2.2.1
          have x5 : wr.cell? ⟨b, off + k * 6 + 5, none⟩ = some (.bool (auAt az k).used) := (hbr.cell (p := ⟨b, off + k * 6 + 5, none⟩) hbz).trans (HCL.out k hlt).2.2.2.2.2
          have hki : (k : Int) < (az.length : Int) := by omega
          have HSK : Hid (∀ u, Calls Try.prog 15 #[auv (auAt az k), .int .i64 is, .int .i64 cu, .int .i64 am, .int .i64 da] u fun e w' => e = .returned (.int .i64 (sc k)) ∧ Below u.heap.size u w') := HSC.out k hlt
          have hng := HNG.out k hlt
          obtain ⟨⟨r, i, c1, m, d, u⟩, hf⟩ : ∃ a, auAt az k = a := ⟨_, rfl⟩
          rw [hf] at x0 x1 x2 x3 x4 x5 HSK
          unfold auv at HSK
          simp only at x0 x1 x2 x3 x4 x5 HSK
          have HB : Hid (Below W.heap.size W wr) := hbr
          generalize sc k = s at hng HSK
          clear hf hcell hbr
          go_wp2_with fail
          refine (HSK.out _).mono ?_
          rintro e u3 ⟨rfl, b3⟩
          have HB3 : Hid (Below W.heap.size W u3) := next HB.out b3
          clear b3 x0 x1 x2 x3 x4 x5
          go_wp2
          go_roundw
          case rel => exact ⟨k + 1, by omega, by go_num, HB3.out⟩
          case measure => simp [intOf]; omega
        · have HB : Hid (Below w.heap.size w wr) := next HBW.out hbr
          go_wp2
          go_ret
          exact ⟨rfl, HB.out⟩
    · subst hx1
      have hi0 : (0 : Int) ≤ (i : Int) := by omega
      have hii : (i : Int) < (az.length : Int) := by omega
      have HMIN : Hid (∀ k, k < az.length → 0 ≤ sc k → (sc i < sc k ∨ (sc i = sc k ∧ i ≤ k))) := hmin
      have HCI := HCN.out i hs0
      have HSI : Hid (∀ u, Calls Try.prog 15 #[auv (auAt az i), .int .i64 is, .int .i64 cu, .int .i64 am, .int .i64 da] u fun e w' => e = .returned (.int .i64 (sc i)) ∧ Below u.heap.size u w') := HSC.out i hi
      obtain ⟨t, ht⟩ : ∃ t, sc i = t := ⟨_, rfl⟩
      rw [ht] at HMIN hs0 HSI
      clear hmin ht
      rcases HZ.out with h0 | ⟨b, off, rfl, hbz, hcell⟩
      · rw [h0] at hi; simp at hi
      have HCL : Hid (∀ j, j < az.length → W.cell? ⟨b, off + j * 6, none⟩ = some (.string ⟨(auAt az j).ref.toArray⟩) ∧ W.cell? ⟨b, off + j * 6 + 1, none⟩ = some (.int .i64 (auAt az j).iss) ∧ W.cell? ⟨b, off + j * 6 + 2, none⟩ = some (.int .i64 (auAt az j).cur) ∧ W.cell? ⟨b, off + j * 6 + 3, none⟩ = some (.int .i64 (auAt az j).am) ∧ W.cell? ⟨b, off + j * 6 + 4, none⟩ = some (.int .i64 (auAt az j).day) ∧ W.cell? ⟨b, off + j * 6 + 5, none⟩ = some (.bool (auAt az j).used)) := hcell
      have HVC : Hid (∀ v, Below W.heap.size W v → v.cell? ⟨b, off + i * 6, none⟩ = some (.string ⟨(auAt az i).ref.toArray⟩) ∧ v.cell? ⟨b, off + i * 6 + 1, none⟩ = some (.int .i64 (auAt az i).iss) ∧ v.cell? ⟨b, off + i * 6 + 2, none⟩ = some (.int .i64 (auAt az i).cur) ∧ v.cell? ⟨b, off + i * 6 + 3, none⟩ = some (.int .i64 (auAt az i).am) ∧ v.cell? ⟨b, off + i * 6 + 4, none⟩ = some (.int .i64 (auAt az i).day) ∧ v.cell? ⟨b, off + i * 6 + 5, none⟩ = some (.bool (auAt az i).used)) := fun v hv => ⟨(hv.cell (p := ⟨b, off + i * 6, none⟩) hbz).trans (HCL.out i hi).1, (hv.cell (p := ⟨b, off + i * 6 + 1, none⟩) hbz).trans (HCL.out i hi).2.1, (hv.cell (p := ⟨b, off + i * 6 + 2, none⟩) hbz).trans (HCL.out i hi).2.2.1, (hv.cell (p := ⟨b, off + i * 6 + 3, none⟩) hbz).trans (HCL.out i hi).2.2.2.1, (hv.cell (p := ⟨b, off + i * 6 + 4, none⟩) hbz).trans (HCL.out i hi).2.2.2.2.1, (hv.cell (p := ⟨b, off + i * 6 + 5, none⟩) hbz).trans (HCL.out i hi).2.2.2.2.2⟩
      obtain ⟨⟨r, i', c1, m, d, u⟩, hf⟩ : ∃ a, auAt az i = a := ⟨_, rfl⟩
      rw [hf] at HCI HVC HSI
      unfold auv at HSI
      simp only at HCI HVC HSI
      obtain ⟨rfl, rfl, rfl⟩ := HCI
      have n1 : (i' != i') = false := by simp
      have n2 : (c1 != c1) = false := by simp
      clear hf hcell
      obtain ⟨p0, p1, p2, p3, p4, p5⟩ := HVC.out u2 HB2.out
      go_wp2_with fail
      refine (HSI.out _).mono ?_
      rintro e u3 ⟨rfl, b3⟩
      have HB3 : Hid (Below W.heap.size W u3) := next HB2.out b3
      clear b3 p0 p1 p2 p3 p4 p5
      obtain ⟨p0, p1, p2, p3, p4, p5⟩ := HVC.out u3 HB3.out
      go_wp2
      clear p0 p1 p2 p3 p4 p5 HVC
      go_loopw [10, 11] (fun i _ wr => ∃ k : Nat, k ≤ az.length ∧ i = .int .i64 k ∧ Below W.heap.size W wr) (fun i _ _ => az.length - (intOf i).toNat)
      case atStart => exact ⟨0, Nat.zero_le _, rfl, HB3.out⟩
      case round =>
        obtain ⟨k, hk, rfl, hbr⟩ := hrel
        by_cases hlt : k < az.length
        · have x0 : wr.cell? ⟨b, off + k * 6, none⟩ = some (.string ⟨(auAt az k).ref.toArray⟩) := (hbr.cell (p := ⟨b, off + k * 6, none⟩) hbz).trans (HCL.out k hlt).1
          have x1 : wr.cell? ⟨b, off + k * 6 + 1, none⟩ = some (.int .i64 (auAt az k).iss) := (hbr.cell (p := ⟨b, off + k * 6 + 1, none⟩) hbz).trans (HCL.out k hlt).2.1
          have x2 : wr.cell? ⟨b, off + k * 6 + 2, none⟩ = some (.int .i64 (auAt az k).cur) := (hbr.cell (p := ⟨b, off + k * 6 + 2, none⟩) hbz).trans (HCL.out k hlt).2.2.1
          have x3 : wr.cell? ⟨b, off + k * 6 + 3, none⟩ = some (.int .i64 (auAt az k).am) := (hbr.cell (p := ⟨b, off + k * 6 + 3, none⟩) hbz).trans (HCL.out k hlt).2.2.2.1
          have x4 : wr.cell? ⟨b, off + k * 6 + 4, none⟩ = some (.int .i64 (auAt az k).day) := (hbr.cell (p := ⟨b, off + k * 6 + 4, none⟩) hbz).trans (HCL.out k hlt).2.2.2.2.1
          have x5 : wr.cell? ⟨b, off + k * 6 + 5, none⟩ = some (.bool (auAt az k).used) := (hbr.cell (p := ⟨b, off + k * 6 + 5, none⟩) hbz).trans (HCL.out k hlt).2.2.2.2.2
          have hki : (k : Int) < (az.length : Int) := by omega
          have HSK : Hid (∀ u, Calls Try.prog 15 #[auv (auAt az k), .int .i64 i', .int .i64 c1, .int .i64 am, .int .i64 da] u fun e w' => e = .returned (.int .i64 (sc k)) ∧ Below u.heap.size u w') := HSC.out k hlt
          have hmn := HMIN.out k hlt
          obtain ⟨⟨r2, i2, c2, m2, d2, u9⟩, hf⟩ : ∃ a, auAt az k = a := ⟨_, rfl⟩
          rw [hf] at x0 x1 x2 x3 x4 x5 HSK
          unfold auv at HSK
          simp only at x0 x1 x2 x3 x4 x5 HSK
          have HB : Hid (Below W.heap.size W wr) := hbr
          obtain ⟨s, hsk⟩ : ∃ s, sc k = s := ⟨_, rfl⟩
          rw [hsk] at hmn HSK
          clear hf hbr hsk
          by_cases hs : 0 ≤ s
          · rcases hmn hs with h | ⟨h, h'⟩
            · have e1 : ¬ s < t := by omega
              have e2 : (s == t) = false := beq_eq_false_iff_ne.2 (by omega)
              have hI : ¬ (i : Int) < 0 := by omega
              clear hmn h
              go_wp2_with fail
              refine (HSK.out _).mono ?_
              rintro e u4 ⟨rfl, b4⟩
              have HB4 : Hid (Below W.heap.size W u4) := next HB.out b4
              clear b4 x0 x1 x2 x3 x4 x5
              go_wp2
              go_roundw
              case rel => exact ⟨k + 1, by omega, by go_num, HB4.out⟩
              case measure => simp [intOf]; omega
            · subst h
              have e1 : ¬ t < t := by omega
              have e2 : (t == t) = true := by simp
              have e3 : ¬ (k : Int) < (i : Int) := by omega
              have hI : ¬ (i : Int) < 0 := by omega
              clear hmn h'
              go_wp2_with fail
              refine (HSK.out _).mono ?_
              rintro e u4 ⟨rfl, b4⟩
              have HB4 : Hid (Below W.heap.size W u4) := next HB.out b4
              clear b4 x0 x1 x2 x3 x4 x5
              go_wp2
              go_roundw
              case rel => exact ⟨k + 1, by omega, by go_num, HB4.out⟩
              case measure => simp [intOf]; omega
          · clear hmn
            go_wp2_with fail
            refine (HSK.out _).mono ?_
            rintro e u4 ⟨rfl, b4⟩
            have HB4 : Hid (Below W.heap.size W u4) := next HB.out b4
            clear b4 x0 x1 x2 x3 x4 x5
            go_wp2
            go_roundw
            case rel => exact ⟨k + 1, by omega, by go_num, HB4.out⟩
            case measure => simp [intOf]; omega
        · have HB : Hid (Below w.heap.size w wr) := next HBW.out hbr
          go_wp2
          go_ret
          exact ⟨rfl, HB.out⟩
  · subst hx1
    have h100' : (100 : Int) < (az.length : Int) := by omega
    have h0' : (0 : Int) < (az.length : Int) := by omega
    have HB : Hid (Below w.heap.size w u2) := next HBW.out HB2.out
    clear hsc HX
    go_wp2
    refine wp_loop_rounds 1 ?_
    rw [rounds_succ]
    go_wp2
    go_ret
    exact ⟨rfl, HB.out⟩

set_option maxRecDepth 100000 in
theorem lifted (os : Os) (started : os.Started) (H : Type) (enc : TypeId × Value → H) :
    ReturnsInHanded {} Try.checked os 3 .any (Rows.fnMatchSpec.pre6 enc Try.prog Try.f3 Rows.fnMatchRow.domain false) (Rows.fnMatchSpec.post enc Try.prog Try.f3 false true false false) := by
  refine returnsInHanded_of_change (C := Try.checked) own started (by kernel_rfl) Try.func3
    (ChangeSpec.witness6 (enc := enc) (C := Try.checked) false ⟨#[], #[.slice none 0 0], []⟩ 8 (by kernel_rfl) (by kernel_rfl) (by kernel_rfl) (by kernel_rfl)) ?_
  intro W base args ds gs before hval0 hW hcnd _
  have hval : ∀ (j : Nat) t v, Try.f3.params[j]? = some t → args[j]? = some v → Value.okWide Try.prog W .any base t v := hval0
  have hW' := hW
  obtain ⟨p, q, hA0, hV, rfl, hfz, hnd⟩ := hW
  have hA : DataW.TrodAll enc Try.prog W 0 (fun _ => true) true Try.f3.params.toList args.toList ds p := hA0
  rw [Try.params3] at hA hval
  obtain ⟨v0, vs0, d0, ds0, p0, q0, hargs, rfl, rfl, h0, r0⟩ := trodAll_cons hA
  obtain ⟨rfl, rfl, rfl⟩ := trodAll_nil r0
  obtain rfl : args = #[v0] := by cases args; simp_all
  obtain ⟨rfl, rfl⟩ := trodVars_none hV
  obtain ⟨a0, len0, cap0, rfl⟩ := okWide_slice Try.underlying22 (hval 0 22 v0 rfl rfl)
  have k0 := h0
  have lt0 : ∀ x ∈ p0, x.block < W.heap.size := by obtain ⟨m, hm⟩ := k0; exact DataW.trod_lt m _ _ _ hm
  obtain ⟨z0, w0⟩ : ∃ zs, IsRow .u8 W a0 len0 cap0 zs := is_row Try.underlying22 Try.underlying5 (by kernel_rfl) h0
  clear hA0 hval0
  refine (walk a0 len0 cap0 z0 W w0).mono fun e W' ⟨he, bel⟩ => ?_
  subst he
  exact ⟨_, rfl, _, _, _, [], _, [], hW', trodAll_mk1 (shut_bool Try.underlying4 _), (trodAll_cons_mk (Below.trod laidOut (by kernel_rfl) (of_decide_eq_true (by kernel_rfl)) k0 bel lt0) trodAll_mk0), rfl, bel.frame _, fun h => by cases h⟩

theorem proved : Rows.FnMatchSaid :=
  OpenClaim.holds_of_wide 3 Try.f3 rfl rfl rfl rfl rfl rfl rfl ⟨rfl, rfl, rfl, rfl, rfl⟩ rfl rfl rfl rfl rfl (by kernel_rfl) Try.func3 (by kernel_rfl)
    (of_decide_eq_true (by kernel_rfl)) (by unfold Func.isWrapper; first | (rw [if_pos (by decide +kernel)]; kernel_rfl) | (rw [if_neg (by decide +kernel)]; exact ⟨rfl, rfl⟩))
    (fun os started H enc _ => lifted os started H enc)
end Go.Proofs.Ytpjfigjgamlcdaa.fnMatch
