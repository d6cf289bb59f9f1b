/- Proved: whatever the bytes of the draw, Block and Unblock of the program answer as the specification's at what is drawn; records that are blocked come back from their file, whose length is a whole number of blocks and not 0; what is unblocked blocks to the same file, and what is refused answers nothing. No other conditions. -/
import Derived.Test.YtbncdhfmhokgeaaBase
import Derived.Test.YtbncdhfmhokgeaaSUnb
import Derived.Test.YtbncdhfmhokgeaaFBlock
import Derived.Test.YtbncdhfmhokgeaaStrLaw
import Derived.Test.YtbncdhfmhokgeaaDrawSp
namespace Go.Proofs.Ytbncdhfmhokgeaa.fnBlock
open Go.ChangeShapes Go.WideShapes Go.ChangeAt Go.RowKit

theorem unb_len (s : List UInt8) : (unb s).1.length ≤ 200 ∧ ∀ r ∈ (unb s).1, r.length ≤ 1099511627776 := by
  by_cases h : (unb s).2 = 0
  · have := blockOk_parts (unb_is h).1
    exact ⟨this.1, fun r hr => by have := (recsOk_mem this.2.1 r hr).2; omega⟩
  · rw [unb_not h]; exact ⟨by simp, fun r hr => by cases hr⟩
theorem block_sizes (rs : Recs) : ((blockL rs).length = 0 ∨ 1014 ≤ (blockL rs).length) ∧ (blockL rs).length ≤ 60000 := by
  cases h : blockOk rs
  · rw [blockL_no h]; simp
  · have h1 := blockL_shape h
    omega

set_option maxRecDepth 100000 in
set_option maxHeartbeats 800000 in
theorem drawB_any (a : Option Addr) (len cap : Nat) (zs : List Int) (w : World) (hr : IsRow .u8 w a len cap zs) (hn : len ≤ 1048576) :
    Calls Try.prog 7 #[.slice a len cap] w fun e w' => ∃ (ao : Option Addr) (c : Nat) (rs : Recs), e = .returned (.slice ao rs.length c) ∧ rs.length ≤ 210 ∧ (∀ r ∈ rs, r.length ≤ 3001) ∧ TxtsAt w' ao rs ∧ Below w.heap.size w w' := by
  go_enter Try.func7, Try.ntmps7
  go_wp2_with fail
  refine (new_any _ _ _ _ _ hr hn).mono ?_
  rintro e w1 ⟨rfl, c1, b1⟩
  clear hr
  go_wp2_with fail
  refine (recsD_any _ _ c1).mono ?_
  rintro e w2 ⟨ao, c, rs, rfl, h1, h2, h3, c2, g2⟩
  go_wp2
  go_ret
  exact ⟨ao, c, rs, rfl, h1, h2, h3, bel_grown b1 g2 (Nat.le_refl _)⟩

set_option maxRecDepth 100000 in
set_option maxHeartbeats 800000 in
theorem drawU_any (a : Option Addr) (len cap : Nat) (zs : List Int) (w : World) (hr : IsRow .u8 w a len cap zs) (hn : len ≤ 1048576) :
    Calls Try.prog 12 #[.slice a len cap] w fun e w' => ∃ l : List UInt8, e = .returned (.string ⟨l.toArray⟩) ∧ l.length ≤ 100000 ∧ Below w.heap.size w w' := by
  go_enter Try.func12, Try.ntmps12
  go_wp2_with fail
  refine (new_any _ _ _ _ _ hr hn).mono ?_
  rintro e w1 ⟨rfl, c1, b1⟩
  clear hr
  go_wp2_with fail
  refine (recsD_any _ _ c1).mono ?_
  rintro e w2 ⟨ao, c, rs, rfl, h1, h2, h3, c2, g2⟩
  have q2 := bel_grown b1 g2 (Nat.le_refl _)
  clear g2 c1 b1
  go_wp2_with fail
  refine (sBlock_any ao c rs _ h3 (by omega) (fun r hr => by have := h2 r hr; omega)).mono ?_
  rintro e w3 ⟨rfl, b3⟩
  have q3 := next q2 b3
  have c3 := cursor_below c2 b3
  obtain ⟨hb1, hb2⟩ := block_sizes rs
  generalize blockL rs = S at hb1 hb2
  generalize blockOk rs = ok
  clear b3 h3 c2 q2
  go_wp2_with fail
  refine (spoilD_any _ S _ c3 hb1 hb2).mono ?_
  rintro e w4 ⟨l, rfl, hl, c4, g4⟩
  have q4 := bel_grown q3 g4 (Nat.le_refl _)
  go_wp2
  go_ret
  exact ⟨l, rfl, hl, q4⟩

set_option maxRecDepth 100000 in
set_option maxHeartbeats 12800000 in
theorem walk (a : Option Addr) (len cap : Nat) (zs : List Int) (w : World) (hr : IsRow .u8 w a len cap zs) :
    Calls Try.prog 3 #[.slice a len cap] w fun e w' => e = .returned (.bool true) ∧ Below w.heap.size w w' := by
  by_cases hbig : (1048576 : Int) < (len : Int)
  · have hdec : decide ((1048576 : Int) < (len : Int)) = true := decide_eq_true hbig
    go_enter Try.func3, Try.ntmps3
    go_wp2_with fail
    refine (big_any _ _ _ _).mono ?_
    rintro e w1 ⟨rfl, hw1⟩
    rw [hw1, hdec]
    clear hw1
    go_wp2
    go_ret
    exact ⟨rfl, Below.refl _ _⟩
  have hn : len ≤ 1048576 := by omega
  have hdec : decide ((1048576 : Int) < (len : Int)) = false := decide_eq_false hbig
  go_enter Try.func3, Try.ntmps3
  go_wp2_with fail
  refine (big_any _ _ _ _).mono ?_
  rintro e w1 ⟨rfl, hw1⟩
  rw [hw1, hdec]
  clear hw1 w1 hdec hbig
  go_wp2_with fail
  refine (drawB_any _ _ _ _ _ hr hn).mono ?_
  rintro e u2 ⟨ao, c, rs, rfl, d1, d2, d3, q2⟩
  have HD : Hid (∀ r ∈ rs, r.length ≤ 1099511627776) := fun r hr => by have := d2 r hr; omega
  clear d2
  go_wp2_with fail
  refine (iBlock_any _ _ _ _ d3 (by omega) HD.out).mono ?_
  rintro e u3 ⟨rfl, b3⟩
  have q3 := next q2 b3
  have f3 := d3.below b3
  clear b3 q2 d3
  go_wp2_with fail
  refine (sBlock_any _ _ _ _ f3 (by omega) HD.out).mono ?_
  rintro e u4 ⟨rfl, b4⟩
  have q4 := next q3 b4
  have f4 := f3.below b4
  clear b4 q3 f3
  obtain ⟨hb1, hb2⟩ := block_sizes rs
  have HSH : Hid (blockOk rs = true → ¬ ((blockL rs).length = 0 ∨ 60000 < (blockL rs).length ∨ (blockL rs).length % 1014 ≠ 0)) := blockL_shape
  have HBK : Hid (blockOk rs = true → unb (blockL rs) = (rs, 0)) := unb_block
  obtain ⟨S, hS⟩ : ∃ S, blockL rs = S := ⟨_, rfl⟩
  rw [hS] at hb1 hb2 HSH HBK ⊢
  have hss : (S == S) = true := by simp
  clear hS
  -- what follows, once for both ways
  have HTAIL : Hid (∀ (U : World), Below w.heap.size w U → IsRow .u8 U a len cap zs) := fun U hU => row_below hr hU
  cases hok : blockOk rs
  · clear HSH HBK hok hb1
    go_wp2_with fail
    refine (drawU_any _ _ _ _ _ (HTAIL.out _ q4) hn).mono ?_
    rintro e v1 ⟨l, rfl, hll, bv1⟩
    have Q1 := next q4 bv1
    clear bv1 q4
    go_wp2_with fail
    refine (iUnblock_any l _ (by omega)).mono ?_
    rintro e v2 ⟨a2, c2, rfl, o2, bv2⟩
    have Q2 := next Q1 bv2
    have t2 := txts_any o2
    clear bv2 Q1 o2
    go_wp2_with fail
    refine (sUnblock_any l _ (by omega)).mono ?_
    rintro e v3 ⟨a3, c3, rfl, -, bv3⟩
    have Q3 := next Q2 bv3
    have t3 := t2.below bv3
    obtain ⟨hul, hum⟩ := unb_len l
    have hcd := unb_code l
    have HIS : Hid ((unb l).2 = 0 → blockOk (unb l).1 = true ∧ blockL (unb l).1 = l) := unb_is
    have HNOT : Hid ((unb l).2 ≠ 0 → (unb l).1 = []) := unb_not
    obtain ⟨T, hT⟩ : ∃ T, (unb l).1 = T := ⟨_, rfl⟩
    obtain ⟨cd, hcdE⟩ : ∃ cd, (unb l).2 = cd := ⟨_, rfl⟩
    rw [hT] at t3 hul hum HIS HNOT ⊢
    rw [hcdE] at hcd HIS HNOT ⊢
    have HUM : Hid (∀ r ∈ T, r.length ≤ 1099511627776) := hum
    clear bv3 Q2 t2 hT hcdE hum
    go_wp2_with fail
    refine (iBlock_any _ _ _ _ t3 (by omega) HUM.out).mono ?_
    rintro e v4 ⟨rfl, bv4⟩
    have Q4 := next Q3 bv4
    clear bv4 Q3 t3
    by_cases hz : cd = 0
    · subst hz
      obtain ⟨e1, e2⟩ := HIS.out rfl
      rw [e1, e2]
      have hll2 : (l == l) = true := by simp
      clear e1 e2 HIS HNOT HUM
      go_wp2
      go_ret
      exact ⟨one_bool (by first | rfl | simp), Q4⟩
    · have hT0 := HNOT.out hz
      subst hT0
      have hzi : ((cd : Int) == 0) = false := beq_eq_false_iff_ne.2 (by omega)
      generalize blockL [] = X
      generalize blockOk [] = Y
      clear HIS HNOT HUM
      go_wp2
      go_ret
      exact ⟨one_bool (by first | rfl | simp), Q4⟩
  · have hbk := HBK.out hok
    have hsh := HSH.out hok
    have hmod : (S.length : Int) % 1014 = 0 := by omega
    have hne0 : ((S.length : Int) == 0) = false := beq_eq_false_iff_ne.2 (by omega)
    have HB : Hid _ := hbk
    clear HSH HBK hok hbk hsh hb1
    go_wp2_with fail
    refine (iUnblock_any S _ (by omega)).mono ?_
    rintro e u5 ⟨a5, c5, rfl, o5, b5⟩
    rw [HB.out] at o5 ⊢
    have q5 := next q4 b5
    have f5 := f4.below b5
    have t5 := txts_any o5
    clear b5 q4 f4 o5 HB
    simp only at t5 ⊢
    go_wp2_with fail
    refine (sameTexts_any _ _ _ _ _ _ _ t5 f5 (by omega) (by omega)).mono ?_
    rintro e u6 ⟨rfl, b6⟩
    rw [decide_eq_true (rfl : rs = rs)]
    have q4 := next q5 b6
    clear b6 q5 f5 t5
    go_wp2_with fail
    refine (drawU_any _ _ _ _ _ (HTAIL.out _ q4) hn).mono ?_
    rintro e v1 ⟨l, rfl, hll, bv1⟩
    have Q1 := next q4 bv1
    clear bv1 q4
    go_wp2_with fail
    refine (iUnblock_any l _ (by omega)).mono ?_
    rintro e v2 ⟨a2, c2, rfl, o2, bv2⟩
    have Q2 := next Q1 bv2
    have t2 := txts_any o2
    clear bv2 Q1 o2
    go_wp2_with fail
    refine (sUnblock_any l _ (by omega)).mono ?_
    rintro e v3 ⟨a3, c3, rfl, -, bv3⟩
    have Q3 := next Q2 bv3
    have t3 := t2.below bv3
    obtain ⟨hul, hum⟩ := unb_len l
    have hcd := unb_code l
    have HIS : Hid ((unb l).2 = 0 → blockOk (unb l).1 = true ∧ blockL (unb l).1 = l) := unb_is
    have HNOT : Hid ((unb l).2 ≠ 0 → (unb l).1 = []) := unb_not
    obtain ⟨T, hT⟩ : ∃ T, (unb l).1 = T := ⟨_, rfl⟩
    obtain ⟨cd, hcdE⟩ : ∃ cd, (unb l).2 = cd := ⟨_, rfl⟩
    rw [hT] at t3 hul hum HIS HNOT ⊢
    rw [hcdE] at hcd HIS HNOT ⊢
    have HUM : Hid (∀ r ∈ T, r.length ≤ 1099511627776) := hum
    clear bv3 Q2 t2 hT hcdE hum
    go_wp2_with fail
    refine (iBlock_any _ _ _ _ t3 (by omega) HUM.out).mono ?_
    rintro e v4 ⟨rfl, bv4⟩
    have Q4 := next Q3 bv4
    clear bv4 Q3 t3
    by_cases hz : cd = 0
    · subst hz
      obtain ⟨e1, e2⟩ := HIS.out rfl
      rw [e1, e2]
      have hll2 : (l == l) = true := by simp
      clear e1 e2 HIS HNOT HUM
      go_wp2
      go_ret
      exact ⟨one_bool (by first | rfl | simp), Q4⟩
    · have hT0 := HNOT.out hz
      subst hT0
      have hzi : ((cd : Int) == 0) = false := beq_eq_false_iff_ne.2 (by omega)
      generalize blockL [] = X
      generalize blockOk [] = Y
      clear HIS HNOT HUM
      go_wp2
      go_ret
      exact ⟨one_bool (by first | rfl | simp), Q4⟩

set_option maxRecDepth 100000 in
theorem lifted (os : Os) (started : os.Started) (H : Type) (enc : TypeId × Value → H) :
    ReturnsInHanded {} Try.checked os 3 .any (Rows.fnBlockSpec.pre6 enc Try.prog Try.f3 Rows.fnBlockRow.domain false) (Rows.fnBlockSpec.post enc Try.prog Try.f3 false true false false) := by
  refine returnsInHanded_of_change (C := Try.checked) own started (by kernel_rfl) Try.func3
    (ChangeSpec.witness6 (enc := enc) (C := Try.checked) false ⟨#[], #[.slice none 0 0], []⟩ 8 (by kernel_rfl) (by kernel_rfl) (by kernel_rfl) (by kernel_rfl)) ?_
  intro W base args ds gs before hval0 hW hcnd _
  have hval : ∀ (j : Nat) t v, Try.f3.params[j]? = some t → args[j]? = some v → Value.okWide Try.prog W .any base t v := hval0
  have hW' := hW
  obtain ⟨p, q, hA0, hV, rfl, hfz, hnd⟩ := hW
  have hA : DataW.TrodAll enc Try.prog W 0 (fun _ => true) true Try.f3.params.toList args.toList ds p := hA0
  rw [Try.params3] at hA hval
  obtain ⟨v0, vs0, d0, ds0, p0, q0, hargs, rfl, rfl, h0, r0⟩ := trodAll_cons hA
  obtain ⟨rfl, rfl, rfl⟩ := trodAll_nil r0
  obtain rfl : args = #[v0] := by cases args; simp_all
  obtain ⟨rfl, rfl⟩ := trodVars_none hV
  obtain ⟨a0, len0, cap0, rfl⟩ := okWide_slice Try.underlying22 (hval 0 22 v0 rfl rfl)
  have k0 := h0
  have lt0 : ∀ x ∈ p0, x.block < W.heap.size := by obtain ⟨m, hm⟩ := k0; exact DataW.trod_lt m _ _ _ hm
  obtain ⟨z0, w0⟩ : ∃ zs, IsRow .u8 W a0 len0 cap0 zs := is_row Try.underlying22 Try.underlying5 (by kernel_rfl) h0
  clear hA0 hval0
  refine (walk a0 len0 cap0 z0 W w0).mono fun e W' ⟨he, bel⟩ => ?_
  subst he
  exact ⟨_, rfl, _, _, _, [], _, [], hW', trodAll_mk1 (shut_bool Try.underlying4 _), (trodAll_cons_mk (Below.trod laidOut (by kernel_rfl) (of_decide_eq_true (by kernel_rfl)) k0 bel lt0) trodAll_mk0), rfl, bel.frame _, fun h => by cases h⟩

theorem proved : Rows.FnBlockSaid :=
  OpenClaim.holds_of_wide 3 Try.f3 rfl rfl rfl rfl rfl rfl rfl ⟨rfl, rfl, rfl, rfl, rfl⟩ rfl rfl rfl rfl rfl (by kernel_rfl) Try.func3 (by kernel_rfl)
    (of_decide_eq_true (by kernel_rfl)) (by unfold Func.isWrapper; first | (rw [if_pos (by decide +kernel)]; kernel_rfl) | (rw [if_neg (by decide +kernel)]; exact ⟨rfl, rfl⟩))
    (fun os started H enc _ => lifted os started H enc)
end Go.Proofs.Ytbncdhfmhokgeaa.fnBlock
