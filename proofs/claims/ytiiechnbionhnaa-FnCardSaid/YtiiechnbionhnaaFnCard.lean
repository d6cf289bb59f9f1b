/- Proved: for whatever bytes the draws are made of (up to 1048576; more pass by the law's own first test): CheckDigit answers as the specification's; where it is a digit, the text and it are a card number, none with one digit changed is one, turned twice it is itself, and turned once it is one just when the two neighbours are the same or 0 and 9. No other conditions. -/
import Derived.Test.YtiiechnbionhnaaBase
import Derived.Test.YtiiechnbionhnaaCdQ
import Derived.Test.YtiiechnbionhnaaDrawCd2
namespace Go.Proofs.Ytiiechnbionhnaa.fnCard
open Go.ChangeShapes Go.WideShapes Go.ChangeAt Go.RowKit
set_option maxRecDepth 100000

set_option maxHeartbeats 400000 in
theorem at_n (j : Nat) (hj : j ≤ 10) (a : Option Addr) (len cap : Nat) (zs : List Int) (w : World) (hr : IsRow .u8 w a len cap zs) (hn : len ≤ 1048576) :
    Calls Try.prog 26 #[.slice a len cap, .int .i64 j] w fun e w' => ∃ k : Nat, k ≤ 255 ∧ e = .returned (.int .i64 k) ∧ w' = w := by
  by_cases h3 : j < len
  · have hb := bytes_of_row (g := w.heap.size) hr (Nat.le_refl _)
    rcases hb with h0 | ⟨b, off, rfl, _, _, hbytes⟩
    · omega
    · obtain ⟨v, v0, v1, cb⟩ := hbytes j h3
      obtain ⟨k, rfl⟩ := Int.eq_ofNat_of_zero_le v0
      have h3i : (j : Int) < (len : Int) := by omega
      clear hbytes hr
      go_enter Try.func26, Try.ntmps26
      go_wp2
      go_ret
      exact ⟨k, by omega, rfl, rfl⟩
  · have h3i : ¬ (j : Int) < (len : Int) := by omega
    have e1 : IntKind.i64.wrap ((j : Int) * 7) = ((j * 7 : Nat) : Int) := by rw [IntKind.wrap_i64]; omega
    have e2 : IntKind.i64.wrap (((j * 7 : Nat) : Int) + (len : Int)) = ((j * 7 + len : Nat) : Int) := by rw [IntKind.wrap_i64]; omega
    have e3 : ((j * 7 + len : Nat) : Int).tmod 256 = (((j * 7 + len) % 256 : Nat) : Int) := by rw [Int.tmod_eq_emod_of_nonneg (by omega)]; omega
    clear hr
    go_enter Try.func26, Try.ntmps26
    go_wp2
    go_ret
    exact ⟨(j * 7 + len) % 256, by omega, one_int (by omega), rfl⟩

/-- the digit that the law puts in another's place -/
def newD (c : UInt8) (q : Nat) : UInt8 := UInt8.ofNat (48 + (c.toNat - 48 + 1 + q % 9) % 10)
theorem newD_nat (c : UInt8) (q : Nat) : (newD c q).toNat = 48 + (c.toNat - 48 + 1 + q % 9) % 10 := by rw [newD, UInt8.toNat_ofNat']; omega
theorem newD_is (c : UInt8) (q : Nat) : isD (newD c q) := by unfold isD; rw [newD_nat]; omega
theorem newD_ne {c : UInt8} (h : isD c) (q : Nat) : newD c q ≠ c := by
  intro he
  have := congrArg UInt8.toNat he
  rw [newD_nat] at this
  unfold isD at h
  omega

theorem eq_nat (y z : UInt8) : (y == z) = ((y.toNat : Int) == (z.toNat : Int)) := by
  rw [Bool.eq_iff_iff]
  simp only [beq_iff_eq]
  exact ⟨fun h => by rw [h], fun h => UInt8.toNat.inj (by omega)⟩
theorem eq_lit (y c : UInt8) : (y == c) = ((y.toNat : Int) == (c.toNat : Int)) := eq_nat y c

theorem newV {x : UInt8} {q : Nat} (h : 48 ≤ x.toNat) (h2 : x.toNat ≤ 57) (hq : q ≤ 255) : IntKind.u8.wrap (IntKind.i64.wrap (48 + (IntKind.i64.wrap (IntKind.i64.wrap (IntKind.i64.wrap (IntKind.i64.wrap (x.toNat : Int) - 48) + 1) + (q : Int).tmod 9)).tmod 10)) = ((newD x q).toNat : Int) := by
  rw [newD_nat]
  generalize x.toNat = n at h h2
  have e1 : IntKind.i64.wrap (n : Int) = n := by rw [IntKind.wrap_i64]; omega
  have e2 : IntKind.i64.wrap ((n : Int) - 48) = ((n - 48 : Nat) : Int) := by rw [IntKind.wrap_i64]; omega
  have e3 : IntKind.i64.wrap (((n - 48 : Nat) : Int) + 1) = ((n - 48 + 1 : Nat) : Int) := by rw [IntKind.wrap_i64]; omega
  have e4 : (q : Int).tmod 9 = ((q % 9 : Nat) : Int) := by rw [Int.tmod_eq_emod_of_nonneg (by omega)]; omega
  have e5 : IntKind.i64.wrap (((n - 48 + 1 : Nat) : Int) + ((q % 9 : Nat) : Int)) = ((n - 48 + 1 + q % 9 : Nat) : Int) := by rw [IntKind.wrap_i64]; omega
  have e6 : ((n - 48 + 1 + q % 9 : Nat) : Int).tmod 10 = (((n - 48 + 1 + q % 9) % 10 : Nat) : Int) := by rw [Int.tmod_eq_emod_of_nonneg (by omega)]; omega
  rw [e1, e2, e3, e4, e5, e6]
  have e7 : IntKind.i64.wrap (48 + (((n - 48 + 1 + q % 9) % 10 : Nat) : Int)) = ((48 + (n - 48 + 1 + q % 9) % 10 : Nat) : Int) := by rw [IntKind.wrap_i64]; omega
  rw [e7, IntKind.wrap_u8]
  omega

theorem one_byte (w : World) (c : UInt8) : BAt (w.alloc (.cells #[.int .u8 c.toNat] 5)) w.heap.size [c] := by
  refine ⟨by simp, fun j hj => ?_⟩
  have : j = 0 := by simpa using hj
  subst this
  exact ⟨by simp [cell], by simp [go_sem]⟩

set_option maxHeartbeats 3000000 in
theorem walk (a0 : Option Addr) (len0 cap0 : Nat) (z0 : List Int) (w : World) (w0 : IsRow .u8 w a0 len0 cap0 z0) :
    Calls Try.prog 9 #[.slice a0 len0 cap0] w fun e w' => e = .returned (.bool true) ∧ Below w.heap.size w w' := by
  by_cases hbig : (1048576 : Int) < (len0 : Int)
  · have hdec : decide ((1048576 : Int) < (len0 : Int)) = true := decide_eq_true hbig
    clear w0
    go_enter Try.func9, Try.ntmps9
    go_wp2_with fail
    refine (big_any _ _ _ _).mono ?_
    rintro e w1 ⟨rfl, hw1⟩
    subst hw1
    rw [hdec]
    go_wp2
    go_ret
    exact ⟨rfl, Below.refl _ _⟩
  · have hdec : decide ((1048576 : Int) < (len0 : Int)) = false := decide_eq_false hbig
    have hn : len0 ≤ 1048576 := by omega
    have HW : Hid (IsRow .u8 w a0 len0 cap0 z0) := w0
    clear w0 hbig
    go_enter Try.func9, Try.ntmps9
    go_wp2_with fail
    refine (big_any _ _ _ _).mono ?_
    rintro e w1 ⟨rfl, hw1⟩
    subst hw1
    rw [hdec]
    clear hdec
    go_wp2_with fail
    refine (drawCk_any _ _ _ _ _ HW.out hn).mono ?_
    rintro e w2 ⟨l, rfl, hl, b2⟩
    have hlb : l.length ≤ 1099511627776 := by omega
    obtain ⟨v, hv⟩ : ∃ v, checkV l = v := ⟨_, rfl⟩
    go_wp2_with fail
    refine (iCheck_any l _ hlb).mono ?_
    rw [hv]
    rintro e w3 ⟨rfl, b3⟩
    go_wp2_with fail
    refine (sCheck_any l _ hlb).mono ?_
    rw [hv]
    rintro e w4 ⟨rfl, hw⟩
    subst hw
    have HB4 : Hid (Below w1.heap.size w1 w4) := next b2 b3
    clear b2 b3
    by_cases hneg : v < 0
    · go_wp2
      go_ret
      exact ⟨rfl, HB4.out⟩
    · obtain ⟨d, rfl⟩ := Int.eq_ofNat_of_zero_le (show 0 ≤ v by omega)
      obtain ⟨hd9, hlen, hcard⟩ := card_made hv
      clear hv hneg
      obtain ⟨c, hcc⟩ : ∃ c, UInt8.ofNat (48 + d) = c := ⟨_, rfl⟩
      have hcn : c.toNat = 48 + d := by rw [← hcc, UInt8.toNat_ofNat']; omega
      rw [hcc] at hcard
      have hcv := (one_byte w4 c).text (cap := 1)
      have bx : Below w4.heap.size w4 (w4.alloc (.cells #[.int .u8 (48 + (d : Int))] 5)) := (Below.refl _ _).alloc (Nat.le_refl _) _
      have gc := cat_any l [c] (by simp; omega)
      obtain ⟨card, hcd⟩ : ∃ x, l ++ [c] = x := ⟨_, rfl⟩
      have hclen : card.length = l.length + 1 := by rw [← hcd]; simp
      have hcl1 : 12 ≤ card.length := by omega
      have hcl2 : card.length ≤ 19 := by omega
      rw [hcd] at gc hcard
      obtain ⟨one, hone⟩ : ∃ o : ByteArray, ⟨[c].toArray⟩ = o := ⟨_, rfl⟩
      rw [hone] at gc hcv
      rw [show ((c.toNat : Nat) : Int) = 48 + (d : Int) from by omega] at hcv
      simp only [List.length_singleton] at hcv
      have HX : Hid (Below w1.heap.size w1 (w4.alloc (.cells #[.int .u8 (48 + (d : Int))] 5))) := next HB4.out bx
      have hcb : card.length ≤ 1099511627776 := by omega
      have HC : Hid (cardOk card = true) := hcard
      clear hcc hcd hone bx HB4 hcard hclen
      go_wp2_with fail
      refine (iCardOk_any card _ hcb).mono ?_
      rw [HC.out]
      rintro e w5 ⟨rfl, b5⟩
      have HB5 : Hid (Below w1.heap.size w1 w5) := next HX.out b5
      clear b5 HX gc hcv
      obtain ⟨cap6, w6, hcv6, hba, b6⟩ := conv_bytes card w5
      have HBA : Hid (BAt w6 w5.heap.size card) := hba
      have HB6 : Hid (Below w1.heap.size w1 w6) := next HB5.out b6
      have HR6 : Hid (IsRow .u8 w6 a0 len0 cap0 z0) := row_below HW.out HB6.out
      clear hba b6
      go_wp2_with fail
      refine (at_n 3 (by omega) _ _ _ _ _ HR6.out hn).mono ?_
      rintro e w7 ⟨k3, hk3, rfl, hw⟩
      subst hw
      obtain ⟨i, hi⟩ : ∃ i, k3 % card.length = i := ⟨_, rfl⟩
      have him : i < card.length := by rw [← hi]; exact Nat.mod_lt _ (by omega)
      have htm : (k3 : Int) % (card.length : Int) = (i : Int) := by omega
      have hii : (i : Int) < (card.length : Int) := by omega
      have hcell := HBA.out.2 i (by omega)
      obtain ⟨x, hx⟩ : ∃ x, card.getD i 0 = x := ⟨_, rfl⟩
      have hxd : isD x := by rw [← hx]; exact at_digit HC.out (by omega)
      rw [hx] at hcell
      have x1 : w7.cell? ⟨w5.heap.size, i, none⟩ = some (.int .u8 (x.toNat : Int)) := hcell.1
      have x2 := hcell.2
      clear hcell hi
      have hx1 : 48 ≤ x.toNat := hxd.1
      have hx2 : x.toNat ≤ 57 := hxd.2
      have HR7 : Hid (IsRow .u8 w7.drew a0 len0 cap0 z0) := row_below HR6.out ((Below.refl _ _).drew)
      go_wp2_with fail
      have H4 : Hid (Calls Try.prog 26 #[.slice a0 len0 cap0, .int .i64 4] w7.drew fun e w' => ∃ k : Nat, k ≤ 255 ∧ e = .returned (.int .i64 k) ∧ w' = w7.drew) := at_n 4 (by omega) _ _ _ _ _ HR7.out hn
      go_region_with (go_at_call 26; refine Calls.mono H4.out ?_; rintro e w8 ⟨q, hq, rfl, hw⟩; subst hw)
      all_goals
        rw [newV hx1 hx2 hq]
        have hst := (HBA.out.put (i := i) him (newD x q)).below ((Below.refl _ _).drew)
        have hbV : Below w5.heap.size w7 ((w7.setCell ⟨w5.heap.size, i, none⟩ (.int .u8 (newD x q).toNat)).drew) := (bel_cell w7 w5.heap.size i _).drew
        have HV : Hid (Below w1.heap.size w1 ((w7.setCell ⟨w5.heap.size, i, none⟩ (.int .u8 (newD x q).toNat)).drew)) := HB6.out.trans (hbV.mono HB5.out.size)
        have HN : Hid (cardOk (card.set i (newD x q)) = false) := card_one HC.out him (newD_is x q) (by rw [hx]; exact newD_ne hxd q)
        have hcv8 := hst.text (cap := cap6)
        rw [List.length_set] at hcv8
        have hnl : (card.set i (newD x q)).length ≤ 1099511627776 := by rw [List.length_set]; exact hcb
        generalize hVq : (w7.setCell ⟨w5.heap.size, i, none⟩ (.int .u8 (newD x q).toNat)).drew = V at HV hcv8
        obtain ⟨cs, hcs⟩ : ∃ cs, card.set i (newD x q) = cs := ⟨_, rfl⟩
        rw [hcs] at hcv8 hnl HN
        clear hst hbV hcs hVq x1 x2 H4 HR7
        go_wp2_with fail
        refine (iCardOk_any cs _ hnl).mono ?_
        rw [HN.out]
        rintro e w9 ⟨rfl, b9⟩
        have HB9 : Hid (Below w1.heap.size w1 w9) := next HV.out b9
        have HR9 : Hid (IsRow .u8 w9 a0 len0 cap0 z0) := row_below HW.out HB9.out
        have H5 : Hid (Calls Try.prog 26 #[.slice a0 len0 cap0, .int .i64 5] w9 fun e w' => ∃ k : Nat, k ≤ 255 ∧ e = .returned (.int .i64 k) ∧ w' = w9) := at_n 5 (by omega) _ _ _ _ _ HR9.out hn
        clear b9 hcv8
        go_wp2_with fail
        refine Calls.mono H5.out ?_
        rintro e w10 ⟨k5, hk5, rfl, hw⟩
        subst hw
        obtain ⟨k, hk⟩ : ∃ k, k5 % (card.length - 1) = k := ⟨_, rfl⟩
        have hkl : k < card.length - 1 := by rw [← hk]; exact Nat.mod_lt _ (by omega)
        have hkm : (k5 : Int) % ((card.length : Int) - 1) = (k : Int) := by
          rw [← hk, show ((card.length : Int) - 1) = ((card.length - 1 : Nat) : Int) from by omega]
          omega
        have hne0 : ¬ (card.length : Int) - 1 = 0 := by omega
        have HT : Hid (turnL card (k : Int) = turnK card k) := turn_within HC.out (by omega)
        have HTb : Hid (turnL (turnK card k) (k : Int) = card) := turn_back HC.out (by omega)
        obtain ⟨t, ht⟩ : ∃ t, turnK card k = t := ⟨_, rfl⟩
        have hk1 : k < card.length := by omega
        have hk2 : k + 1 < card.length := by omega
        obtain ⟨y, hy⟩ : ∃ y, (⟨card.toArray⟩ : ByteArray)[k]'(by rw [ba_size]; exact hk1) = y := ⟨_, rfl⟩
        obtain ⟨z, hz⟩ : ∃ z, (⟨card.toArray⟩ : ByteArray)[k + 1]'(by rw [ba_size]; exact hk2) = z := ⟨_, rfl⟩
        have H2 : Hid _ := card_two HC.out hk2 ((byte_at card k hk1).trans hy) ((byte_at card (k + 1) hk2).trans hz)
        rw [ht] at HT HTb H2
        have htl : t.length ≤ 1099511627776 := by rw [← ht]; simp [turnK]; omega
        have hki1 : (k : Int) < (card.length : Int) := by omega
        have hki2 : (k : Int) + 1 < (card.length : Int) := by omega
        clear hk ht
        go_wp2_with fail
        refine (iTurned_any card k _ hcb).mono ?_
        rw [HT.out]
        rintro e w11 ⟨rfl, b11⟩
        have HB11 : Hid (Below w1.heap.size w1 w11) := next HB9.out b11
        clear b11
        obtain ⟨B1, hB1⟩ : ∃ b, ((y.toNat : Int) == 48) = b := ⟨_, rfl⟩
        obtain ⟨B2, hB2⟩ : ∃ b, ((z.toNat : Int) == 57) = b := ⟨_, rfl⟩
        obtain ⟨B3, hB3⟩ : ∃ b, ((y.toNat : Int) == 57) = b := ⟨_, rfl⟩
        obtain ⟨B4, hB4⟩ : ∃ b, ((z.toNat : Int) == 48) = b := ⟨_, rfl⟩
        obtain ⟨B5, hB5⟩ : ∃ b, ((y.toNat : Int) == (z.toNat : Int)) = b := ⟨_, rfl⟩
        have H3 : Hid (cardOk t = (B5 || ((B1 && B2) || (B3 && B4)))) := by
          rw [Hid, H2.out, ← hB1, ← hB2, ← hB3, ← hB4, ← hB5, eq_nat y z, eq_lit y 48, eq_lit y 57, eq_lit z 48, eq_lit z 57]
          rfl
        clear H2
        go_wp2_with fail
        go_quiet (fail)
        cases B1 <;> cases B2 <;> cases B3 <;> cases B4 <;> cases B5
        all_goals
          first
          | (exfalso; simp only [beq_iff_eq, beq_eq_false_iff_ne, ne_eq] at hB1 hB2 hB3 hB4 hB5; omega)
          | (go_wp2_with fail
             refine (iTurned_any t k _ htl).mono ?_
             rw [HTb.out]
             rintro e w12 ⟨rfl, b12⟩
             go_wp2_with fail
             refine (iCardOk_any t _ htl).mono ?_
             rw [H3.out]
             rintro e w13 ⟨rfl, b13⟩
             go_wp2
             go_ret
             exact ⟨rfl, next (next (below_drewN HB11.out _) b12) b13⟩)

set_option maxRecDepth 100000 in
theorem lifted (os : Os) (started : os.Started) (H : Type) (enc : TypeId × Value → H) :
    ReturnsInHanded {} Try.checked os 9 .any (Rows.fnCardSpec.pre6 enc Try.prog Try.f9 Rows.fnCardRow.domain false) (Rows.fnCardSpec.post enc Try.prog Try.f9 false true false false) := by
  refine returnsInHanded_of_change (C := Try.checked) own started (by kernel_rfl) Try.func9
    (ChangeSpec.witness6 (enc := enc) (C := Try.checked) false ⟨#[], #[.slice none 0 0], []⟩ 8 (by kernel_rfl) (by kernel_rfl) (by kernel_rfl) (by kernel_rfl)) ?_
  intro W base args ds gs before hval0 hW hcnd _
  have hval : ∀ (j : Nat) t v, Try.f9.params[j]? = some t → args[j]? = some v → Value.okWide Try.prog W .any base t v := hval0
  have hW' := hW
  obtain ⟨p, q, hA0, hV, rfl, hfz, hnd⟩ := hW
  have hA : DataW.TrodAll enc Try.prog W 0 (fun _ => true) true Try.f9.params.toList args.toList ds p := hA0
  rw [Try.params9] at hA hval
  obtain ⟨v0, vs0, d0, ds0, p0, q0, hargs, rfl, rfl, h0, r0⟩ := trodAll_cons hA
  obtain ⟨rfl, rfl, rfl⟩ := trodAll_nil r0
  obtain rfl : args = #[v0] := by cases args; simp_all
  obtain ⟨rfl, rfl⟩ := trodVars_none hV
  obtain ⟨a0, len0, cap0, rfl⟩ := okWide_slice Try.underlying32 (hval 0 32 v0 rfl rfl)
  have k0 := h0
  have lt0 : ∀ x ∈ p0, x.block < W.heap.size := by obtain ⟨m, hm⟩ := k0; exact DataW.trod_lt m _ _ _ hm
  obtain ⟨z0, w0⟩ : ∃ zs, IsRow .u8 W a0 len0 cap0 zs := is_row Try.underlying32 Try.underlying5 (by kernel_rfl) h0
  clear hA0 hval0
  refine (walk a0 len0 cap0 z0 W w0).mono fun e W' ⟨he, bel⟩ => ?_
  subst he
  exact ⟨_, rfl, _, _, _, [], _, [], hW', trodAll_mk1 (shut_bool Try.underlying4 _), (trodAll_cons_mk (Below.trod laidOut (by kernel_rfl) (of_decide_eq_true (by kernel_rfl)) k0 bel lt0) trodAll_mk0), rfl, bel.frame _, fun h => by cases h⟩

theorem proved : Rows.FnCardSaid :=
  OpenClaim.holds_of_wide 9 Try.f9 rfl rfl rfl rfl rfl rfl rfl ⟨rfl, rfl, rfl, rfl, rfl⟩ rfl rfl rfl rfl rfl (by kernel_rfl) Try.func9 (by kernel_rfl)
    (of_decide_eq_true (by kernel_rfl)) (by unfold Func.isWrapper; first | (rw [if_pos (by decide +kernel)]; kernel_rfl) | (rw [if_neg (by decide +kernel)]; exact ⟨rfl, rfl⟩))
    (fun os started H enc _ => lifted os started H enc)
end Go.Proofs.Ytiiechnbionhnaa.fnCard
