/- Proved: whatever the bytes of the draw, Batch and ReadBatch of the program answer as the specification's at what is drawn; messages that are batched come back from their file, as many as they were, each with its place in field 71 and else as With makes it, and batch to the same file again; at a text near a batch's the two answer the same code, and what is refused answers nothing. What it takes: the listed tables of Go's library and its handle of the type error hold what the library's text lays (the card ties them to the program). No other conditions. -/
import Derived.Test.YtbncdhfmhokgeaaGreatDoorJFnBatch7a
import Derived.Test.YtbncdhfmhokgeaaGreatDoorKFnBatchDrawBt
import Derived.Test.YtbncdhfmhokgeaaGreatDoorKFnBatchSRdB
import Derived.Test.YtbncdhfmhokgeaaGreatDoorKFnBatchSameM
import Derived.Test.YtbncdhfmhokgeaaGreatDoorJFnBatch0a
namespace Go.Proofs.YtbncdhfmhokgeaaGreatDoor.fnBatch
open Go.ChangeShapes Go.WideShapes Go.ChangeAt Go.RowKit
set_option maxRecDepth 100000

theorem rd_msgsB {w : World} {B b off n a : Nat} {ys : List MV} {aL : Option Addr} (h : MsO w B b off n (fun i => .slice (vAt ys (a + i)).ao (vAt ys (a + i)).fs.length (vAt ys (a + i)).cap) (fun i => (vAt ys (a + i)).fs.length) (fun i => (vAt ys (a + i)).kd) (fun i => (vAt ys (a + i)).fs))
    (ha : n = 0 ∨ aL = some ⟨b, off, none⟩) (hay : a + n ≤ ys.length) : MsgsAt w aL ((ys.drop a).take n) ∧ GoodMs ((ys.drop a).take n) := by
  have hl : ((ys.drop a).take n).length = n := by simp; omega
  by_cases h0 : n = 0
  · subst h0
    have e : (ys.drop a).take 0 = [] := rfl
    rw [e]; exact ⟨⟨.inl rfl, fun x hx => by cases hx⟩, fun x hx => by cases hx⟩
  · have ha : aL = some ⟨b, off, none⟩ := by rcases ha with h | h; exact absurd h h0; exact h
    have each : ∀ x ∈ (ys.drop a).take n, ∃ i, i < n ∧ x = vAt ys (a + i) := by
      intro x hx
      obtain ⟨i, hi, rfl⟩ := List.getElem_of_mem hx
      have hi' : i < n := by rw [hl] at hi; exact hi
      exact ⟨i, hi', by rw [← vAt_is hi, vAt_part ys a n i hi']⟩
    refine ⟨⟨.inr ⟨b, off, ha, (h.lt 0 (by omega)).2, fun i hi => ?_⟩, fun x hx => ?_⟩, fun x hx => ?_⟩
    · rw [hl] at hi
      rw [vAt_part ys a n i hi]
      exact ⟨h.c0 i hi, h.c1 i hi⟩
    · obtain ⟨i, hi, rfl⟩ := each x hx
      exact flds_ofS (x := vAt ys (a + i)) (h.rows i hi)
    · obtain ⟨i, hi, rfl⟩ := each x hx
      exact good_own (h.rows i hi)
theorem part_plainB (ys : List MV) (a n : Nat) : plainM ((ys.drop a).take n) = ((plainM ys).drop a).take n := by simp [plainM, List.map_take]
theorem same_len {xs ys : List MV} (h : plainM xs = plainM ys) : xs.length = ys.length := by have := congrArg List.length h; rwa [plainM_len, plainM_len] at this

set_option maxHeartbeats 12800000 in
theorem walk (a : Option Addr) (len cap : Nat) (zs : List Int) (w : World) (hr : IsRow .u8 w a len cap zs) (hL : laidMetH Tryz.prog Rows.fnBatchRow.laid w) (_hsh : w.ShapedOpen Tryz.prog) :
    Calls Tryz.prog 4 #[.slice a len cap] w fun e w' => e = .returned (.bool true) ∧ Below w.heap.size w w' := by
  have h' : laidMet Tryz.prog [("math/bits.deBruijn32tab", Rows.laid_math_bits_deBruijn32tab), ("math/bits.deBruijn64tab", Rows.laid_math_bits_deBruijn64tab), ("internal/strconv.uint64pow10", Rows.laid_internal_strconv_uint64pow10)] w ∧ handlesMet Tryz.prog [("errors.errorType", Rows.laid_errors_errorType)] w := hL
  have HT : Hid (Pow10 w) := pow10_head h'.1.tail.tail
  have HE : Hid (ErrTy w) := handle_of h'.2
  clear hL h'
  by_cases hbig : (1048576 : Int) < (len : Int)
  · have hdec : decide ((1048576 : Int) < (len : Int)) = true := decide_eq_true hbig
    go_enter Tryz.func4, Tryz.ntmps4
    go_wp2_with fail
    refine (big_any _ _ _ _).mono ?_
    rintro e w1 ⟨rfl, hw1⟩
    rw [hw1, hdec]
    clear hw1
    go_wp2
    go_ret
    exact ⟨rfl, Below.refl _ _⟩
  have hn : len ≤ 1048576 := by omega
  have hdec : decide ((1048576 : Int) < (len : Int)) = false := decide_eq_false hbig
  have HTAIL : Hid (∀ (U : World), Below w.heap.size w U → IsRow .u8 U a len cap zs) := fun U hU => row_below hr hU
  go_enter Tryz.func4, Tryz.ntmps4
  go_wp2_with fail
  refine (big_any _ _ _ _).mono ?_
  rintro e w1 ⟨rfl, hw1⟩
  rw [hw1, hdec]
  clear hw1 w1 hdec hbig
  go_wp2_with fail
  refine (drawBt_any _ _ _ _ _ hr hn).mono ?_
  rintro e u2 ⟨lo, lc, xs, rfl, d1, d2, d3, d4, q2⟩
  have HS : Hid (SmallM xs) := d2
  have HG : Hid (GoodMs xs) := d3
  have HX2 : Hid (MsgsAt u2 lo xs) := d4
  clear d2 d3 d4 hr
  go_wp2_with fail
  refine (iBatch_any lo lc xs u2 HX2.out HS.out HG.out (by omega) (HT.out.below q2)).mono ?_
  rintro e u3 ⟨rfl, b3⟩
  have q3 := next q2 b3
  have HX3 : Hid (MsgsAt u3 lo xs) := HX2.out.below b3
  clear b3 q2 HX2
  go_wp2_with fail
  refine (sBatch_any lo lc xs u3 HX3.out HS.out HG.out (by omega)).mono ?_
  rintro e u4 ⟨rfl, b4⟩
  have q4 := next q3 b4
  have HX4 : Hid (MsgsAt u4 lo xs) := HX3.out.below b4
  clear b4 q3 HX3
  have HBK : Hid (batchOk (plainM xs) = true → rdB (batchL (plainM xs)) = (placedMs (plainM xs), 0) ∧ batchOk (placedMs (plainM xs)) = true ∧ batchL (placedMs (plainM xs)) = batchL (plainM xs) ∧ allOk (plainM xs) = true) := fun h => ⟨rd_batch h, (batch_again h).1, (batch_again h).2, (batchOk_parts h).2.1⟩
  have hsz := (batchL_sizes (plainM xs)).2
  obtain ⟨S, hS⟩ : ∃ S, batchL (plainM xs) = S := ⟨_, rfl⟩
  obtain ⟨K, hK⟩ : ∃ K, batchOk (plainM xs) = K := ⟨_, rfl⟩
  rw [hS] at HBK hsz ⊢
  rw [hK] at HBK ⊢
  clear hS hK
  have hss : (S == S) = true := by simp
  cases K
  · have qT := q4
    clear HBK HX4 hsz q4
    go_wp2_with fail
    refine (drawRB_any _ _ _ _ _ (HTAIL.out _ qT) hn).mono ?_
    rintro e v1 ⟨u, rfl, hul, t1⟩
    have s1 := next qT t1
    have HUL : Hid (u.length ≤ 1099511627776) := by rw [Hid]; omega
    have HRN : Hid ((rdB u).2 ≠ 0 → (rdB u).1 = []) := rdB_no
    have hcu := rdB_code u
    clear t1 qT
    go_wp2_with fail
    refine (iReadBatch_any u _ HUL.out (HT.out.below s1) (HE.out.below s1)).mono ?_
    rintro e v2 ⟨t2, xL, xc, xb, xo, xy, xa, rfl, -, -, -, -, -⟩
    have s2 := next s1 t2
    clear t2 s1
    go_wp2_with fail
    refine (sReadBatch_any u _ HUL.out).mono ?_
    rintro e v3 ⟨t3, yL, yc, yx, rfl, -, -⟩
    have s3 := next s2 t3
    clear t3 s2
    obtain ⟨r, hr⟩ : ∃ r, rdB u = r := ⟨_, rfl⟩
    rw [hr] at HRN hcu ⊢
    obtain ⟨RL, rc⟩ := r
    simp only at hcu ⊢
    clear hr
    have hrr : ((rc : Int) == (rc : Int)) = true := by simp
    by_cases hz : rc = 0
    · subst hz
      go_wp2
      go_ret
      exact ⟨rfl, s3⟩
    · have hnil : RL = [] := HRN.out hz
      subst hnil
      have hz2 : ((rc : Int) == 0) = false := by simp; omega
      go_wp2
      go_ret
      exact ⟨rfl, s3⟩
  · obtain ⟨hrd, hag1, hag2, hall⟩ := HBK.out rfl
    have HCR : Hid (Calls Tryz.prog 20 #[.string ⟨S.toArray⟩] u4 (RdR u4 (placedMs (plainM xs), 0))) := by
      have h5 := iReadBatch_any S u4 (by omega) (HT.out.below q4) (HE.out.below q4)
      rw [hrd] at h5; exact h5
    have HAG : Hid (batchOk (placedMs (plainM xs)) = true ∧ batchL (placedMs (plainM xs)) = S) := ⟨hag1, hag2⟩
    have HALL : Hid _ := hall
    clear hrd hag1 hag2 hall HBK
    go_wp2_with fail
    refine HCR.out.mono ?_
    rintro e u5 ⟨b5, aG, cG, gb, off, ys, ya, rfl, haG, hay, hpy, hsm, hO⟩
    simp only [placedMs_len, plainM_len] at haG hay hpy hO ⊢
    have h0c : ((0 : Nat) : Int) = 0 := rfl
    rw [h0c]
    clear h0c
    have q5 := next q4 b5
    have HX5 : Hid (MsgsAt u5 lo xs) := HX4.out.below b5
    obtain ⟨hm5, hg5⟩ := rd_msgsB hO haG hay
    have hpl : plainM ((ys.drop ya).take xs.length) = placedMs (plainM xs) := by rw [part_plainB]; exact hpy
    have hsm5 : ∀ x ∈ (ys.drop ya).take xs.length, x.fs.length ≤ 92 := fun x hx => hsm x (List.mem_of_mem_drop (List.mem_of_mem_take hx))
    obtain ⟨Y, hY⟩ : ∃ Y, (ys.drop ya).take xs.length = Y := ⟨_, rfl⟩
    rw [hY] at hm5 hg5 hpl hsm5
    have hyl : Y.length = xs.length := by have := congrArg List.length hpl; rwa [plainM_len, placedMs_len, plainM_len] at this
    have HY5 : Hid (MsgsAt u5 aG Y) := hm5
    have HYG : Hid (GoodMs Y) := hg5
    have HYP : Hid _ := hpl
    have HYL : Hid _ := hyl
    have HYS : Hid (SmallM Y) := fun x hx => by
      have h1 := hsm5 x hx
      have h2 := plainM_mem hx
      rw [hpl] at h2
      have h3 := small_ok (msgOk_parts (allOk_mem (allOk_placed HALL.out (by rw [plainM_len]; omega)) _ h2)).2
      simp only at h3
      omega
    have hll : ((xs.length : Int) != (xs.length : Int)) = false := by simp
    clear HCR b5 haG hay hpy hsm hO hm5 hg5 hpl hsm5 hY hyl HX4
    go_wp2
    go_loopw [10] (fun i wr => ∃ k : Nat, k ≤ xs.length ∧ i = .int .i64 k ∧ Below u5.heap.size u5 wr) (fun i _ => xs.length - (intOf i).toNat)
    case atStart => exact ⟨0, Nat.zero_le _, rfl, Below.refl _ _⟩
    case round =>
      obtain ⟨k, hk, rfl, hbr⟩ := hrel
      obtain ⟨R, hR⟩ : ∃ R, R = wr := ⟨_, rfl⟩
      subst hR
      by_cases hlt : k < xs.length
      · have hki : (k : Int) < (xs.length : Int) := by omega
        have hltY : k < Y.length := by rw [HYL.out]; exact hlt
        obtain ⟨b, of1, rfl, hb, c0, c1, hf⟩ := (HY5.out.below hbr).at hltY
        obtain ⟨b', of2, rfl, hb', e0, e1, hf'⟩ := (HX5.out.below hbr).at hlt
        have hmk := allOk_mem HALL.out _ (plainM_mem (vAt_mem hlt))
        have hgx := HG.out _ (vAt_mem hlt)
        have hsx := HS.out _ (vAt_mem hlt)
        have hsy := HYS.out _ (vAt_mem hltY)
        have hpm : ((vAt Y k).kd, (vAt Y k).fs) = putM ((vAt xs k).kd, (vAt xs k).fs) (k + 2) := by
          rw [← plainM_at hltY, HYP.out, placedMs_at _ _ (by rw [plainM_len]; exact hlt), plainM_at hlt]
        obtain ⟨⟨kd, fa, fc, fs⟩, hx⟩ : ∃ x, vAt xs k = x := ⟨_, rfl⟩
        obtain ⟨⟨kd', ga, gc, gs⟩, hy⟩ : ∃ x, vAt Y k = x := ⟨_, rfl⟩
        rw [hx] at e0 e1 hf' hmk hgx hsx hpm
        rw [hy] at c0 c1 hf hsy hpm
        simp only at e0 e1 hf' hmk hsx c0 c1 hf hsy hpm
        obtain ⟨rfl, rfl⟩ : kd' = kd ∧ gs = withF fs 71 (place (k + 2)) := by simpa [putM] using hpm
        have hi2 : k + 2 < 100000000 := by omega
        have hp8 := place_len (k + 2)
        have hok71 : withOk kd' fs 71 (place (k + 2)) = true := by rw [withOk71 hi2]; exact hmk
        have hL71 := withL_yes hok71
        have hnum := place_num hi2
        have hfo := fOf_with71 fs (place (k + 2))
        obtain ⟨P, hP⟩ : ∃ P, place (k + 2) = P := ⟨_, rfl⟩
        rw [hP] at c1 hf hsy hp8 hok71 hL71 hnum hfo
        obtain ⟨G, hG⟩ : ∃ G, withF fs 71 P = G := ⟨_, rfl⟩
        rw [hG] at c1 hf hsy hL71 hfo
        have hGl : G.length ≤ 1048576 := hsy.1
        have HC1 : Hid (Calls Tryz.prog 21 #[.agg #[.int .i64 kd', .slice ga G.length gc], .int .i64 71] R fun e w' => e = .returned (.tuple #[.string ⟨P.toArray⟩, .bool true]) ∧ Below R.heap.size R w') := by
          have h5 := iFieldOf_any kd' ga gc G 71 R hf hsy.1 hsy.2
          rw [hfo] at h5; exact h5
        have HNUM : Hid (∀ u : World, Calls Tryz.prog 23 #[.string ⟨P.toArray⟩] u fun e w' => e = .returned (.int .i64 ((k : Int) + 2)) ∧ Below u.heap.size u w') := fun u => by
          refine (iNumOf_any P u (by omega)).mono ?_
          rintro e w' ⟨rfl, hw⟩
          rw [hw, hnum]
          exact ⟨rfl, Below.refl _ _⟩
        have HWC : Hid (∀ u : World, FldsAt u fa fs → Calls Tryz.prog 22 #[.agg #[.int .i64 kd', .slice fa fs.length fc], .int .i64 71, .string ⟨P.toArray⟩] u (Withs u kd' G true)) := fun u hu => by
          have h5 := iWithG (num := 71) (d := P) (w := u) hgx hu hsx.1 hsx.2 (by omega)
          rw [hL71, hok71] at h5; exact h5
        have HF : Hid (FldsAt R ga G) := hf
        have HF' : Hid (FldsAt R fa fs) := hf'
        have HCE : Hid (R.cell? ⟨b', of2 + k * 2, none⟩ = some (.int .i64 kd') ∧ R.cell? ⟨b', of2 + k * 2 + 1, none⟩ = some (.slice fa fs.length fc) ∧ R.cell? ⟨b, of1 + k * 2, none⟩ = some (.int .i64 kd') ∧ R.cell? ⟨b, of1 + k * 2 + 1, none⟩ = some (.slice ga G.length gc)) := ⟨e0, e1, c0, c1⟩
        clear hx hy hf hf' hmk hgx hsx hsy hpm hok71 hL71 hnum hfo hP hG e0 e1
        go_wp2_with fail
        refine HC1.out.mono ?_
        rintro e w6 ⟨rfl, b6⟩
        obtain ⟨e0, e1, c0', c1'⟩ := HCE.out
        have e0 := (b6.cell (p := ⟨b', of2 + k * 2, none⟩) hb').trans e0
        have e1 := (b6.cell (p := ⟨b', of2 + k * 2 + 1, none⟩) hb').trans e1
        have q6 := next hbr b6
        clear c0 c1 c0' c1' HC1
        go_wp2_with fail
        refine (HWC.out w6 (HF'.out.below b6)).mono ?_
        rintro e w7 ⟨a7, c7, rfl, o7, b7⟩
        have q7 := next q6 b7
        have b67 := next b6 b7
        have bx : Below w7.heap.size w7 (w7.alloc (.cells #[.int .i64 kd', .slice a7 G.length c7] 26)) := by go_grown
        obtain ⟨W, hW⟩ : ∃ W, W = w7.alloc (.cells #[.int .i64 kd', .slice a7 G.length c7] 26) := ⟨_, rfl⟩
        rw [← hW] at bx
        have bRW := next b67 bx
        have x0 : W.cell? ⟨w7.heap.size, 0, none⟩ = some (.int .i64 kd') := by rw [hW]; simp
        have x1 : W.cell? ⟨w7.heap.size, 1, none⟩ = some (.slice a7 G.length c7) := by rw [hW]; simp
        have y0 := (bRW.cell (p := ⟨b, of1 + k * 2, none⟩) hb).trans HCE.out.2.2.1
        have y1 := (bRW.cell (p := ⟨b, of1 + k * 2 + 1, none⟩) hb).trans HCE.out.2.2.2
        have HFW : Hid (FldsAt W ga G) := HF.out.below bRW
        have HFV : Hid (FldsAt W a7 G) := by
          obtain ⟨ao', cap', hv, hf7, _⟩ := flds_of_own' o7
          obtain ⟨rfl, _⟩ : a7 = ao' ∧ c7 = cap' := by simpa using hv
          exact hf7.below bx
        have qW := next q7 bx
        have hme := sameM_self kd' G
        have H1 : Hid (∀ z : Over W, Calls Tryz.prog 23 #[.string ⟨P.toArray⟩] z.x fun e w'' => e = .returned (.int .i64 ((k : Int) + 2)) ∧ ∃ y : Over W, w'' = y.x) := fun z => over_of (HNUM.out z.x)
        have H2 : Hid (∀ z : Over W, Calls Tryz.prog 14 #[.agg #[.int .i64 kd', .slice ga G.length gc], .agg #[.int .i64 kd', .slice a7 G.length c7]] z.x fun e w'' => e = .returned (.bool true) ∧ ∃ y : Over W, w'' = y.x) := fun z => over_of (by
          have h5 := sameMessage_any kd' kd' ga a7 gc c7 G G z.x (HFW.out.below z.h) (HFV.out.below z.h) (by omega) (by omega)
          rw [hme] at h5; exact h5)
        have hne := over_ne W
        have g0 := over_cell x0
        have g1 := over_cell x1
        have g2 := over_cell y0
        have g3 := over_cell y1
        have hkk : (((k : Int) + 2) != ((k : Int) + 2)) = false := by simp
        clear o7 b7 b6 b67 bx bRW e0 e1 HF HF' HFW HFV HNUM HWC HCE hme
        go_upto_region 17 with fail
        rw [← hW]
        clear hW
        refine wp_region_over (by kernel_rfl) (by kernel_rfl) ?_
        repeat (go_big_quiet_step (first | with_reducible exact H1.out _ | with_reducible exact H2.out _))
        refine wpQuiet_nil ?_
        rintro w8 ⟨⟨wz, b8⟩, hw8⟩
        subst hw8
        have q8 := next qW b8
        clear b8 x0 x1 y0 y1 g0 g1 g2 g3 hne H1 H2 qW q7 q6
        go_wp2
        go_roundw
        case rel => exact ⟨k + 1, by omega, by go_num, q8⟩
        case measure => simp [intOf]; omega
      · have hke : k = xs.length := by omega
        subst hke
        have hki : ¬ (xs.length : Int) < (xs.length : Int) := by omega
        have q6 := next q5 hbr
        have HCB : Hid (Calls Tryz.prog 18 #[.slice aG xs.length cG] R fun e w' => e = .returned (.tuple #[.string ⟨S.toArray⟩, .bool true]) ∧ Below R.heap.size R w') := by
          have h5 := iBatch_any aG cG Y R (HY5.out.below hbr) HYS.out HYG.out (by have := HYL.out; omega) (HT.out.below q6)
          rw [HYP.out, HAG.out.1, HAG.out.2, HYL.out] at h5; exact h5
        go_wp2_with fail
        refine HCB.out.mono ?_
        rintro e u7 ⟨rfl, b7⟩
        have qT := next q6 b7
        clear HCB b7 q6 hbr HY5 HX5 HYS HYG HYP HAG HALL
        go_wp2_with fail
        refine (drawRB_any _ _ _ _ _ (HTAIL.out _ qT) hn).mono ?_
        rintro e v1 ⟨u, rfl, hul, t1⟩
        have s1 := next qT t1
        have HUL : Hid (u.length ≤ 1099511627776) := by rw [Hid]; omega
        have HRN : Hid ((rdB u).2 ≠ 0 → (rdB u).1 = []) := rdB_no
        have hcu := rdB_code u
        clear t1 qT
        go_wp2_with fail
        refine (iReadBatch_any u _ HUL.out (HT.out.below s1) (HE.out.below s1)).mono ?_
        rintro e v2 ⟨t2, xL, xc, xb, xo, xy, xa, rfl, -, -, -, -, -⟩
        have s2 := next s1 t2
        clear t2 s1
        go_wp2_with fail
        refine (sReadBatch_any u _ HUL.out).mono ?_
        rintro e v3 ⟨t3, yL, yc, yx, rfl, -, -⟩
        have s3 := next s2 t3
        clear t3 s2
        obtain ⟨r, hr⟩ : ∃ r, rdB u = r := ⟨_, rfl⟩
        rw [hr] at HRN hcu ⊢
        obtain ⟨RL, rc⟩ := r
        simp only at hcu ⊢
        clear hr
        have hrr : ((rc : Int) == (rc : Int)) = true := by simp
        by_cases hz : rc = 0
        · subst hz
          go_wp2
          go_ret
          exact ⟨rfl, s3⟩
        · have hnil : RL = [] := HRN.out hz
          subst hnil
          have hz2 : ((rc : Int) == 0) = false := by simp; omega
          go_wp2
          go_ret
          exact ⟨rfl, s3⟩

set_option maxRecDepth 100000 in
theorem lifted (os : Os) (started : os.Started) (H : Type) (enc : TypeId × Value → H) (F : Stop.Interp) :
    ReturnsInHanded {} Tryz.checked os 4 .any ((OpenSpec.ofChange Rows.fnBatchSpec).preRow enc Tryz.prog Tryz.f4 Rows.fnBatchRow.domain false Rows.fnBatchRow.laid)
      (((OpenSpec.ofChange Rows.fnBatchSpec).at F).post enc Tryz.prog Tryz.f4 false true false false) := by
  refine returnsInHanded_of_row (C := Tryz.checked) (s := OpenSpec.ofChange Rows.fnBatchSpec) own started (by kernel_rfl) Tryz.func4
    (ChangeSpec.witness_shaped (enc := enc) (C := Tryz.checked) (os := os) (X := fun w _ => laidMetH Tryz.prog Rows.fnBatchRow.laid w) false (World.layVars Tryz.prog ({ World.holding Tryz.prog os ⟨#[], #[], []⟩ with heap := (World.holding Tryz.prog os ⟨#[], #[], []⟩).heap.modify 0 fun | .cells _ t frozen => .cells #[.iface 198 (.agg #[.pointer (some ⟨7, 124, none⟩)])] t frozen | o => o } : World) (Rows.fnBatchRow.laid.filter fun x => x.2.handleName?.isNone)) #[.slice none 0 0] 8 ((World.layVars_os _ _ _).trans rfl)
      (World.shaped_of_ZipB (by kernel_rfl) (by kernel_rfl)) (by kernel_rfl) (by kernel_rfl) (by kernel_rfl)
      (laidMetH_of_parts (laidMet_over _ (by kernel_rfl) (by kernel_rfl)) (by kernel_rfl))) ?_
  intro W base args ds gs before hval0 hW _ _ _ hL hsh _
  have hval : ∀ (j : Nat) t v, Tryz.f4.params[j]? = some t → args[j]? = some v → Value.okWide Tryz.prog W .any base t v := hval0
  have hW' := hW
  obtain ⟨p, q, hA0, hV, rfl, _, _⟩ := hW
  have hA : DataW.TrodAll enc Tryz.prog W 0 (fun _ => true) true Tryz.f4.params.toList args.toList ds p := hA0
  rw [Tryz.params4] at hA hval
  obtain ⟨v0, vs0, d0, ds0, p0, q0, hargs, rfl, rfl, h0, r0⟩ := trodAll_cons hA
  obtain ⟨rfl, rfl, rfl⟩ := trodAll_nil r0
  obtain rfl : args = #[v0] := by cases args; simp_all
  obtain ⟨rfl, rfl⟩ := trodVars_none hV
  obtain ⟨a0, len0, cap0, rfl⟩ := okWide_slice Tryz.underlying22 (hval 0 22 v0 rfl rfl)
  have k0 := h0
  have lt0 : ∀ x ∈ p0, x.block < W.heap.size := by obtain ⟨m, hm⟩ := k0; exact DataW.trod_lt m _ _ _ hm
  obtain ⟨z0, w0⟩ : ∃ zs, IsRow .u8 W a0 len0 cap0 zs := is_row Tryz.underlying22 Tryz.underlying5 (by kernel_rfl) h0
  clear hA0 hval0
  refine (walk a0 len0 cap0 z0 W w0 hL hsh).mono fun e W' ⟨he, bel⟩ => ?_
  subst he
  exact ⟨_, rfl, _, _, _, [], _, [], hW', trodAll_mk1 (shut_bool Tryz.underlying4 _), (trodAll_cons_mk (Below.trod laidOut (by kernel_rfl) (of_decide_eq_true (by kernel_rfl)) k0 bel lt0) trodAll_mk0), rfl, bel.frame _, fun h => by cases h⟩

theorem said : Rows.FnBatchSaid :=
  OpenClaim.holds_of_cond 4 Tryz.f4 rfl rfl rfl rfl rfl rfl rfl ⟨rfl, rfl, rfl, rfl, rfl⟩ rfl rfl rfl rfl rfl (by kernel_rfl) Tryz.func4 (by kernel_rfl)
    (of_decide_eq_true (by kernel_rfl)) (by unfold Func.isWrapper; first | (rw [if_pos (by decide +kernel)]; kernel_rfl) | (rw [if_neg (by decide +kernel)]; exact ⟨rfl, rfl⟩))
    (fun os started H enc _ F => by rw [OpenClaim.pre_eq_preRow]; exact lifted os started H enc F)

theorem proved : Rows.FnBatchCardSaid :=
  Claim7.holds_tied_plain_at .later [] _ _ _ _ said (fun _ h => by cases h) (by kernel_rfl) (fun _ h => by cases h) fnBatch_row_tie rfl ⟨rfl, rfl⟩ (by kernel_rfl) rfl
    (fun f fn hf hfn => by
      obtain rfl : f = 4 := Option.some.inj ((show Tryz.prog.funcNamed "loop.example/g00126/laws.FnBatch" = some 4 by kernel_rfl).symm.trans hf) |>.symm
      obtain rfl : fn = Tryz.f4 := (Option.some.inj (Tryz.func4.symm.trans hfn)).symm
      refine ⟨by kernel_rfl, fun j t ht => ?_⟩
      rw [Tryz.params4] at ht
      have hm : t ∈ [22] := by have := Array.mem_of_getElem? ht; simp at this ⊢; first | exact this | exact this.symm
      have hall : ([22].all fun u => !Tryz.prog.wantsStandIn u) = true := by kernel_rfl
      have h1 := List.all_eq_true.1 hall t hm
      have h2 : Tryz.prog.wantsStandIn t = false := by simpa using h1
      exact h2)
    (by kernel_rfl)
end Go.Proofs.YtbncdhfmhokgeaaGreatDoor.fnBatch
