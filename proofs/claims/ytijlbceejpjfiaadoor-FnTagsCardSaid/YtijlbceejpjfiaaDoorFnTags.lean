/- Proved: whatever the bytes of the draw, PutTags and GetTags of the program answer as the specification's at what is drawn; a list that is put comes back from its text; a tag that is set is there, one that is cut is not, and the others stay; a list that is not set stays as it was. What it takes: the listed tables of Go's library hold what the library's text lays (the card ties that to the program). -/
import Derived.Test.YtijlbceejpjfiaaDoorMEnv
import Derived.Test.YtijlbceejpjfiaaDoorSGetT
import Derived.Test.YtijlbceejpjfiaaDoorFTagSet
import Derived.Test.YtijlbceejpjfiaaDoorTFact
import Derived.Test.YtijlbceejpjfiaaDoorSameT
import Derived.Test.YtijlbceejpjfiaaDoorDrawTs
namespace Go.Proofs.YtijlbceejpjfiaaDoor.fnTags
open Go.ChangeShapes Go.WideShapes Go.ChangeAt Go.RowKit

set_option maxRecDepth 100000 in
set_option maxHeartbeats 12800000 in
theorem walk (a : Option Addr) (len cap : Nat) (zs : List Int) (w : World) (hr : IsRow .u8 w a len cap zs) (hL : laidMet Tryd.prog Rows.fnTagsRow.laid w) (_hsh : w.ShapedOpen Tryd.prog) :
    Calls Tryd.prog 3 #[.slice a len cap] w fun e w' => e = .returned (.bool true) ∧ Below w.heap.size w w' := by
  have HT : Hid (Pow10 w) := pow10_head hL.tail.tail
  clear hL
  by_cases hbig : (1048576 : Int) < (len : Int)
  · have hdec : decide ((1048576 : Int) < (len : Int)) = true := decide_eq_true hbig
    go_enter Tryd.func3, Tryd.ntmps3
    go_wp2_with fail
    refine (big_any _ _ _ _).mono ?_
    rintro e w1 ⟨rfl, hw1⟩
    rw [hw1, hdec]
    clear hw1
    go_wp2
    go_ret
    exact ⟨rfl, Below.refl _ _⟩
  have hn : len ≤ 1048576 := by omega
  have hdec : decide ((1048576 : Int) < (len : Int)) = false := decide_eq_false hbig
  go_enter Tryd.func3, Tryd.ntmps3
  go_wp2_with fail
  refine (big_any _ _ _ _).mono ?_
  rintro e w1 ⟨rfl, hw1⟩
  rw [hw1, hdec]
  clear hw1 w1 hdec hbig
  go_wp2_with fail
  refine (drawPT_any _ _ _ _ _ hr hn).mono ?_
  rintro e u2 ⟨ao, c, fs, rfl, ⟨d1, d2, d3⟩, q2⟩
  have hdf : ∀ f ∈ fs, f.2.length ≤ 1099511627776 := fun f hf => by have := d2 f hf; omega
  have HDF : Hid _ := hdf
  clear hdf
  go_wp2_with fail
  refine (iPutTags_any _ _ _ _ d3 (by omega) HDF.out (HT.out.below q2)).mono ?_
  rintro e u3 ⟨rfl, b3⟩
  have q3 := next q2 b3
  have f3 := d3.below b3
  clear b3 q2 d3
  go_wp2_with fail
  refine (sPutTags_any _ _ _ _ f3 (by omega) HDF.out).mono ?_
  rintro e u4 ⟨rfl, b4⟩
  have q4 := next q3 b4
  have f4 := f3.below b4
  clear b4 q3 f3
  have hr4 := row_below hr q4
  go_wp2_with fail
  refine (drawGT_any _ _ _ _ _ hr4 hn).mono ?_
  rintro e u5 ⟨l, rfl, hll, b5⟩
  have q5 := next q4 b5
  have f5 := f4.below b5
  clear b5 q4 f4 hr4
  go_wp2_with fail
  refine (iGetTags_any l _ (by omega) (HT.out.below q5)).mono ?_
  rintro e u6 ⟨a6, c6, rfl, o6, b6⟩
  have q6 := next q5 b6
  have f6 := f5.below b6
  clear b6 q5 f5
  go_wp2_with fail
  refine (sGetTags_any l _ (by omega)).mono ?_
  rintro e u7 ⟨a7, c7, rfl, o7, b7⟩
  have q7 := next q6 b7
  have f7 := f6.below b7
  have g6 := (flds_any o6).below b7
  have g7 := flds_any o7
  have hgl : ((gotT l).getD []).length ≤ 60 := by
    cases h : gotT l
    · simp
    · exact (tagsOk_parts (putOk_parts (got_is h).1).1).1
  clear b7 q6 f6 o6 o7
  generalize (gotT l).getD [] = G at g6 g7 hgl
  generalize (gotT l).isSome = gk
  have hpl := putL_le fs
  have HBK : Hid (putOk fs = true → gotT (putL fs) = some fs) := fun h => by rw [putL_yes h]; exact got_put h
  obtain ⟨S, hS⟩ : ∃ S, putL fs = S := ⟨_, rfl⟩
  rw [hS] at hpl HBK ⊢
  clear hS
  cases hok : putOk fs
  · clear HBK hok
    go_wp2_with fail
    refine (sameTags_any _ _ _ _ _ _ _ g6 g7 (by omega) (by omega)).mono ?_
    rintro e u8 ⟨rfl, b8⟩
    rw [decide_eq_true (rfl : G = G)]
    have QQ := next q7 b8
    clear b8 q7 g6 g7 f7
    have hrR := row_below hr QQ
    go_wp2_with fail
    refine (drawTS_any _ _ _ _ _ hrR hn).mono ?_
    rintro e v1 ⟨la, lc, ls, n, d, rfl, ⟨dl1, dl2, dl3⟩, hdl, bv1⟩
    have Q1 := next QQ bv1
    have hdl2 : ∀ f ∈ ls, f.2.length ≤ 1099511627776 := fun f hf => by have := dl2 f hf; omega
    have HDL : Hid _ := hdl2
    clear hrR bv1 QQ
    go_wp2_with fail
    refine (iTagSet_any _ _ _ _ _ _ dl3 (by omega) HDL.out (by omega)).mono ?_
    rintro e v2 ⟨gs, cs, rfl, oS, bv2⟩
    have Q2 := next Q1 bv2
    have fl2 := dl3.below bv2
    clear bv2 Q1
    go_wp2_with fail
    refine (sTagSet_any _ _ _ _ _ _ fl2 (by omega) HDL.out (by omega)).mono ?_
    rintro e v3 ⟨gt, ct, rfl, -, bv3⟩
    have Q3 := next Q2 bv3
    have fl3 := fl2.below bv3
    have HOS : Hid (v3.ownsRow v1.heap.size 48 2 (.slice (some ⟨gs, 0, none⟩) (tsetL ls n d).length cs) (tsetL ls n d).length (fcells (tsetL ls n d))) := keepRow oS bv3
    have hTL := tsetL_len ls n d
    clear bv3 Q2 oS fl2
    cases hk : tsetOk ls n d
    · have hL : tsetL ls n d = ls := by unfold tsetL; rw [hk, if_neg (by decide)]
      rw [hL] at HOS hTL ⊢
      clear hk hL
      go_wp2_with fail
      refine (sameTags_any _ _ _ _ _ _ _ (flds_any HOS.out) fl3 (by omega) (by omega)).mono ?_
      rintro e v4 ⟨rfl, bv4⟩
      rw [decide_eq_true (rfl : ls = ls)]
      have Q4 := next Q3 bv4
      clear bv4 Q3 HOS fl3
      go_wp2
      go_ret
      exact ⟨rfl, Q4⟩
    · have hL : tsetL ls n d = tset ls n d := by unfold tsetL; rw [hk, if_pos rfl]
      have hk2 : tagsOk ls = true ∧ tagsOk (tset ls n d) = true := by simpa [tsetOk] using hk
      have F1 : Hid _ := set_there ls n d
      have F2 : Hid _ := cut_set (num := n) (d := d) hk2.1
      have F3 : Hid _ := cut_not ls n
      have hcl := cut_len (num := n) (d := d) hk2.1
      have F5 : Hid _ := hk2.2
      have hdT : ∀ f ∈ tset ls n d, f.2.length ≤ 1099511627776 := fun f hf => by
        rcases tset_mem hf with h | h
        · exact HDL.out f h
        · rw [h]; simp only; omega
      have HDT : Hid (∀ f ∈ tset ls n d, f.2.length ≤ 1099511627776) := hdT
      have hCL := List.length_filter_le (neP n) ls
      rw [hL] at HOS hTL ⊢
      obtain ⟨T, hT⟩ : ∃ T, tset ls n d = T := ⟨_, rfl⟩
      rw [hT] at HOS hTL F1 F2 hcl F5 HDT ⊢
      obtain ⟨C, hC⟩ : ∃ C, ls.filter (neP n) = C := ⟨_, rfl⟩
      have HCE : Hid _ := hC
      rw [hC] at F2 F3 hcl hCL
      clear hk hL hk2 hT hdT hC
      have fT3 := flds_any HOS.out
      go_wp2_with fail
      refine (iTagOf_any _ _ _ _ _ fT3 (by omega) HDT.out).mono ?_
      rintro e v4 ⟨rfl, bv4⟩
      rw [F1.out]
      have Q4 := next Q3 bv4
      have fT4 := fT3.below bv4
      have fl4 := fl3.below bv4
      clear bv4 Q3 fT3 fl3 HOS F1
      simp only [Option.getD_some, Option.isSome_some]
      go_wp2_with fail
      refine (iTagCut_any _ _ _ _ _ fT4 (by omega) HDT.out).mono ?_
      rintro e v5 ⟨gc, cc, rfl, oC, bv5⟩
      rw [F2.out] at oC ⊢
      have Q5 := next Q4 bv5
      have fT5 := fT4.below bv5
      have fl5 := fl4.below bv5
      have fC5 := flds_any oC
      clear bv5 Q4 fT4 fl4 oC
      have hdC : ∀ f ∈ C, f.2.length ≤ 1099511627776 := fun f hf => HDL.out f (cut_mem (p := neP n) (by rw [HCE.out]; exact hf))
      go_wp2_with fail
      refine (iTagOf_any _ _ _ _ _ fC5 (by omega) hdC).mono ?_
      rintro e v6 ⟨rfl, bv6⟩
      rw [F3.out]
      have Q6 := next Q5 bv6
      have fT6 := fT5.below bv6
      have fl6 := fl5.below bv6
      have fC6 := fC5.below bv6
      clear bv6 Q5 fT5 fl5 fC5 F3 hdC
      simp only [Option.getD_none, Option.isSome_none]
      have hdd : (d == d) = true := by simp
      go_wp2_with fail
      refine (iTagsOk_any _ _ _ _ fT6 (by omega) HDT.out).mono ?_
      rintro e v7 ⟨rfl, bv7⟩
      rw [F5.out]
      have Q7 := next Q6 bv7
      have fl7 := fl6.below bv7
      have fC7 := fC6.below bv7
      clear bv7 Q6 fT6 fl6 fC6 F5
      go_wp2_with fail
      refine (iTagCut_any _ _ _ _ _ fl7 (by omega) HDL.out).mono ?_
      rintro e v8 ⟨gd, cd, rfl, oD, bv8⟩
      rw [HCE.out] at oD ⊢
      have Q8 := next Q7 bv8
      have fC8 := fC7.below bv8
      have fD8 := flds_any oD
      clear bv8 Q7 fl7 fC7 oD
      go_wp2_with fail
      refine (sameTags_any _ _ _ _ _ _ _ fC8 fD8 (by omega) (by omega)).mono ?_
      rintro e v9 ⟨rfl, bv9⟩
      rw [decide_eq_true (rfl : C = C)]
      have Q9 := next Q8 bv9
      clear bv9 Q8 fC8 fD8
      have hTl : T.length = C.length + 1 := by omega
      rw [hTl]
      have hcm : C.length ≤ 1000 := by omega
      clear hTl hcl hTL hCL
      go_wp2
      go_ret
      exact ⟨one_bool (by first | rfl | simp | (simp; omega)), Q9⟩
  · have hbk := HBK.out hok
    have HBK2 : Hid _ := hbk
    clear HBK hok hbk
    go_wp2_with fail
    refine (sameTags_any _ _ _ _ _ _ _ g6 g7 (by omega) (by omega)).mono ?_
    rintro e u8 ⟨rfl, b8⟩
    rw [decide_eq_true (rfl : G = G)]
    have q8 := next q7 b8
    have f8 := f7.below b8
    clear b8 q7 g6 g7 f7
    go_wp2_with fail
    refine (iGetTags_any S _ (by omega) (HT.out.below q8)).mono ?_
    rintro e u9 ⟨a9, c9, rfl, o9, b9⟩
    rw [HBK2.out] at o9 ⊢
    simp only [Option.getD_some, Option.isSome_some] at o9 ⊢
    have q9 := next q8 b9
    have f9 := f8.below b9
    have g9 := flds_any o9
    clear b9 q8 f8 o9 HBK2
    go_wp2_with fail
    refine (sameTags_any _ _ _ _ _ _ _ g9 f9 (by omega) (by omega)).mono ?_
    rintro e u10 ⟨rfl, b10⟩
    rw [decide_eq_true (rfl : fs = fs)]
    have QQ := next q9 b10
    clear b10 q9 g9 f9
    have hrR := row_below hr QQ
    go_wp2_with fail
    refine (drawTS_any _ _ _ _ _ hrR hn).mono ?_
    rintro e v1 ⟨la, lc, ls, n, d, rfl, ⟨dl1, dl2, dl3⟩, hdl, bv1⟩
    have Q1 := next QQ bv1
    have hdl2 : ∀ f ∈ ls, f.2.length ≤ 1099511627776 := fun f hf => by have := dl2 f hf; omega
    have HDL : Hid _ := hdl2
    clear hrR bv1 QQ
    go_wp2_with fail
    refine (iTagSet_any _ _ _ _ _ _ dl3 (by omega) HDL.out (by omega)).mono ?_
    rintro e v2 ⟨gs, cs, rfl, oS, bv2⟩
    have Q2 := next Q1 bv2
    have fl2 := dl3.below bv2
    clear bv2 Q1
    go_wp2_with fail
    refine (sTagSet_any _ _ _ _ _ _ fl2 (by omega) HDL.out (by omega)).mono ?_
    rintro e v3 ⟨gt, ct, rfl, -, bv3⟩
    have Q3 := next Q2 bv3
    have fl3 := fl2.below bv3
    have HOS : Hid (v3.ownsRow v1.heap.size 48 2 (.slice (some ⟨gs, 0, none⟩) (tsetL ls n d).length cs) (tsetL ls n d).length (fcells (tsetL ls n d))) := keepRow oS bv3
    have hTL := tsetL_len ls n d
    clear bv3 Q2 oS fl2
    cases hk : tsetOk ls n d
    · have hL : tsetL ls n d = ls := by unfold tsetL; rw [hk, if_neg (by decide)]
      rw [hL] at HOS hTL ⊢
      clear hk hL
      go_wp2_with fail
      refine (sameTags_any _ _ _ _ _ _ _ (flds_any HOS.out) fl3 (by omega) (by omega)).mono ?_
      rintro e v4 ⟨rfl, bv4⟩
      rw [decide_eq_true (rfl : ls = ls)]
      have Q4 := next Q3 bv4
      clear bv4 Q3 HOS fl3
      go_wp2
      go_ret
      exact ⟨rfl, Q4⟩
    · have hL : tsetL ls n d = tset ls n d := by unfold tsetL; rw [hk, if_pos rfl]
      have hk2 : tagsOk ls = true ∧ tagsOk (tset ls n d) = true := by simpa [tsetOk] using hk
      have F1 : Hid _ := set_there ls n d
      have F2 : Hid _ := cut_set (num := n) (d := d) hk2.1
      have F3 : Hid _ := cut_not ls n
      have hcl := cut_len (num := n) (d := d) hk2.1
      have F5 : Hid _ := hk2.2
      have hdT : ∀ f ∈ tset ls n d, f.2.length ≤ 1099511627776 := fun f hf => by
        rcases tset_mem hf with h | h
        · exact HDL.out f h
        · rw [h]; simp only; omega
      have HDT : Hid (∀ f ∈ tset ls n d, f.2.length ≤ 1099511627776) := hdT
      have hCL := List.length_filter_le (neP n) ls
      rw [hL] at HOS hTL ⊢
      obtain ⟨T, hT⟩ : ∃ T, tset ls n d = T := ⟨_, rfl⟩
      rw [hT] at HOS hTL F1 F2 hcl F5 HDT ⊢
      obtain ⟨C, hC⟩ : ∃ C, ls.filter (neP n) = C := ⟨_, rfl⟩
      have HCE : Hid _ := hC
      rw [hC] at F2 F3 hcl hCL
      clear hk hL hk2 hT hdT hC
      have fT3 := flds_any HOS.out
      go_wp2_with fail
      refine (iTagOf_any _ _ _ _ _ fT3 (by omega) HDT.out).mono ?_
      rintro e v4 ⟨rfl, bv4⟩
      rw [F1.out]
      have Q4 := next Q3 bv4
      have fT4 := fT3.below bv4
      have fl4 := fl3.below bv4
      clear bv4 Q3 fT3 fl3 HOS F1
      simp only [Option.getD_some, Option.isSome_some]
      go_wp2_with fail
      refine (iTagCut_any _ _ _ _ _ fT4 (by omega) HDT.out).mono ?_
      rintro e v5 ⟨gc, cc, rfl, oC, bv5⟩
      rw [F2.out] at oC ⊢
      have Q5 := next Q4 bv5
      have fT5 := fT4.below bv5
      have fl5 := fl4.below bv5
      have fC5 := flds_any oC
      clear bv5 Q4 fT4 fl4 oC
      have hdC : ∀ f ∈ C, f.2.length ≤ 1099511627776 := fun f hf => HDL.out f (cut_mem (p := neP n) (by rw [HCE.out]; exact hf))
      go_wp2_with fail
      refine (iTagOf_any _ _ _ _ _ fC5 (by omega) hdC).mono ?_
      rintro e v6 ⟨rfl, bv6⟩
      rw [F3.out]
      have Q6 := next Q5 bv6
      have fT6 := fT5.below bv6
      have fl6 := fl5.below bv6
      have fC6 := fC5.below bv6
      clear bv6 Q5 fT5 fl5 fC5 F3 hdC
      simp only [Option.getD_none, Option.isSome_none]
      have hdd : (d == d) = true := by simp
      go_wp2_with fail
      refine (iTagsOk_any _ _ _ _ fT6 (by omega) HDT.out).mono ?_
      rintro e v7 ⟨rfl, bv7⟩
      rw [F5.out]
      have Q7 := next Q6 bv7
      have fl7 := fl6.below bv7
      have fC7 := fC6.below bv7
      clear bv7 Q6 fT6 fl6 fC6 F5
      go_wp2_with fail
      refine (iTagCut_any _ _ _ _ _ fl7 (by omega) HDL.out).mono ?_
      rintro e v8 ⟨gd, cd, rfl, oD, bv8⟩
      rw [HCE.out] at oD ⊢
      have Q8 := next Q7 bv8
      have fC8 := fC7.below bv8
      have fD8 := flds_any oD
      clear bv8 Q7 fl7 fC7 oD
      go_wp2_with fail
      refine (sameTags_any _ _ _ _ _ _ _ fC8 fD8 (by omega) (by omega)).mono ?_
      rintro e v9 ⟨rfl, bv9⟩
      rw [decide_eq_true (rfl : C = C)]
      have Q9 := next Q8 bv9
      clear bv9 Q8 fC8 fD8
      have hTl : T.length = C.length + 1 := by omega
      rw [hTl]
      have hcm : C.length ≤ 1000 := by omega
      clear hTl hcl hTL hCL
      go_wp2
      go_ret
      exact ⟨one_bool (by first | rfl | simp | (simp; omega)), Q9⟩

set_option maxRecDepth 100000 in
theorem lifted (os : Os) (started : os.Started) (H : Type) (enc : TypeId × Value → H) (F : Stop.Interp) :
    ReturnsInHanded {} Tryd.checked os 3 .any ((OpenSpec.ofChange Rows.fnTagsSpec).preRow enc Tryd.prog Tryd.f3 Rows.fnTagsRow.domain false Rows.fnTagsRow.laid)
      (((OpenSpec.ofChange Rows.fnTagsSpec).at F).post enc Tryd.prog Tryd.f3 false true false false) := by
  refine returnsInHanded_of_row (C := Tryd.checked) (s := OpenSpec.ofChange Rows.fnTagsSpec) own started (by kernel_rfl) Tryd.func3
    (ChangeSpec.witness_shaped (enc := enc) (C := Tryd.checked) (os := os) (X := fun w _ => laidMetH Tryd.prog Rows.fnTagsRow.laid w) false (World.laidAll Tryd.prog os Rows.fnTagsRow.laid) #[.slice none 0 0] 8 (World.laidAll_os _ _ _)
      (World.shaped_of_ZipB (by kernel_rfl) (by kernel_rfl)) (by kernel_rfl) (by kernel_rfl) (by kernel_rfl)
      (by rw [MakeChecks.laidMetH_plain _ _ _ (by kernel_rfl)]; exact laidMet_laidAll _ (by kernel_rfl) (by kernel_rfl))) ?_
  intro W base args ds gs before hval0 hW _ _ _ hL hsh _
  have hval : ∀ (j : Nat) t v, Tryd.f3.params[j]? = some t → args[j]? = some v → Value.okWide Tryd.prog W .any base t v := hval0
  have hW' := hW
  obtain ⟨p, q, hA0, hV, rfl, _, _⟩ := hW
  have hA : DataW.TrodAll enc Tryd.prog W 0 (fun _ => true) true Tryd.f3.params.toList args.toList ds p := hA0
  rw [Tryd.params3] at hA hval
  obtain ⟨v0, vs0, d0, ds0, p0, q0, hargs, rfl, rfl, h0, r0⟩ := trodAll_cons hA
  obtain ⟨rfl, rfl, rfl⟩ := trodAll_nil r0
  obtain rfl : args = #[v0] := by cases args; simp_all
  obtain ⟨rfl, rfl⟩ := trodVars_none hV
  obtain ⟨a0, len0, cap0, rfl⟩ := okWide_slice Tryd.underlying22 (hval 0 22 v0 rfl rfl)
  have k0 := h0
  have lt0 : ∀ x ∈ p0, x.block < W.heap.size := by obtain ⟨m, hm⟩ := k0; exact DataW.trod_lt m _ _ _ hm
  obtain ⟨z0, w0⟩ : ∃ zs, IsRow .u8 W a0 len0 cap0 zs := is_row Tryd.underlying22 Tryd.underlying5 (by kernel_rfl) h0
  clear hA0 hval0
  rw [MakeChecks.laidMetH_plain _ _ _ (by kernel_rfl)] at hL
  refine (walk a0 len0 cap0 z0 W w0 hL hsh).mono fun e W' ⟨he, bel⟩ => ?_
  subst he
  exact ⟨_, rfl, _, _, _, [], _, [], hW', trodAll_mk1 (shut_bool Tryd.underlying4 _), (trodAll_cons_mk (Below.trod laidOut (by kernel_rfl) (of_decide_eq_true (by kernel_rfl)) k0 bel lt0) trodAll_mk0), rfl, bel.frame _, fun h => by cases h⟩

theorem said : Rows.FnTagsSaid :=
  OpenClaim.holds_of_cond 3 Tryd.f3 rfl rfl rfl rfl rfl rfl rfl ⟨rfl, rfl, rfl, rfl, rfl⟩ rfl rfl rfl rfl rfl (by kernel_rfl) Tryd.func3 (by kernel_rfl)
    (of_decide_eq_true (by kernel_rfl)) (by unfold Func.isWrapper; first | (rw [if_pos (by decide +kernel)]; kernel_rfl) | (rw [if_neg (by decide +kernel)]; exact ⟨rfl, rfl⟩))
    (fun os started H enc _ F => by rw [OpenClaim.pre_eq_preRow]; exact lifted os started H enc F)

theorem proved : Rows.FnTagsCardSaid :=
  Claim7.holds_tied_plain_at .later [] _ _ _ _ said (fun _ h => by cases h) (by kernel_rfl) (fun _ h => by cases h) fnTags_row_tie rfl ⟨rfl, rfl⟩ (by kernel_rfl) rfl
    (fun f fn hf hfn => by
      obtain rfl : f = 3 := Option.some.inj ((show Tryd.prog.funcNamed "loop.example/g00126/laws.FnTags" = some 3 by kernel_rfl).symm.trans hf) |>.symm
      obtain rfl : fn = Tryd.f3 := (Option.some.inj (Tryd.func3.symm.trans hfn)).symm
      refine ⟨by kernel_rfl, fun j t ht => ?_⟩
      rw [Tryd.params3] at ht
      have hm : t ∈ [22] := by have := Array.mem_of_getElem? ht; simp at this ⊢; first | exact this | exact this.symm
      have hall : ([22].all fun u => !Tryd.prog.wantsStandIn u) = true := by kernel_rfl
      have h1 := List.all_eq_true.1 hall t hm
      have h2 : Tryd.prog.wantsStandIn t = false := by simpa using h1
      exact h2)
    (by kernel_rfl)
end Go.Proofs.YtijlbceejpjfiaaDoor.fnTags
