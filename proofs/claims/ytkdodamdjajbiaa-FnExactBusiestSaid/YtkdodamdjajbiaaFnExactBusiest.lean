/- Proved: at every book (within the laws' own measure of 1048576; a greater one passes by the law's own first test) the program's Busiest answers as the specification's: the account that is a side of the most cases, of several the least, and 0 where there is none; it leaves its argument as it was. Conditions: none. -/
import Derived.Test.YtkdodamdjajbiaaBase
import Derived.Test.YtkdodamdjajbiaaBkSz
import Derived.Test.YtkdodamdjajbiaaBkTo
import Derived.Test.YtkdodamdjajbiaaBsB
namespace Go.Proofs.Ytkdodamdjajbiaa.fnExactBusiest
open Go.ChangeShapes Go.WideShapes Go.ChangeAt Go.RowKit
set_option maxRecDepth 100000

set_option maxHeartbeats 12800000 in
theorem walk (b : Bk) (p : Bp) (w : World) (w0 : BookAt w b p ∧ BkBd b) :
    Calls Try.prog 7 #[bkv b p] w fun e w' => e = .returned (.bool true) ∧ Below w.heap.size w w' := by
  obtain ⟨hx, hd⟩ := w0
  obtain ⟨W, hW⟩ : ∃ W, W = w.alloc (.cells #[.int .i64 b.today, .slice p.o b.off.length p.oc, .slice p.a b.az.length p.ac, .slice p.c b.cs.length p.cc, .slice p.l b.ls.length p.lc, .slice p.g b.log.length p.gc] 30) := ⟨_, rfl⟩
  have bW : Below w.heap.size w W := by rw [hW]; exact (Below.refl _ _).alloc (Nat.le_refl _) _
  have s1 : S6 w.heap.size b p W := by rw [hW]; exact S6.new w b p _
  have HX : Hid (∀ u, Below w.heap.size w u → BookAt u b p) := fun u h => hx.below h
  have HW : Hid _ := hW
  have HSZ : Hid (Calls Try.prog 9 #[bkv b p, .int .i64 1048576] W fun e w' => ∃ n : Int, e = .returned (.int .i64 n) ∧ (0 ≤ n → bkLg b) ∧ Below W.heap.size W w') := szBook_any b p W (hx.below bW) hd
  have HTO : Hid (∀ u, Below w.heap.size w u → bkSm b → Calls Try.prog 11 #[bkv b p] u fun e w' => ∃ q, e = .returned (bkv b q) ∧ OwnBk u.heap.size b q w' ∧ Below u.heap.size u w') := fun u h hn => toBook_any b p u (hx.below h) hn
  obtain ⟨A, hA⟩ : ∃ A, bestV b.cs = A := ⟨_, rfl⟩
  have HSA : Hid (∀ (u : World) (q : Bp), BookAt u b q → bkSm b → Calls Try.prog 21 #[bkv b q] u fun e w' => e = .returned (.int .i64 A) ∧ Below u.heap.size u w') := fun u q h hn => by
    have := (sBusiest_any b q u h hn).mono (R' := fun e w' => e = .returned (.int .i64 (bestV b.cs)) ∧ Below u.heap.size u w') (by rintro e w' ⟨bv, rv, rfl, hb, bel⟩; exact ⟨by rw [bestV_is hb], bel⟩)
    rwa [hA] at this
  have HIA : Hid (∀ (u : World) (q : Bp), BookAt u b q → bkSm b → Calls Try.prog 22 #[bkv b q] u fun e w' => e = .returned (.int .i64 A) ∧ Below u.heap.size u w') := fun u q h hn => by
    have := iBusiest_any b q u h hn
    rwa [hA] at this
  have HBW : Hid (Below w.heap.size w W) := bW
  have HS : Hid (S6 w.heap.size b p W) := s1
  clear hW hx hd bW hA
  obtain ⟨c0, c1, c2, c3, c4, c5⟩ := s1
  have HV : ∀ q : Bp, Hid (bkv b q = .agg #[.int .i64 b.today, .slice q.o b.off.length q.oc, .slice q.a b.az.length q.ac, .slice q.c b.cs.length q.cc, .slice q.l b.ls.length q.lc, .slice q.g b.log.length q.gc]) := fun q => rfl
  rw [(HV p).out]
  go_enter Try.func7, Try.ntmps7
  go_upto_region 2 with fail
  rw [← HW.out]
  clear HW
  go_wp2_with fail
  refine Calls.mono HSZ.out ?_
  rintro e u1 ⟨n, rfl, hg, b1⟩
  have HB1 : Hid (Below w.heap.size w u1) := next HBW.out b1
  have HS1 : Hid (S6 w.heap.size b p u1) := HS.out.below b1
  clear c0 c1 c2 c3 c4 c5 b1 HBW HS HSZ
  by_cases hneg : n < 0
  · go_wp2
    go_ret
    exact ⟨rfl, HB1.out⟩
  have HN : Hid (bkSm b) := (hg (by omega)).1
  clear hg
  obtain ⟨c0, c1, c2, c3, c4, c5⟩ := HS1.out
  go_wp2_with fail
  refine Calls.mono (HTO.out _ HB1.out HN.out) ?_
  rintro e u2 ⟨q2, rfl, o2, b2⟩
  have HB2 : Hid (Below w.heap.size w u2) := next HB1.out b2
  have HS2 : Hid (S6 w.heap.size b p u2) := HS1.out.below b2
  have HF2 : Hid (BookAt u2 b q2) := o2.at
  clear c0 c1 c2 c3 c4 c5 b2 o2 HB1 HS1
  go_wp2_with fail
  refine Calls.mono (HSA.out _ _ HF2.out HN.out) ?_
  rintro e u3 ⟨rfl, b3⟩
  have HB3 : Hid (Below w.heap.size w u3) := next HB2.out b3
  have HS3 : Hid (S6 w.heap.size b p u3) := HS2.out.below b3
  clear b3 HB2 HS2 HF2
  obtain ⟨c0, c1, c2, c3, c4, c5⟩ := HS3.out
  go_wp2_with fail
  refine Calls.mono (HTO.out _ HB3.out HN.out) ?_
  rintro e u4 ⟨q4, rfl, o4, b4⟩
  rw [(HV q4).out]
  obtain ⟨V, hV⟩ : ∃ V, V = u4.alloc (.cells #[.int .i64 b.today, .slice q4.o b.off.length q4.oc, .slice q4.a b.az.length q4.ac, .slice q4.c b.cs.length q4.cc, .slice q4.l b.ls.length q4.lc, .slice q4.g b.log.length q4.gc] 39) := ⟨_, rfl⟩
  have bV : Below u4.heap.size u4 V := by rw [hV]; exact (Below.refl _ _).alloc (Nat.le_refl _) _
  have HY : Hid (S6 u4.heap.size b q4 V) := by rw [Hid, hV]; exact S6.new u4 b q4 _
  have b34 := next b4 bV
  obtain ⟨base4, hb4⟩ : ∃ x, u3.heap.size = x := ⟨_, rfl⟩
  obtain ⟨X, hX⟩ : ∃ x, u4.heap.size = x := ⟨_, rfl⟩
  have HOB : Hid (OwnBk base4 b q4 V) := by rw [Hid, ← hb4]; exact o4.below bV
  have HB4 : Hid (Below w.heap.size w V) := next HB3.out b34
  have HS4 : Hid (S6 w.heap.size b p V) := HS3.out.below b34
  have HV0 : Hid _ := hV
  have HXE : Hid _ := hX
  rw [hX] at HY
  clear b4 bV b34 o4 hV hb4 HB3 HS3 c0 c1 c2 c3 c4 c5 hX
  go_upto_region 7 with fail
  rw [← HV0.out, HXE.out]
  clear HV0 HXE
  obtain ⟨d0, d1, d2, d3, d4, d5⟩ := HY.out
  go_wp2_with fail
  refine Calls.mono (HIA.out _ q4 HOB.out.at HN.out) ?_
  rintro e u6 ⟨rfl, b6⟩
  have HB6 : Hid (Below w.heap.size w u6) := next HB4.out b6
  have HS6 : Hid (S6 w.heap.size b p u6) := HS4.out.below b6
  have HY6 : Hid (S6 X b q4 u6) := HY.out.below b6
  replace HOB : Hid (OwnBk base4 b q4 u6) := HOB.out.below b6
  clear b6 HB4 HS4 HY d0 d1 d2 d3 d4 d5
  go_upto_region 10 with fail
  go_cut [26] (fun v wc => v = .bool false ∧ Below u6.heap.size u6 wc)
  case first =>
    obtain ⟨c0, c1, c2, c3, c4, c5⟩ := HS6.out
    obtain ⟨d0, d1, d2, d3, d4, d5⟩ := HY6.out
    go_region_with (first
      | (go_at_call 11; refine Calls.mono (HTO.out _ (HB6.out.trans (((Below.refl _ _).drew).mono (HB6.out.size))) HN.out) ?_; rintro e u7 ⟨q7, rfl, o7, b7'⟩; have b7 : Below u6.heap.size u6 u7 := ((Below.refl _ _).drew).trans b7'; obtain ⟨f0, f1, f2, f3, f4, f5⟩ := HY6.out.below b7)
      | (go_at_call 13; refine Calls.mono (eqBook_same b q4 q7 _ (HOB.out.at.below b7) o7.at HN.out) ?_; rintro e u8 ⟨rfl, b8⟩))
    all_goals
      go_wp2_with fail
      go_meet
      exact ⟨rfl, next b7 b8⟩
  case rest =>
    obtain ⟨rfl, b8⟩ := hcut
    have HB8 : Hid (Below w.heap.size w wc) := next HB6.out b8
    clear b8 HB6 HS6 HY6
    go_wp2
    go_ret
    exact ⟨rfl, HB8.out⟩

set_option maxRecDepth 100000 in
theorem lifted (os : Os) (started : os.Started) (H : Type) (enc : TypeId × Value → H) :
    ReturnsInHanded {} Try.checked os 7 .any (Rows.fnExactBusiestSpec.pre6 enc Try.prog Try.f7 Rows.fnExactBusiestRow.domain false) (Rows.fnExactBusiestSpec.post enc Try.prog Try.f7 false true false false) := by
  refine returnsInHanded_of_change (C := Try.checked) own started (by kernel_rfl) Try.func7
    (ChangeSpec.witness6 (enc := enc) (C := Try.checked) false ⟨#[], #[.agg #[.int .i64 0, .slice none 0 0, .slice none 0 0, .slice none 0 0, .slice none 0 0, .slice none 0 0]], []⟩ 8 (by kernel_rfl) (by kernel_rfl) (by kernel_rfl) (by kernel_rfl)) ?_
  intro W base args ds gs before hval0 hW hcnd _
  have hval : ∀ (j : Nat) t v, Try.f7.params[j]? = some t → args[j]? = some v → Value.okWide Try.prog W .any base t v := hval0
  have hW' := hW
  obtain ⟨p, q, hA0, hV, rfl, hfz, hnd⟩ := hW
  have hA : DataW.TrodAll enc Try.prog W 0 (fun _ => true) true Try.f7.params.toList args.toList ds p := hA0
  rw [Try.params7] at hA hval
  obtain ⟨v0, vs0, d0, ds0, p0, q0, hargs, rfl, rfl, h0, r0⟩ := trodAll_cons hA
  obtain ⟨rfl, rfl, rfl⟩ := trodAll_nil r0
  obtain rfl : args = #[v0] := by cases args; simp_all
  obtain ⟨rfl, rfl⟩ := trodVars_none hV
  have k0 := h0
  have lt0 : ∀ x ∈ p0, x.block < W.heap.size := by obtain ⟨m, hm⟩ := k0; exact DataW.trod_lt m _ _ _ hm
  obtain ⟨c0, bp0, rfl, w0⟩ := is_book Try.underlying30 (by kernel_rfl) rfl rfl rfl rfl rfl rfl (by kernel_rfl) (by kernel_rfl) (by kernel_rfl) (by kernel_rfl) (by kernel_rfl) (by kernel_rfl) Try.underlying3 (fun _ _ _ h => ints_open Try.underlying22 Try.underlying3 (by kernel_rfl) h) (fun _ _ _ h => auths_open Try.underlying23 Try.underlying85 (by kernel_rfl) rfl rfl rfl rfl rfl rfl (by kernel_rfl) (by kernel_rfl) (by kernel_rfl) (by kernel_rfl) (by kernel_rfl) (by kernel_rfl) Try.underlying9 Try.underlying3 Try.underlying3 Try.underlying3 Try.underlying3 Try.underlying4 h) (fun _ _ _ h => cases_open Try.underlying24 Try.underlying90 (by kernel_rfl) rfl rfl rfl rfl rfl rfl rfl rfl rfl rfl rfl rfl (by kernel_rfl) (by kernel_rfl) (by kernel_rfl) (by kernel_rfl) (by kernel_rfl) (by kernel_rfl) (by kernel_rfl) (by kernel_rfl) (by kernel_rfl) (by kernel_rfl) (by kernel_rfl) (by kernel_rfl) Try.underlying3 Try.underlying3 Try.underlying3 Try.underlying3 Try.underlying3 Try.underlying3 Try.underlying3 Try.underlying3 Try.underlying3 Try.underlying4 Try.underlying3 Try.underlying3 h) (fun _ _ _ h => ledger_open Try.underlying27 rfl (by kernel_rfl) Try.underlying25 Try.underlying102 (by kernel_rfl) rfl rfl rfl (by kernel_rfl) (by kernel_rfl) (by kernel_rfl) Try.underlying3 Try.underlying3 Try.underlying3 h) (fun _ _ _ h => txts_open Try.underlying28 Try.underlying9 (by kernel_rfl) h) (hval 0 30 v0 rfl rfl) h0
  clear hA0 hval0
  refine (walk c0 bp0 W w0).mono fun e W' ⟨he, bel⟩ => ?_
  subst he
  exact ⟨_, rfl, _, _, _, [], _, [], hW', trodAll_mk1 (shut_bool Try.underlying4 _), (trodAll_cons_mk (Below.trod laidOut (by kernel_rfl) (of_decide_eq_true (by kernel_rfl)) k0 bel lt0) trodAll_mk0), rfl, bel.frame _, fun h => by cases h⟩

theorem proved : Rows.FnExactBusiestSaid :=
  OpenClaim.holds_of_wide 7 Try.f7 rfl rfl rfl rfl rfl rfl rfl ⟨rfl, rfl, rfl, rfl, rfl⟩ rfl rfl rfl rfl rfl (by kernel_rfl) Try.func7 (by kernel_rfl)
    (of_decide_eq_true (by kernel_rfl)) (by unfold Func.isWrapper; first | (rw [if_pos (by decide +kernel)]; kernel_rfl) | (rw [if_neg (by decide +kernel)]; exact ⟨rfl, rfl⟩))
    (fun os started H enc _ => lifted os started H enc)

end Go.Proofs.Ytkdodamdjajbiaa.fnExactBusiest
