/- Proved: at every text (of at most 1048576 bytes; a longer one passes by the law's own first test) the program's GetTags answers as the specification's, both results; its answer owns its memory, behind another call too. What it takes: the listed tables of Go's library hold what the library's text lays (the card ties that to the program). -/
import Derived.Test.YtijlbceejpjfiaaDoorMEnv
import Derived.Test.YtijlbceejpjfiaaDoorSGetT
import Derived.Test.YtijlbceejpjfiaaDoorMarkG
namespace Go.Proofs.YtijlbceejpjfiaaDoor.fnExactGetTags
open Go.ChangeShapes Go.WideShapes Go.ChangeAt Go.RowKit
open Go.ChangeMaps (open_string shut_string)

theorem flds_mark {w : World} {base n : Nat} {t : TypeId} {ao : Option Addr} {cap : Nat} (h : w.ownsRow base t 2 (.slice ao n cap) n (fcells (mkF 1 n))) : FldsAt w ao (mkF 1 n) := by
  obtain ⟨ao', cap', hv, hf, _⟩ := flds_of_own' h
  obtain ⟨rfl, _⟩ : ao = ao' ∧ n = (mkF 1 n).length ∧ cap = cap' := by simpa using hv
  exact hf
theorem got_len (l : List UInt8) : ((gotT l).getD []).length ≤ 60 := by
  cases h : gotT l
  · simp
  · exact (tagsOk_parts (putOk_parts (got_is h).1).1).1

set_option maxRecDepth 100000 in
set_option maxHeartbeats 6400000 in
theorem walk (a0 : ByteArray) (w : World) (_w0 : a0.size ≤ maxLen) (hL : laidMet Tryd.prog Rows.fnExactGetTagsRow.laid w) (_hsh : w.ShapedOpen Tryd.prog) :
    Calls Tryd.prog 5 #[.string a0] w fun e w' => e = .returned (.bool true) ∧ Below w.heap.size w w' := by
  obtain ⟨l, rfl⟩ : ∃ l : List UInt8, a0 = ⟨l.toArray⟩ := ⟨_, ba_list a0⟩
  have HT : Hid (Pow10 w) := pow10_head hL.tail.tail
  clear hL _w0
  by_cases hbig : (1048576 : Int) < (l.length : Int)
  · go_enter Tryd.func5, Tryd.ntmps5
    go_wp2
    go_ret
    exact ⟨rfl, Below.refl _ _⟩
  have hl : l.length ≤ 1048576 := by omega
  have hLL := got_len l
  go_enter Tryd.func5, Tryd.ntmps5
  go_wp2_with fail
  refine (sGetTags_any l _ hl).mono ?_
  rintro e u3 ⟨a3, c3, rfl, o3, b3⟩
  obtain ⟨L, hLE⟩ : ∃ L, (gotT l).getD [] = L := ⟨_, rfl⟩
  obtain ⟨ok, hOE⟩ : ∃ ok, (gotT l).isSome = ok := ⟨_, rfl⟩
  rw [hLE] at o3 hLL ⊢
  rw [hOE]
  have HLE : Hid _ := hLE
  have HOE : Hid _ := hOE
  clear hLE hOE
  have HO3 : Hid (u3.ownsRow w.heap.size 48 2 (.slice a3 L.length c3) L.length (fcells L)) := o3
  have H3B : Hid (∀ x, (Value.slice a3 L.length c3).ownBlock = some x → x < u3.heap.size) := fun x hx => (o3.lt x hx).2
  clear o3
  go_wp2_with fail
  refine (iGetTags_any l _ hl (HT.out.below b3)).mono ?_
  rintro e u5 ⟨a5, c5, rfl, o5, b5⟩
  rw [HLE.out] at o5 ⊢
  rw [HOE.out]
  have q5 := next b3 b5
  replace HO3 : Hid (u5.ownsRow w.heap.size 48 2 (.slice a3 L.length c3) L.length (fcells L)) := keepRow HO3.out b5
  have HO5 : Hid (u5.ownsRow u3.heap.size 48 2 (.slice a5 L.length c5) L.length (fcells L)) := o5
  have H5B : Hid (∀ x, (Value.slice a5 L.length c5).ownBlock = some x → u3.heap.size ≤ x ∧ x < u5.heap.size) := fun x hx => o5.lt x hx
  have hs3 := b3.size
  clear b5 o5 b3
  go_wp2_with fail
  refine (eqTagS_any _ _ _ _ _ _ _ (flds_any HO5.out) (flds_any HO3.out) (by omega) (by omega)).mono ?_
  rintro e u6 ⟨rfl, b6⟩
  rw [decide_eq_true (rfl : L = L)]
  have q6 := next q5 b6
  replace HO3 : Hid (u6.ownsRow w.heap.size 48 2 (.slice a3 L.length c3) L.length (fcells L)) := keepRow HO3.out b6
  replace HO5 : Hid (u6.ownsRow u3.heap.size 48 2 (.slice a5 L.length c5) L.length (fcells L)) := keepRow HO5.out b6
  clear b6 q5
  go_wp2_with fail
  refine (markTagS_any _ _ _ 1 _ _ HO5.out (by omega) (by omega)).mono ?_
  rintro e u11 ⟨rfl, o11, gr11⟩
  obtain ⟨mm, hmm⟩ : ∃ m, 1 + 2 * L.length = m := ⟨_, rfl⟩
  rw [hmm]
  have HMM : Hid _ := hmm
  clear hmm
  have q11 : Below w.heap.size w u11 := q6.grown gr11 q6.size (fun k hk => by have := H5B.out k hk; omega)
  replace HO3 : Hid (u11.ownsRow w.heap.size 48 2 (.slice a3 L.length c3) L.length (fcells L)) := by
    refine HO3.out.kept gr11 ?_
    by_cases hnn : (Value.slice a3 L.length c3).ownBlock = none
    · exact .inl hnn
    · right
      intro hh
      obtain ⟨x, hx⟩ := Option.ne_none_iff_exists'.1 hnn
      have h1 := H3B.out x hx
      have h2 := H5B.out x (hh ▸ hx)
      omega
  have F11 : Hid (FldsAt u11 a5 (mkF 1 L.length)) := flds_mark o11
  clear gr11 o11 q6 HO5
  go_wp2_with fail
  refine (heldTagS_any _ _ _ 1 _ F11.out (by omega) (by omega) (by omega)).mono ?_
  rintro e u12 ⟨rfl, b12⟩
  have q12 := next q11 b12
  replace HO3 : Hid (u12.ownsRow w.heap.size 48 2 (.slice a3 L.length c3) L.length (fcells L)) := keepRow HO3.out b12
  replace F11 : Hid (FldsAt u12 a5 (mkF 1 L.length)) := F11.out.below b12
  clear b12 q11
  rw [HMM.out]
  go_wp2_with fail
  refine (iGetTags_any l _ hl (HT.out.below q12)).mono ?_
  rintro e u14 ⟨a14, c14, rfl, o14, b14⟩
  rw [HLE.out] at o14 ⊢
  rw [HOE.out]
  have q14 := next q12 b14
  replace HO3 : Hid (u14.ownsRow w.heap.size 48 2 (.slice a3 L.length c3) L.length (fcells L)) := keepRow HO3.out b14
  replace F11 : Hid (FldsAt u14 a5 (mkF 1 L.length)) := F11.out.below b14
  have f14 := flds_any o14
  clear b14 q12 o14
  go_wp2_with fail
  refine (eqTagS_any _ _ _ _ _ _ _ f14 (flds_any HO3.out) (by omega) (by omega)).mono ?_
  rintro e u15 ⟨rfl, b15⟩
  rw [decide_eq_true (rfl : L = L)]
  have q15 := next q14 b15
  replace F11 : Hid (FldsAt u15 a5 (mkF 1 L.length)) := F11.out.below b15
  clear b15 q14 f14 HO3
  go_wp2_with fail
  refine (heldTagS_any _ _ _ 1 _ F11.out (by omega) (by omega) (by omega)).mono ?_
  rintro e u16 ⟨rfl, b16⟩
  rw [HMM.out]
  have q16 := next q15 b16
  clear b16 q15 F11
  go_wp2
  go_ret
  exact ⟨rfl, q16⟩

set_option maxRecDepth 100000 in
theorem lifted (os : Os) (started : os.Started) (H : Type) (enc : TypeId × Value → H) (F : Stop.Interp) :
    ReturnsInHanded {} Tryd.checked os 5 .any ((OpenSpec.ofChange Rows.fnExactGetTagsSpec).preRow enc Tryd.prog Tryd.f5 Rows.fnExactGetTagsRow.domain false Rows.fnExactGetTagsRow.laid)
      (((OpenSpec.ofChange Rows.fnExactGetTagsSpec).at F).post enc Tryd.prog Tryd.f5 false true false false) := by
  refine returnsInHanded_of_row (C := Tryd.checked) (s := OpenSpec.ofChange Rows.fnExactGetTagsSpec) own started (by kernel_rfl) Tryd.func5
    (ChangeSpec.witness_shaped (enc := enc) (C := Tryd.checked) (os := os) (X := fun w _ => laidMetH Tryd.prog Rows.fnExactGetTagsRow.laid w) false (World.laidAll Tryd.prog os Rows.fnExactGetTagsRow.laid) #[.string ByteArray.empty] 8 (World.laidAll_os _ _ _)
      (World.shaped_of_ZipB (by kernel_rfl) (by kernel_rfl)) (by kernel_rfl) (by kernel_rfl) (by kernel_rfl)
      (by rw [MakeChecks.laidMetH_plain _ _ _ (by kernel_rfl)]; exact laidMet_laidAll _ (by kernel_rfl) (by kernel_rfl))) ?_
  intro W base args ds gs before hval0 hW _ _ _ hL hsh _
  have hval : ∀ (j : Nat) t v, Tryd.f5.params[j]? = some t → args[j]? = some v → Value.okWide Tryd.prog W .any base t v := hval0
  have hW' := hW
  obtain ⟨p, q, hA0, hV, rfl, _, _⟩ := hW
  have hA : DataW.TrodAll enc Tryd.prog W 0 (fun _ => true) true Tryd.f5.params.toList args.toList ds p := hA0
  rw [Tryd.params5] at hA hval
  obtain ⟨v0, vs0, d0, ds0, p0, q0, hargs, rfl, rfl, h0, r0⟩ := trodAll_cons hA
  obtain ⟨rfl, rfl, rfl⟩ := trodAll_nil r0
  obtain rfl : args = #[v0] := by cases args; simp_all
  obtain ⟨rfl, rfl⟩ := trodVars_none hV
  obtain ⟨a0, rfl, rfl, rfl, w0⟩ := open_string Tryd.underlying9 (hval 0 9 v0 rfl rfl) h0
  clear hA0 hval0
  rw [MakeChecks.laidMetH_plain _ _ _ (by kernel_rfl)] at hL
  refine (walk a0 W w0 hL hsh).mono fun e W' ⟨he, bel⟩ => ?_
  subst he
  exact ⟨_, rfl, _, _, _, [], _, [], hW', trodAll_mk1 (shut_bool Tryd.underlying4 _), (trodAll_cons_mk (shut_string Tryd.underlying9 w0) trodAll_mk0), rfl, bel.frame _, fun h => by cases h⟩

theorem said : Rows.FnExactGetTagsSaid :=
  OpenClaim.holds_of_cond 5 Tryd.f5 rfl rfl rfl rfl rfl rfl rfl ⟨rfl, rfl, rfl, rfl, rfl⟩ rfl rfl rfl rfl rfl (by kernel_rfl) Tryd.func5 (by kernel_rfl)
    (of_decide_eq_true (by kernel_rfl)) (by unfold Func.isWrapper; first | (rw [if_pos (by decide +kernel)]; kernel_rfl) | (rw [if_neg (by decide +kernel)]; exact ⟨rfl, rfl⟩))
    (fun os started H enc _ F => by rw [OpenClaim.pre_eq_preRow]; exact lifted os started H enc F)

theorem proved : Rows.FnExactGetTagsCardSaid :=
  Claim7.holds_tied_plain_at .later [] _ _ _ _ said (fun _ h => by cases h) (by kernel_rfl) (fun _ h => by cases h) fnExactGetTags_row_tie rfl ⟨rfl, rfl⟩ (by kernel_rfl) rfl
    (fun f fn hf hfn => by
      obtain rfl : f = 5 := Option.some.inj ((show Tryd.prog.funcNamed "loop.example/g00126/laws.FnExactGetTags" = some 5 by kernel_rfl).symm.trans hf) |>.symm
      obtain rfl : fn = Tryd.f5 := (Option.some.inj (Tryd.func5.symm.trans hfn)).symm
      refine ⟨by kernel_rfl, fun j t ht => ?_⟩
      rw [Tryd.params5] at ht
      have hm : t ∈ [9] := by have := Array.mem_of_getElem? ht; simp at this ⊢; first | exact this | exact this.symm
      have hall : ([9].all fun u => !Tryd.prog.wantsStandIn u) = true := by kernel_rfl
      have h1 := List.all_eq_true.1 hall t hm
      have h2 : Tryd.prog.wantsStandIn t = false := by simpa using h1
      exact h2)
    (by kernel_rfl)
end Go.Proofs.YtijlbceejpjfiaaDoor.fnExactGetTags
