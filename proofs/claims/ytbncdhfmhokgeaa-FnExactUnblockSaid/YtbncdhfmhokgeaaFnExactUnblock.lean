/- Proved: at every text (of at most 1048576 bytes; a longer one passes by the law's own first test) the program's Unblock answers as the specification's, both results; its answer owns its memory, behind another call too. No other conditions. -/
import Derived.Test.YtbncdhfmhokgeaaBase
import Derived.Test.YtbncdhfmhokgeaaSUnb
import Derived.Test.YtbncdhfmhokgeaaStrLaw
namespace Go.Proofs.Ytbncdhfmhokgeaa.fnExactUnblock
open Go.ChangeShapes Go.WideShapes Go.ChangeAt Go.RowKit
open Go.ChangeMaps (open_string shut_string)

theorem txts_mark {w : World} {base n : Nat} {t : TypeId} {ao : Option Addr} {cap : Nat} (h : w.ownsRow base t 1 (.slice ao n cap) n (scells (mkS 1 n))) : TxtsAt w ao (mkS 1 n) := by
  obtain ⟨ao', cap', hv, hf, _⟩ := txts_of_own h
  obtain ⟨rfl, _⟩ : ao = ao' ∧ n = (mkS 1 n).length ∧ cap = cap' := by simpa using hv
  exact hf
theorem unb_len (s : List UInt8) : (unb s).1.length ≤ 200 := by
  by_cases h : (unb s).2 = 0
  · exact (blockOk_parts (unb_is h).1).1
  · rw [unb_not h]; simp

set_option maxRecDepth 100000 in
set_option maxHeartbeats 6400000 in
theorem walk (a0 : ByteArray) (w : World) (_w0 : a0.size ≤ maxLen) :
    Calls Try.prog 5 #[.string a0] w fun e w' => e = .returned (.bool true) ∧ Below w.heap.size w w' := by
  obtain ⟨l, rfl⟩ : ∃ l : List UInt8, a0 = ⟨l.toArray⟩ := ⟨_, ba_list a0⟩
  clear _w0
  by_cases hbig : (1048576 : Int) < (l.length : Int)
  · go_enter Try.func5, Try.ntmps5
    go_wp2
    go_ret
    exact ⟨rfl, Below.refl _ _⟩
  have hl : l.length ≤ 1048576 := by omega
  have hLL := unb_len l
  have hCC := unb_code l
  go_enter Try.func5, Try.ntmps5
  go_wp2_with fail
  refine (sUnblock_any l _ (by omega)).mono ?_
  rintro e u3 ⟨a3, c3, rfl, o3, b3⟩
  obtain ⟨L, hLE⟩ : ∃ L, (unb l).1 = L := ⟨_, rfl⟩
  obtain ⟨cd, hOE⟩ : ∃ cd, (unb l).2 = cd := ⟨_, rfl⟩
  rw [hLE] at o3 hLL ⊢
  rw [hOE] at hCC ⊢
  have HLE : Hid _ := hLE
  have HOE : Hid _ := hOE
  clear hLE hOE
  have HO3 : Hid (u3.ownsRow w.heap.size 9 1 (.slice a3 L.length c3) L.length (scells L)) := o3
  have H3B : Hid (∀ x, (Value.slice a3 L.length c3).ownBlock = some x → x < u3.heap.size) := fun x hx => (o3.lt x hx).2
  clear o3
  go_wp2_with fail
  refine (iUnblock_any l _ (by omega)).mono ?_
  rintro e u5 ⟨a5, c5, rfl, o5, b5⟩
  rw [HLE.out] at o5 ⊢
  rw [HOE.out]
  have q5 := next b3 b5
  replace HO3 : Hid (u5.ownsRow w.heap.size 9 1 (.slice a3 L.length c3) L.length (scells L)) := keepRowS HO3.out b5
  have HO5 : Hid (u5.ownsRow u3.heap.size 9 1 (.slice a5 L.length c5) L.length (scells L)) := o5
  have H5B : Hid (∀ x, (Value.slice a5 L.length c5).ownBlock = some x → u3.heap.size ≤ x ∧ x < u5.heap.size) := fun x hx => o5.lt x hx
  have hs3 := b3.size
  clear b5 o5 b3
  go_wp2_with fail
  refine (eqStringS_any _ _ _ _ _ _ _ (txts_any HO5.out) (txts_any HO3.out) (by omega) (by omega)).mono ?_
  rintro e u6 ⟨rfl, b6⟩
  rw [decide_eq_true (rfl : L = L)]
  have q6 := next q5 b6
  replace HO3 : Hid (u6.ownsRow w.heap.size 9 1 (.slice a3 L.length c3) L.length (scells L)) := keepRowS HO3.out b6
  replace HO5 : Hid (u6.ownsRow u3.heap.size 9 1 (.slice a5 L.length c5) L.length (scells L)) := keepRowS HO5.out b6
  clear b6 q5
  go_wp2_with fail
  refine (markStringS_any _ _ _ 1 _ _ HO5.out (by omega) (by omega) (by omega)).mono ?_
  rintro e u11 ⟨rfl, o11, gr11⟩
  obtain ⟨mm, hmm⟩ : ∃ m, 1 + L.length = m := ⟨_, rfl⟩
  rw [hmm]
  have HMM : Hid _ := hmm
  clear hmm
  have q11 : Below w.heap.size w u11 := q6.grown gr11 q6.size (fun k hk => by have := H5B.out k hk; omega)
  replace HO3 : Hid (u11.ownsRow w.heap.size 9 1 (.slice a3 L.length c3) L.length (scells L)) := by
    refine HO3.out.kept gr11 ?_
    by_cases hnn : (Value.slice a3 L.length c3).ownBlock = none
    · exact .inl hnn
    · right
      intro hh
      obtain ⟨x, hx⟩ := Option.ne_none_iff_exists'.1 hnn
      have h1 := H3B.out x hx
      have h2 := H5B.out x (hh ▸ hx)
      omega
  have F11 : Hid (TxtsAt u11 a5 (mkS 1 L.length)) := txts_mark o11
  clear gr11 o11 q6 HO5
  go_wp2_with fail
  refine (heldStringS_any _ _ _ 1 _ F11.out (by omega) (by omega) (by omega)).mono ?_
  rintro e u12 ⟨rfl, b12⟩
  have q12 := next q11 b12
  replace HO3 : Hid (u12.ownsRow w.heap.size 9 1 (.slice a3 L.length c3) L.length (scells L)) := keepRowS HO3.out b12
  replace F11 : Hid (TxtsAt u12 a5 (mkS 1 L.length)) := F11.out.below b12
  clear b12 q11
  rw [HMM.out]
  go_wp2_with fail
  refine (iUnblock_any l _ (by omega)).mono ?_
  rintro e u14 ⟨a14, c14, rfl, o14, b14⟩
  rw [HLE.out] at o14 ⊢
  rw [HOE.out]
  have q14 := next q12 b14
  replace HO3 : Hid (u14.ownsRow w.heap.size 9 1 (.slice a3 L.length c3) L.length (scells L)) := keepRowS HO3.out b14
  replace F11 : Hid (TxtsAt u14 a5 (mkS 1 L.length)) := F11.out.below b14
  have f14 := txts_any o14
  clear b14 q12 o14
  go_wp2_with fail
  refine (eqStringS_any _ _ _ _ _ _ _ f14 (txts_any HO3.out) (by omega) (by omega)).mono ?_
  rintro e u15 ⟨rfl, b15⟩
  rw [decide_eq_true (rfl : L = L)]
  have q15 := next q14 b15
  replace F11 : Hid (TxtsAt u15 a5 (mkS 1 L.length)) := F11.out.below b15
  clear b15 q14 f14 HO3
  go_wp2_with fail
  refine (heldStringS_any _ _ _ 1 _ F11.out (by omega) (by omega) (by omega)).mono ?_
  rintro e u16 ⟨rfl, b16⟩
  rw [HMM.out]
  have q16 := next q15 b16
  clear b16 q15 F11
  go_wp2
  go_ret
  exact ⟨rfl, q16⟩

set_option maxRecDepth 100000 in
theorem lifted (os : Os) (started : os.Started) (H : Type) (enc : TypeId × Value → H) :
    ReturnsInHanded {} Try.checked os 5 .any (Rows.fnExactUnblockSpec.pre6 enc Try.prog Try.f5 Rows.fnExactUnblockRow.domain false) (Rows.fnExactUnblockSpec.post enc Try.prog Try.f5 false true false false) := by
  refine returnsInHanded_of_change (C := Try.checked) own started (by kernel_rfl) Try.func5
    (ChangeSpec.witness6 (enc := enc) (C := Try.checked) false ⟨#[], #[.string ByteArray.empty], []⟩ 8 (by kernel_rfl) (by kernel_rfl) (by kernel_rfl) (by kernel_rfl)) ?_
  intro W base args ds gs before hval0 hW hcnd _
  have hval : ∀ (j : Nat) t v, Try.f5.params[j]? = some t → args[j]? = some v → Value.okWide Try.prog W .any base t v := hval0
  have hW' := hW
  obtain ⟨p, q, hA0, hV, rfl, hfz, hnd⟩ := hW
  have hA : DataW.TrodAll enc Try.prog W 0 (fun _ => true) true Try.f5.params.toList args.toList ds p := hA0
  rw [Try.params5] at hA hval
  obtain ⟨v0, vs0, d0, ds0, p0, q0, hargs, rfl, rfl, h0, r0⟩ := trodAll_cons hA
  obtain ⟨rfl, rfl, rfl⟩ := trodAll_nil r0
  obtain rfl : args = #[v0] := by cases args; simp_all
  obtain ⟨rfl, rfl⟩ := trodVars_none hV
  obtain ⟨a0, rfl, rfl, rfl, w0⟩ := open_string Try.underlying9 (hval 0 9 v0 rfl rfl) h0
  clear hA0 hval0
  refine (walk a0 W w0).mono fun e W' ⟨he, bel⟩ => ?_
  subst he
  exact ⟨_, rfl, _, _, _, [], _, [], hW', trodAll_mk1 (shut_bool Try.underlying4 _), (trodAll_cons_mk (shut_string Try.underlying9 w0) trodAll_mk0), rfl, bel.frame _, fun h => by cases h⟩

theorem proved : Rows.FnExactUnblockSaid :=
  OpenClaim.holds_of_wide 5 Try.f5 rfl rfl rfl rfl rfl rfl rfl ⟨rfl, rfl, rfl, rfl, rfl⟩ rfl rfl rfl rfl rfl (by kernel_rfl) Try.func5 (by kernel_rfl)
    (of_decide_eq_true (by kernel_rfl)) (by unfold Func.isWrapper; first | (rw [if_pos (by decide +kernel)]; kernel_rfl) | (rw [if_neg (by decide +kernel)]; exact ⟨rfl, rfl⟩))
    (fun os started H enc _ => lifted os started H enc)
end Go.Proofs.Ytbncdhfmhokgeaa.fnExactUnblock
