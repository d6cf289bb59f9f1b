/- Proved: at every text (up to 1048576 bytes; a longer one passes by the law's own first test) and every place the program's GetSet answers as the specification's, every number and the place behind; its answer owns its memory, behind another call too. No other conditions. -/
import Derived.Test.YtjjmjnbnoeaifaaBase
import Derived.Test.YtjjmjnbnoeaifaaSGSet
import Derived.Test.YtjjmjnbnoeaifaaMarkI
import Derived.Test.YtjjmjnbnoeaifaaIntsEq
namespace Go.Proofs.Ytjjmjnbnoeaifaa.fnExactGetSet
open Go.ChangeShapes Go.WideShapes Go.ChangeAt Go.RowKit
open Go.ChangeMaps (open_string shut_string)

set_option maxHeartbeats 1000000 in
theorem walk (a0 : ByteArray) (a1 : Int) (w : World) (_w0 : a0.size ≤ maxLen) (_w1 : (Lit.int .i64 a1).wf = true) :
    Calls Try.prog 9 #[.string a0, .int .i64 a1] w fun e w' => e = .returned (.bool true) ∧ Below w.heap.size w w' := by
  obtain ⟨l, rfl⟩ : ∃ l : List UInt8, a0 = ⟨l.toArray⟩ := ⟨_, ba_list a0⟩
  clear _w0 _w1
  by_cases hbig : (1048576 : Int) < (l.length : Int)
  · go_enter Try.func9, Try.ntmps9
    go_wp2
    go_ret
    exact ⟨rfl, Below.refl _ _⟩
  · have hl : l.length ≤ 1048576 := by omega
    have hlen := getSL_len l a1
    go_enter Try.func9, Try.ntmps9
    go_wp2_with fail
    refine (sGetSet_any _ _ _ hl).mono ?_
    rintro e w1 ⟨ao1, c1, rfl, o1, b1⟩
    have z1 := ints_own o1
    clear o1
    go_wp2_with fail
    refine (iGetSet_any _ _ _ hl).mono ?_
    rintro e w2 ⟨ao2, c2, rfl, o2, b2⟩
    have z2 := ints_own o2
    go_wp2_with fail
    refine (eqIntS_any _ _ _ _ (getSL l a1) (getSL l a1) _ z2 (z1.below b2) (by omega) (by omega)).mono ?_
    rintro e w3 ⟨rfl, b3⟩
    have o3 := own_below o2 b3
    clear o2 z2
    have b13 := next b2 b3
    clear b2 b3
    go_wp2_with fail
    refine (markIntS_any _ _ _ _ 1 _ _ o3 (by omega) (by omega) (by omega)).mono ?_
    rintro e w4 ⟨rfl, o4, g4⟩
    have b14 : Below w1.heap.size w1 w4 := b13.grown g4 b13.size (fun k hk => (o3.lt k hk).1)
    have z4 := ints_own o4
    clear o3 o4 g4 b13
    go_wp2_with fail
    refine (heldIntS_any _ _ _ 1 _ z4 (by omega) (by omega) (by omega)).mono ?_
    rintro e w5 ⟨rfl, rfl⟩
    go_wp2_with fail
    refine (iGetSet_any _ _ _ hl).mono ?_
    rintro e w6 ⟨ao6, c6, rfl, o6, b6⟩
    have z6 := ints_own o6
    clear o6
    have b16 := next b14 b6
    go_wp2_with fail
    refine (eqIntS_any _ _ _ _ (getSL l a1) (getSL l a1) _ z6 (z1.below b16) (by omega) (by omega)).mono ?_
    rintro e w7 ⟨rfl, b7⟩
    go_wp2_with fail
    refine (heldIntS_any _ _ _ 1 _ ((z4.below b6).below b7) (by omega) (by omega) (by omega)).mono ?_
    rintro e w8 ⟨rfl, rfl⟩
    go_wp2
    go_ret
    exact ⟨rfl, next b1 (next b16 b7)⟩

set_option maxRecDepth 100000 in
theorem lifted (os : Os) (started : os.Started) (H : Type) (enc : TypeId × Value → H) :
    ReturnsInHanded {} Try.checked os 9 .any (Rows.fnExactGetSetSpec.pre6 enc Try.prog Try.f9 Rows.fnExactGetSetRow.domain false) (Rows.fnExactGetSetSpec.post enc Try.prog Try.f9 false true false false) := by
  refine returnsInHanded_of_change (C := Try.checked) own started (by kernel_rfl) Try.func9
    (ChangeSpec.witness6 (enc := enc) (C := Try.checked) false ⟨#[], #[.string ByteArray.empty, .int .i64 0], []⟩ 8 (by kernel_rfl) (by kernel_rfl) (by kernel_rfl) (by kernel_rfl)) ?_
  intro W base args ds gs before hval0 hW hcnd _
  have hval : ∀ (j : Nat) t v, Try.f9.params[j]? = some t → args[j]? = some v → Value.okWide Try.prog W .any base t v := hval0
  have hW' := hW
  obtain ⟨p, q, hA0, hV, rfl, hfz, hnd⟩ := hW
  have hA : DataW.TrodAll enc Try.prog W 0 (fun _ => true) true Try.f9.params.toList args.toList ds p := hA0
  rw [Try.params9] at hA hval
  obtain ⟨v0, vs0, d0, ds0, p0, q0, hargs, rfl, rfl, h0, r0⟩ := trodAll_cons hA
  obtain ⟨v1, vs1, d1, ds1, p1, q1, rfl, rfl, rfl, h1, r1⟩ := trodAll_cons r0
  obtain ⟨rfl, rfl, rfl⟩ := trodAll_nil r1
  obtain rfl : args = #[v0, v1] := by cases args; simp_all
  obtain ⟨rfl, rfl⟩ := trodVars_none hV
  obtain ⟨a0, rfl, rfl, rfl, w0⟩ := open_string Try.underlying9 (hval 0 9 v0 rfl rfl) h0
  obtain ⟨a1, rfl, rfl, rfl, w1⟩ := open_int Try.underlying3 (hval 1 3 v1 rfl rfl) h1
  clear hA0 hval0
  refine (walk a0 a1 W w0 w1).mono fun e W' ⟨he, bel⟩ => ?_
  subst he
  exact ⟨_, rfl, _, _, _, [], _, [], hW', trodAll_mk1 (shut_bool Try.underlying4 _), (trodAll_cons_mk (shut_string Try.underlying9 w0) (trodAll_cons_mk (shut_int Try.underlying3 w1) trodAll_mk0)), rfl, bel.frame _, fun h => by cases h⟩

theorem proved : Rows.FnExactGetSetSaid :=
  OpenClaim.holds_of_wide 9 Try.f9 rfl rfl rfl rfl rfl rfl rfl ⟨rfl, rfl, rfl, rfl, rfl⟩ rfl rfl rfl rfl rfl (by kernel_rfl) Try.func9 (by kernel_rfl)
    (of_decide_eq_true (by kernel_rfl)) (by unfold Func.isWrapper; first | (rw [if_pos (by decide +kernel)]; kernel_rfl) | (rw [if_neg (by decide +kernel)]; exact ⟨rfl, rfl⟩))
    (fun os started H enc _ => lifted os started H enc)
end Go.Proofs.Ytjjmjnbnoeaifaa.fnExactGetSet
