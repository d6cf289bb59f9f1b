/- Proved: at every ledger (of at most 1048576 lines; a longer one passes by the law's own first test) the program's Accounts answers as the specification's, every number; it leaves its argument as it was and keeps nothing of it; its answer owns its memory, behind another call too. No other conditions. -/
import Derived.Test.YtnimlgdackgcoaaBase
import Derived.Test.YtnimlgdackgcoaaLnLaw2
import Derived.Test.YtnimlgdackgcoaaSAcc
import Derived.Test.YtnimlgdackgcoaaMarkI
import Derived.Test.YtnimlgdackgcoaaIntsEq
namespace Go.Proofs.Ytnimlgdackgcoaa.fnExactAccounts
open Go.ChangeShapes Go.WideShapes Go.ChangeAt Go.RowKit
set_option maxRecDepth 100000

theorem box1 {w u : World} {x : Value} {t : TypeId} (b : Below (w.alloc (.cells #[x] t)).heap.size (w.alloc (.cells #[x] t)) u) :
    u.cell? ⟨w.heap.size, 0, none⟩ = some x ∧ Below w.heap.size w u ∧ w.heap.size < u.heap.size :=
  ⟨(b.cell (p := ⟨w.heap.size, 0, none⟩) (by simp)).trans (by simp), ((Below.refl _ _).alloc (Nat.le_refl _) _).trans (b.mono (by simp)), by have := b.size; simp at this; omega⟩
theorem keep1 {w u : World} {b : Nat} {x : Value} (h0 : w.cell? ⟨b, 0, none⟩ = some x) (k : Below w.heap.size w u) : u.cell? ⟨b, 0, none⟩ = some x :=
  have hb : b < w.heap.size := World.block_lt_of_cell? w _ h0
  (k.cell (p := ⟨b, 0, none⟩) hb).trans h0
/-- an own row of numbers, kept beside a row whose block is another -/
theorem kept_far {w w' : World} {base g n : Nat} {v : Value} {xs : List Value} (h : w.ownsRow base 3 1 v n xs) (hg : w.grownBy w' (some g)) (hne : ∀ k, v.ownBlock = some k → k ≠ g) : w'.ownsRow base 3 1 v n xs :=
  h.kept hg (.inr fun e => hne g e rfl)

set_option maxHeartbeats 3200000 in
theorem walk (b0 : Option Addr) (cap0 : Nat) (ls : List Ln) (w : World) (w0 : LinesAt w b0 ls ∧ LinesBd ls) :
    Calls Try.prog 3 #[.agg #[.slice b0 ls.length cap0]] w fun e w' => e = .returned (.bool true) ∧ Below w.heap.size w w' := by
  obtain ⟨hz, hd⟩ := w0
  have bel1 : Below w.heap.size w (w.alloc (.cells #[.slice b0 ls.length cap0] 24)) := (Below.refl _ _).alloc (Nat.le_refl _) _
  have hm : ls.length ≤ 9223372036854775807 := by have := hd.1; unfold maxLen at this; omega
  have HZ : Hid (LinesAt w b0 ls) := hz
  clear hd hz
  by_cases hbig : (1048576 : Int) - (ls.length : Int) < 0
  · have HL : Hid (leftL ls.length 1048576 = -1) := if_pos hbig
    go_enter Try.func3, Try.ntmps3
    go_wp2_with fail
    refine (szLedger_any _ _ _ _ _ (by omega) (by omega) hm).mono ?_
    rintro e u1 ⟨rfl, b1⟩
    rw [HL.out]
    have q1 := next bel1 b1
    clear b1 bel1
    go_wp2
    go_ret
    exact ⟨rfl, q1⟩
  · have HL : Hid (leftL ls.length 1048576 = 1048576 - (ls.length : Int)) := if_neg hbig
    have hn : ls.length ≤ 1048576 := by omega
    obtain ⟨A, hAE⟩ : ∃ A, acctsL ls = A := ⟨_, rfl⟩
    have hAl : A.length ≤ 9999 := by rw [← hAE]; exact accts_len ls
    have HSA : Hid (∀ (u : World) (g : Nat), LinesAt u (some ⟨g, 0, none⟩) ls → Calls Try.prog 5 #[.agg #[.slice (some ⟨g, 0, none⟩) ls.length ls.length]] u (AcR u A)) := fun u g h => by
      have := sAccounts_own (some ⟨g, 0, none⟩) ls.length ls u h hn
      rwa [hAE] at this
    have HIA : Hid (∀ (u : World) (g : Nat), LinesAt u (some ⟨g, 0, none⟩) ls → Calls Try.prog 7 #[.agg #[.slice (some ⟨g, 0, none⟩) ls.length ls.length]] u (AcR u A)) := fun u g h => by
      have := iAccounts_own (some ⟨g, 0, none⟩) ls.length ls u h hn
      rwa [hAE] at this
    clear hAE
    go_enter Try.func3, Try.ntmps3
    go_wp2_with fail
    refine (szLedger_any _ _ _ _ _ (by omega) (by omega) hm).mono ?_
    rintro e u1 ⟨rfl, b1⟩
    rw [HL.out]
    obtain ⟨c1, q1, _⟩ := box1 b1
    have z1 := HZ.out.below q1
    clear b1 bel1
    go_wp2_with fail
    refine (toLedger_any _ _ _ _ z1 hn).mono ?_
    rintro e u2 ⟨g2, rfl, o2, b2⟩
    have c2 := keep1 c1 b2
    have q2 := next q1 b2
    have f2 := lines_any o2
    clear b2 o2 c1 z1
    go_wp2_with fail
    refine (HSA.out _ _ f2).mono ?_
    rintro e u3 ⟨a3, k3, rfl, o3, b3⟩
    have c3 := keep1 c2 b3
    have q3 := next q2 b3
    have z3 := HZ.out.below q3
    have HO3 : Hid (u3.ownsRow u2.heap.size 3 1 (.slice a3 A.length k3) A.length (A.map (Value.int .i64))) := o3
    clear b3 c2 f2 q2 q1 o3
    go_wp2_with fail
    refine (toLedger_any _ _ _ _ z3 hn).mono ?_
    rintro e u4 ⟨g4, rfl, o4, b4⟩
    have c4 := keep1 c3 b4
    have q4 := next q3 b4
    have f4 := lines_any o4
    have HG4 : Hid (u3.heap.size ≤ g4 ∧ g4 < u4.heap.size) := o4.lt g4 rfl
    have HX3 : Hid (∀ x, (Value.slice a3 A.length k3).ownBlock = some x → x < u3.heap.size) := fun x hx => (HO3.out.lt x hx).2
    have HO4 : Hid (u4.ownsRow u3.heap.size 39 3 (.slice (some ⟨g4, 0, none⟩) ls.length ls.length) ls.length (lcells ls)) := o4
    replace HO3 : Hid (u4.ownsRow u2.heap.size 3 1 (.slice a3 A.length k3) A.length (A.map (Value.int .i64))) := own_below HO3.out b4
    have HS3 : Hid (w.heap.size ≤ u3.heap.size) := q3.size
    have HC3 : Hid (w.heap.size < u3.heap.size) := World.block_lt_of_cell? u3 _ c3
    clear b4 o4 c3 z3 q3
    have bx : Below u4.heap.size u4 (u4.alloc (.cells #[.slice (some ⟨g4, 0, none⟩) ls.length ls.length] 30)) := (Below.refl _ _).alloc (Nat.le_refl _) _
    go_wp2_with fail
    refine (HIA.out _ _ (f4.below bx)).mono ?_
    rintro e u5 ⟨a5, k5, rfl, o5, b5⟩
    have HS5 : Hid (∀ x, (Value.slice a5 A.length k5).ownBlock = some x → u4.heap.size < x) := fun x hx => by
      have := (o5.lt x hx)
      have h1 : u4.heap.size + 1 ≤ x ∨ (u4.alloc (.cells #[.slice (some ⟨g4, 0, none⟩) ls.length ls.length] 30)).heap.size ≤ x := .inr this.1
      simp at h1; omega
    have HO5 : Hid (u5.ownsRow (u4.alloc (.cells #[.slice (some ⟨g4, 0, none⟩) ls.length ls.length] 30)).heap.size 3 1 (.slice a5 A.length k5) A.length (A.map (Value.int .i64))) := o5
    obtain ⟨x5, q5', _⟩ := box1 b5
    have c5 := keep1 c4 q5'
    have q5 := next q4 q5'
    replace HO3 : Hid (u5.ownsRow u2.heap.size 3 1 (.slice a3 A.length k3) A.length (A.map (Value.int .i64))) := own_below HO3.out q5'
    replace HO4 : Hid (u5.ownsRow u3.heap.size 39 3 (.slice (some ⟨g4, 0, none⟩) ls.length ls.length) ls.length (lcells ls)) := keepL HO4.out q5'
    obtain ⟨base5, hb5⟩ : ∃ b, b = (u4.alloc (.cells #[.slice (some ⟨g4, 0, none⟩) ls.length ls.length] 30)).heap.size := ⟨_, rfl⟩
    rw [← hb5] at HO5
    clear b5 q5' c4 q4 f4 bx o5 hb5
    go_wp2_with fail
    refine (eqIntS_any _ _ _ _ A A _ (ints_own HO5.out) (ints_own HO3.out) (by omega) (by omega)).mono ?_
    rintro e u6 ⟨rfl, b6⟩
    replace HO3 : Hid (u6.ownsRow u2.heap.size 3 1 (.slice a3 A.length k3) A.length (A.map (Value.int .i64))) := own_below HO3.out b6
    replace HO5 : Hid (u6.ownsRow base5 3 1 (.slice a5 A.length k5) A.length (A.map (Value.int .i64))) := own_below HO5.out b6
    replace HO4 : Hid (u6.ownsRow u3.heap.size 39 3 (.slice (some ⟨g4, 0, none⟩) ls.length ls.length) ls.length (lcells ls)) := keepL HO4.out b6
    have c6 := keep1 c5 b6
    have x6 := keep1 x5 b6
    have q6 := next q5 b6
    have z6 := HZ.out.below q6
    have HC6 : Hid (u6.cell? ⟨w.heap.size, 0, none⟩ = some (.slice b0 ls.length cap0)) := c6
    have HX6 : Hid (u6.cell? ⟨u4.heap.size, 0, none⟩ = some (.slice (some ⟨g4, 0, none⟩) ls.length ls.length)) := x6
    have HF6 : Hid (LinesAt u6 (some ⟨g4, 0, none⟩) ls) := lines_any HO4.out
    clear b6 c5 x5 q5
    have hAA : decide (A = A) = true := by simp
    rw [hAA]
    clear hAA
    go_wp2
    go_region_with (first
      | (go_at_call 6; refine (toLedger_any _ _ _ _ (z6.below ((Below.refl _ _).drew)) hn).mono ?_; rintro e u7 ⟨g7, rfl, o7, b7'⟩; have b7 : Below u6.heap.size u6 u7 := ((Below.refl _ _).drew).trans b7'; have j0 := keep1 HX6.out b7)
      | (go_at_call 9; refine (eqLedger_same _ _ _ _ _ _ (HF6.out.below b7) (lines_any o7) (by omega)).mono ?_; rintro e u8 ⟨rfl, b8⟩))
    all_goals
      have b68 := next b7 b8
      replace HO3 : Hid (u8.ownsRow u2.heap.size 3 1 (.slice a3 A.length k3) A.length (A.map (Value.int .i64))) := own_below HO3.out b68
      replace HO5 : Hid (u8.ownsRow base5 3 1 (.slice a5 A.length k5) A.length (A.map (Value.int .i64))) := own_below HO5.out b68
      replace HO4 : Hid (u8.ownsRow u3.heap.size 39 3 (.slice (some ⟨g4, 0, none⟩) ls.length ls.length) ls.length (lcells ls)) := keepL HO4.out b68
      have x8 := keep1 HX6.out b68
      have c8 := keep1 HC6.out b68
      have q8 := next q6 b68
      clear b68 b7 b7' b8 o7 j0 HF6 HX6 HC6 z6 c6 x6 q6
      go_wp2_with fail
      refine (markLedger_any _ _ _ 1 _ _ HO4.out (by omega) (by omega)).mono ?_
      rintro e u9 ⟨rfl, o9, gr9⟩
      have gr9' : u8.grownBy u9 (some g4) := gr9
      have hg4 := HG4.out
      have hs3 := HS3.out
      have hc3 := HC3.out
      replace HO3 : Hid (u9.ownsRow u2.heap.size 3 1 (.slice a3 A.length k3) A.length (A.map (Value.int .i64))) := kept_far HO3.out gr9' (fun x hx => by have := HX3.out x hx; omega)
      replace HO5 : Hid (u9.ownsRow base5 3 1 (.slice a5 A.length k5) A.length (A.map (Value.int .i64))) := kept_far HO5.out gr9' (fun x hx => by have := HS5.out x hx; omega)
      have c9 := (gr9'.cell_far ⟨w.heap.size, 0, none⟩ (World.block_lt_of_cell? u8 _ c8) (by simp; omega)).trans c8
      have q9 : Below w.heap.size w u9 := q8.grown gr9' q8.size (fun x hx => by cases hx; omega)
      have HC9 : Hid (u9.cell? ⟨w.heap.size, 0, none⟩ = some (.slice b0 ls.length cap0)) := c9
      obtain ⟨mm, hmm⟩ : ∃ m, 1 + 3 * ls.length = m := ⟨_, rfl⟩
      rw [hmm]
      have hml : mm ≤ 5000000 := by omega
      clear gr9 gr9' o9 HO4 x8 c8 q8 hmm hg4 hs3 hc3 c9
      go_wp2_with fail
      refine (eqIntS_any _ _ _ _ A A _ (ints_own HO5.out) (ints_own HO3.out) (by omega) (by omega)).mono ?_
      rintro e u10 ⟨rfl, b10⟩
      replace HO3 : Hid (u10.ownsRow u2.heap.size 3 1 (.slice a3 A.length k3) A.length (A.map (Value.int .i64))) := own_below HO3.out b10
      replace HO5 : Hid (u10.ownsRow base5 3 1 (.slice a5 A.length k5) A.length (A.map (Value.int .i64))) := own_below HO5.out b10
      replace HC9 : Hid (u10.cell? ⟨w.heap.size, 0, none⟩ = some (.slice b0 ls.length cap0)) := keep1 HC9.out b10
      have q10 := next q9 b10
      have hAA : decide (A = A) = true := by simp
      rw [hAA]
      clear b10 q9 hAA
      go_wp2_with fail
      refine (markIntS_any _ _ _ _ 1 _ _ HO5.out (by omega) (by omega) (by omega)).mono ?_
      rintro e u11 ⟨rfl, o11, gr11⟩
      have hg4 := HG4.out
      have hs3 := HS3.out
      have hc3 := HC3.out
      replace HO3 : Hid (u11.ownsRow u2.heap.size 3 1 (.slice a3 A.length k3) A.length (A.map (Value.int .i64))) := HO3.out.kept gr11 (by
        by_cases e : (Value.slice a3 A.length k3).ownBlock = none
        · exact .inl e
        · right
          intro e2
          obtain ⟨y, hy⟩ := Option.ne_none_iff_exists'.1 e
          have h1 := HX3.out y hy
          have h2 := HS5.out y (by rw [← e2]; exact hy)
          omega)
      have q11 : Below w.heap.size w u11 := q10.grown gr11 q10.size (fun x hx => by have := HS5.out x hx; omega)
      have c11 := (gr11.cell_far ⟨w.heap.size, 0, none⟩ (World.block_lt_of_cell? u10 _ HC9.out) (fun e => by have := HS5.out _ e.symm; simp at this; omega)).trans HC9.out
      have HM11 : Hid (IntsAt u11 a5 (cnt 1 A.length)) := ints_own o11
      have HC11 : Hid (u11.cell? ⟨w.heap.size, 0, none⟩ = some (.slice b0 ls.length cap0)) := c11
      clear gr11 o11 HO5 HC9 q10 hg4 hs3 hc3 c11
      go_wp2_with fail
      refine (heldIntS_any _ _ _ 1 _ HM11.out (by omega) (by omega) (by omega)).mono ?_
      rintro e u12 ⟨rfl, rfl⟩
      have c12 := HC11.out
      have z12 := HZ.out.below q11
      go_wp2_with fail
      refine (toLedger_any _ _ _ _ z12 hn).mono ?_
      rintro e u13 ⟨g13, rfl, o13, b13⟩
      have q13 := next q11 b13
      have f13 := lines_any o13
      replace HO3 : Hid (u13.ownsRow u2.heap.size 3 1 (.slice a3 A.length k3) A.length (A.map (Value.int .i64))) := own_below HO3.out b13
      replace HM11 : Hid (IntsAt u13 a5 (cnt 1 A.length)) := HM11.out.below b13
      clear b13 o13 c12 z12 q11
      go_wp2_with fail
      refine (HIA.out _ _ f13).mono ?_
      rintro e u14 ⟨a14, k14, rfl, o14, b14⟩
      have q14 := next q13 b14
      have HO14 : Hid (u14.ownsRow u13.heap.size 3 1 (.slice a14 A.length k14) A.length (A.map (Value.int .i64))) := o14
      replace HO3 : Hid (u14.ownsRow u2.heap.size 3 1 (.slice a3 A.length k3) A.length (A.map (Value.int .i64))) := own_below HO3.out b14
      replace HM11 : Hid (IntsAt u14 a5 (cnt 1 A.length)) := HM11.out.below b14
      clear b14 o14 q13 f13
      go_wp2_with fail
      refine (eqIntS_any _ _ _ _ A A _ (ints_own HO14.out) (ints_own HO3.out) (by omega) (by omega)).mono ?_
      rintro e u15 ⟨rfl, b15⟩
      have q15 := next q14 b15
      replace HM11 : Hid (IntsAt u15 a5 (cnt 1 A.length)) := HM11.out.below b15
      have hAA : decide (A = A) = true := by simp
      rw [hAA]
      clear b15 q14 hAA
      go_wp2_with fail
      refine (heldIntS_any _ _ _ 1 _ HM11.out (by omega) (by omega) (by omega)).mono ?_
      rintro e u16 ⟨rfl, rfl⟩
      go_wp2
      go_ret
      exact ⟨rfl, q15⟩

set_option maxRecDepth 100000 in
theorem lifted (os : Os) (started : os.Started) (H : Type) (enc : TypeId × Value → H) :
    ReturnsInHanded {} Try.checked os 3 .any (Rows.fnExactAccountsSpec.pre6 enc Try.prog Try.f3 Rows.fnExactAccountsRow.domain false) (Rows.fnExactAccountsSpec.post enc Try.prog Try.f3 false true false false) := by
  refine returnsInHanded_of_change (C := Try.checked) own started (by kernel_rfl) Try.func3
    (ChangeSpec.witness6 (enc := enc) (C := Try.checked) false ⟨#[], #[.agg #[.slice none 0 0]], []⟩ 8 (by kernel_rfl) (by kernel_rfl) (by kernel_rfl) (by kernel_rfl)) ?_
  intro W base args ds gs before hval0 hW hcnd _
  have hval : ∀ (j : Nat) t v, Try.f3.params[j]? = some t → args[j]? = some v → Value.okWide Try.prog W .any base t v := hval0
  have hW' := hW
  obtain ⟨p, q, hA0, hV, rfl, hfz, hnd⟩ := hW
  have hA : DataW.TrodAll enc Try.prog W 0 (fun _ => true) true Try.f3.params.toList args.toList ds p := hA0
  rw [Try.params3] at hA hval
  obtain ⟨v0, vs0, d0, ds0, p0, q0, hargs, rfl, rfl, h0, r0⟩ := trodAll_cons hA
  obtain ⟨rfl, rfl, rfl⟩ := trodAll_nil r0
  obtain rfl : args = #[v0] := by cases args; simp_all
  obtain ⟨rfl, rfl⟩ := trodVars_none hV
  have k0 := h0
  have lt0 : ∀ x ∈ p0, x.block < W.heap.size := by obtain ⟨m, hm⟩ := k0; exact DataW.trod_lt m _ _ _ hm
  obtain ⟨b0, cap0, ls0, rfl, w0⟩ := is_ledger Try.underlying24 (by kernel_rfl) rfl (by kernel_rfl) Try.underlying22 Try.underlying47 (by kernel_rfl) rfl rfl rfl (by kernel_rfl) (by kernel_rfl) (by kernel_rfl) Try.underlying3 Try.underlying3 Try.underlying3 (hval 0 24 v0 rfl rfl) h0
  clear hA0 hval0
  refine (walk b0 cap0 ls0 W w0).mono fun e W' ⟨he, bel⟩ => ?_
  subst he
  exact ⟨_, rfl, _, _, _, [], _, [], hW', trodAll_mk1 (shut_bool Try.underlying4 _), (trodAll_cons_mk (Below.trod laidOut (by kernel_rfl) (of_decide_eq_true (by kernel_rfl)) k0 bel lt0) trodAll_mk0), rfl, bel.frame _, fun h => by cases h⟩

theorem proved : Rows.FnExactAccountsSaid :=
  OpenClaim.holds_of_wide 3 Try.f3 rfl rfl rfl rfl rfl rfl rfl ⟨rfl, rfl, rfl, rfl, rfl⟩ rfl rfl rfl rfl rfl (by kernel_rfl) Try.func3 (by kernel_rfl)
    (of_decide_eq_true (by kernel_rfl)) (by unfold Func.isWrapper; first | (rw [if_pos (by decide +kernel)]; kernel_rfl) | (rw [if_neg (by decide +kernel)]; exact ⟨rfl, rfl⟩))
    (fun os started H enc _ => lifted os started H enc)
end Go.Proofs.Ytnimlgdackgcoaa.fnExactAccounts
