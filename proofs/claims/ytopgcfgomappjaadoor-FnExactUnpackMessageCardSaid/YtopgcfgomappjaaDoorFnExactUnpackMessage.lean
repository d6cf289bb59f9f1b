/- Proved: at every text (up to 1048576 bytes; a longer one passes by the law's own first test) the program's UnpackMessage answers as the specification's, the message, the code and the place; its answer owns its memory, behind another call too. What it takes: errors.errorType holds what the library's own text lays (the card ties that to the program). -/
import Derived.Test.YtopgcfgomappjaaDoorMEnv
import Derived.Test.YtopgcfgomappjaaDoorSUnp
import Derived.Test.YtopgcfgomappjaaDoorMarkF
import Derived.LaidHandle
import Derived.LaidLaws
namespace Go.Proofs.YtopgcfgomappjaaDoor.fnExactUnpackMessage
open Go.ChangeShapes Go.WideShapes Go.ChangeAt Go.RowKit
open Go.ChangeMaps (open_string shut_string)

theorem et : Tryd.prog.globalNamed "errors.errorType" = some 0 := by kernel_rfl
theorem rt : (Tryd.prog.cutTypes.find? (·.1 == "internal/reflectlite.rtype")).map (·.2) = some 141 := by kernel_rfl
theorem oneRow : ((List.range 206).filter fun t => Tryd.prog.rowNamed t [101, 114, 114, 111, 114]) = [91] := by kernel_rfl
theorem size : Tryd.prog.types.size = 206 := by kernel_rfl
theorem handle_of_laid {W : World} (h : laidMetH Tryd.prog Rows.fnExactUnpackMessageRow.laid W) : ErrTy W := by
  have h' : laidMet Tryd.prog [] W ∧ handlesMet Tryd.prog Rows.fnExactUnpackMessageRow.laid W := h
  obtain ⟨name, u, ty, e1, e2, e3, e4, e5⟩ := h'.2 _ (List.mem_singleton.2 rfl)
  have en : name = [101, 114, 114, 111, 114] := (Option.some.inj e1).symm
  subst en
  obtain rfl := Option.some.inj (rt.symm.trans e2)
  have hm : ty ∈ (List.range 206).filter fun t => Tryd.prog.rowNamed t [101, 114, 114, 111, 114] := List.mem_filter.2 ⟨List.mem_range.2 (by rw [← size]; exact e3), e4⟩
  rw [oneRow] at hm
  obtain rfl := List.mem_singleton.1 hm
  have hh : typeHandle Tryd.prog 91 = .pointer (some ⟨7, 91, none⟩) := by kernel_rfl
  rw [hh] at e5
  unfold ErrTy
  simpa using World.var?_cell et e5 0

theorem far2 {w u : World} {b : Nat} {x y : Value} {row : Option Nat} (h0 : w.cell? ⟨b, 0, none⟩ = some x) (h1 : w.cell? ⟨b, 1, none⟩ = some y) (k : w.grownBy u row) (hne : some b ≠ row) :
    u.cell? ⟨b, 0, none⟩ = some x ∧ u.cell? ⟨b, 1, none⟩ = some y :=
  have hb : b < w.heap.size := World.block_lt_of_cell? w _ h0
  ⟨(k.cell_far ⟨b, 0, none⟩ hb hne).trans h0, (k.cell_far ⟨b, 1, none⟩ hb hne).trans h1⟩
theorem flds_any {w : World} {base n : Nat} {t : TypeId} {ao : Option Addr} {cap : Nat} {fs : List Fld} (h : w.ownsRow base t 2 (.slice ao fs.length cap) n (fcells fs)) : FldsAt w ao fs := by
  obtain ⟨ao', cap', hv, hf, _⟩ := flds_of_own' h
  obtain ⟨rfl, _⟩ : ao = ao' ∧ cap = cap' := by simpa using hv
  exact hf
theorem flds_mark {w : World} {base n : Nat} {t : TypeId} {ao : Option Addr} {cap : Nat} (h : w.ownsRow base t 2 (.slice ao n cap) n (fcells (mkF 1 n))) : FldsAt w ao (mkF 1 n) := by
  obtain ⟨ao', cap', hv, hf, _⟩ := flds_of_own' h
  obtain ⟨rfl, _⟩ : ao = ao' ∧ n = (mkF 1 n).length ∧ cap = cap' := by simpa using hv
  exact hf
theorem rdF_len (l : List UInt8) : ∀ (ns : List Int) (a : Int) (acc : List Fld), (rdF l ns a acc).2.2.length ≤ acc.length + ns.length := by
  intro ns
  induction ns with
  | nil => intro a acc; unfold rdF; split <;> simp
  | cons n r ih =>
    intro a acc
    unfold rdF
    split
    · have := ih (rawI l a n) (acc ++ [(n, rawL l a n)])
      simp at this ⊢; omega
    · simp
theorem unp_len (l : List UInt8) : (unp l).2.2.2.length ≤ 129 := by
  unfold unp
  split
  · simp
  · split
    · simp
    · split
      · have h1 := rdF_len l (getSL l 4) (getSI l 4) []
        have h2 := getSL_len l 4
        simp at h1 ⊢; omega
      · simp

set_option maxRecDepth 100000 in
set_option maxHeartbeats 6400000 in
theorem walk (a0 : ByteArray) (w : World) (_w0 : a0.size ≤ maxLen) (hL : laidMetH Tryd.prog Rows.fnExactUnpackMessageRow.laid w) :
    Calls Tryd.prog 4 #[.string a0] w fun e w' => e = .returned (.bool true) ∧ Below w.heap.size w w' := by
  obtain ⟨l, rfl⟩ : ∃ l : List UInt8, a0 = ⟨l.toArray⟩ := ⟨_, ba_list a0⟩
  have hg := handle_of_laid hL
  clear _w0 hL
  by_cases hbig : (1048576 : Int) < (l.length : Int)
  · go_enter Tryd.func4, Tryd.ntmps4
    go_wp2
    go_ret
    exact ⟨rfl, Below.refl _ _⟩
  · have hl : l.length ≤ 1048576 := by omega
    have hS := fun w => sUnpack_any l w hl
    have hI := fun w hg => iUnpack_any l w hl hg
    have hLL := unp_len l
    unfold UnpR at hS hI
    obtain ⟨⟨c, a, kd, L⟩, hU⟩ : ∃ U, unp l = U := ⟨_, rfl⟩
    rw [hU] at hS hI hLL
    simp only at hS hI hLL
    have hme := msgEq_self kd L
    clear hU
    go_enter Tryd.func4, Tryd.ntmps4
    go_wp2_with fail
    refine (hS _).mono ?_
    rintro e u1 ⟨b1, ao1, cap1, rfl, o1⟩
    have HO1 : Hid (u1.ownsRow w.heap.size 43 2 (.slice ao1 L.length cap1) L.length (fcells L)) := o1
    have H1B : Hid (∀ x, (Value.slice ao1 L.length cap1).ownBlock = some x → x < u1.heap.size) := fun x hx => (World.ownsRow.lt o1 x hx).2
    clear o1
    have bx1 : Below u1.heap.size u1 (u1.alloc (.cells #[.int .i64 kd, .slice ao1 L.length cap1] 30)) := by go_grown
    go_wp2_with fail
    refine (hI _ (hg.below (next b1 bx1))).mono ?_
    rintro e u2 ⟨b2, ao2, cap2, rfl, o2⟩
    obtain ⟨c0, c1, q12, hs2⟩ := box2 b2
    simp only [World.size_alloc] at o2
    have HO2 : Hid (u2.ownsRow (u1.heap.size + 1) 43 2 (.slice ao2 L.length cap2) L.length (fcells L)) := o2
    have H2B : Hid (∀ x, (Value.slice ao2 L.length cap2).ownBlock = some x → u1.heap.size + 1 ≤ x ∧ x < u2.heap.size) := fun x hx => World.ownsRow.lt o2 x hx
    replace HO1 : Hid (u2.ownsRow w.heap.size 43 2 (.slice ao1 L.length cap1) L.length (fcells L)) := keepRow HO1.out q12
    have q2 := next b1 q12
    clear b2 o2 bx1 q12
    have bx2 : Below u2.heap.size u2 (u2.alloc (.cells #[.int .i64 kd, .slice ao2 L.length cap2] 30)) := by go_grown
    have cF0 := (bx2.cell (p := ⟨u1.heap.size, 0, none⟩) (World.block_lt_of_cell? u2 _ c0)).trans c0
    have cF1 := (bx2.cell (p := ⟨u1.heap.size, 1, none⟩) (World.block_lt_of_cell? u2 _ c1)).trans c1
    go_wp2_with fail
    refine (eqMessage_any _ _ _ _ _ _ _ _ _ ((flds_any HO2.out).below bx2) ((flds_any HO1.out).below bx2) (by omega) (by omega)).mono ?_
    rintro e u3 ⟨rfl, b3⟩
    rw [hme]
    obtain ⟨g0, g1, q23, hs3⟩ := box2 b3
    have tt := keep2 c0 c1 q23
    clear c0 c1
    obtain ⟨c0, c1⟩ := tt
    have q3 := next q2 q23
    replace HO1 : Hid (u3.ownsRow w.heap.size 43 2 (.slice ao1 L.length cap1) L.length (fcells L)) := keepRow HO1.out q23
    replace HO2 : Hid (u3.ownsRow (u1.heap.size + 1) 43 2 (.slice ao2 L.length cap2) L.length (fcells L)) := keepRow HO2.out q23
    clear b3 bx2 q23 q2 cF0 cF1
    go_wp2_with fail
    refine (markMessage_any kd _ _ _ 1 _ _ HO2.out (by omega) (by omega)).mono ?_
    rintro e u4 ⟨rfl, o4, gr4⟩
    obtain ⟨mm, hmm⟩ : ∃ m, 1 + 2 * L.length = m := ⟨_, rfl⟩
    rw [hmm]
    have HMM : Hid _ := hmm
    clear hmm
    have hne2 : ∀ (bk : Nat), (bk < u1.heap.size + 1 ∨ u2.heap.size ≤ bk) → some bk ≠ (Value.slice ao2 L.length cap2).ownBlock := by
      intro bk hbk hh
      have := H2B.out bk hh.symm
      omega
    have tt := far2 c0 c1 gr4 (hne2 _ (by omega))
    clear c0 c1
    obtain ⟨c0, c1⟩ := tt
    have tt := far2 g0 g1 gr4 (hne2 _ (by omega))
    clear g0 g1
    obtain ⟨g0, g1⟩ := tt
    have hb1 := b1.size
    have q4 : Below w.heap.size w u4 := q3.grown gr4 q3.size (fun k hk => by have := H2B.out k hk; omega)
    replace HO1 : Hid (u4.ownsRow w.heap.size 43 2 (.slice ao1 L.length cap1) L.length (fcells L)) := by
      refine World.ownsRow.kept HO1.out gr4 ?_
      by_cases hnn : (Value.slice ao1 L.length cap1).ownBlock = none
      · exact .inl hnn
      · right
        intro hh
        obtain ⟨x, hx⟩ := Option.ne_none_iff_exists'.1 hnn
        have h1 := H1B.out x hx
        have h2 := H2B.out x (hh ▸ hx)
        omega
    have F4 : Hid (FldsAt u4 ao2 (mkF 1 L.length)) := flds_mark o4
    clear gr4 o4 q3 HO2 hne2
    go_wp2_with fail
    refine (heldMessage_any kd _ _ _ 1 _ F4.out (by omega) (by omega) (by omega)).mono ?_
    rintro e u5 ⟨rfl, b5⟩
    have tt := keep2 c0 c1 b5
    clear c0 c1
    obtain ⟨c0, c1⟩ := tt
    have tt := keep2 g0 g1 b5
    clear g0 g1
    obtain ⟨g0, g1⟩ := tt
    have q5 := next q4 b5
    replace HO1 : Hid (u5.ownsRow w.heap.size 43 2 (.slice ao1 L.length cap1) L.length (fcells L)) := keepRow HO1.out b5
    replace F4 : Hid (FldsAt u5 ao2 (mkF 1 L.length)) := F4.out.below b5
    clear b5 q4
    rw [HMM.out]
    go_wp2_with fail
    refine (hI _ (hg.below q5)).mono ?_
    rintro e u6 ⟨b6, ao6, cap6, rfl, o6⟩
    have tt := keep2 c0 c1 b6
    clear c0 c1
    obtain ⟨c0, c1⟩ := tt
    have tt := keep2 g0 g1 b6
    clear g0 g1
    obtain ⟨g0, g1⟩ := tt
    have q6 := next q5 b6
    replace HO1 : Hid (u6.ownsRow w.heap.size 43 2 (.slice ao1 L.length cap1) L.length (fcells L)) := keepRow HO1.out b6
    replace F4 : Hid (FldsAt u6 ao2 (mkF 1 L.length)) := F4.out.below b6
    have HO6 : Hid (u6.ownsRow u5.heap.size 43 2 (.slice ao6 L.length cap6) L.length (fcells L)) := o6
    have bx6 : Below u6.heap.size u6 (u6.alloc (.cells #[.int .i64 kd, .slice ao6 L.length cap6] 30)) := by go_grown
    have cF0 := (bx6.cell (p := ⟨u1.heap.size, 0, none⟩) (World.block_lt_of_cell? u6 _ c0)).trans c0
    have cF1 := (bx6.cell (p := ⟨u1.heap.size, 1, none⟩) (World.block_lt_of_cell? u6 _ c1)).trans c1
    clear b6 q5 o6
    go_wp2_with fail
    refine (eqMessage_any _ _ _ _ _ _ _ _ _ ((flds_any HO6.out).below bx6) ((flds_any HO1.out).below bx6) (by omega) (by omega)).mono ?_
    rintro e u7 ⟨rfl, b7⟩
    rw [hme]
    have q67 : Below u6.heap.size u6 u7 := bx6.trans (b7.mono (by simp))
    have tt := keep2 g0 g1 q67
    clear g0 g1
    obtain ⟨g0, g1⟩ := tt
    have q7 := next q6 q67
    replace F4 : Hid (FldsAt u7 ao2 (mkF 1 L.length)) := F4.out.below q67
    clear b7 q6 q67 bx6 cF0 cF1 c0 c1 HO1 HO6
    go_wp2_with fail
    refine (heldMessage_any kd _ _ _ 1 _ F4.out (by omega) (by omega) (by omega)).mono ?_
    rintro e u8 ⟨rfl, b8⟩
    rw [HMM.out]
    have q8 := next q7 b8
    clear b8 q7 F4 g0 g1
    go_wp2
    go_ret
    exact ⟨rfl, q8⟩

set_option maxRecDepth 100000 in
theorem lifted (os : Os) (started : os.Started) (H : Type) (enc : TypeId × Value → H) (F : Stop.Interp) :
    ReturnsInHanded {} Tryd.checked os 4 .any ((OpenSpec.ofChange Rows.fnExactUnpackMessageSpec).preRow enc Tryd.prog Tryd.f4 Rows.fnExactUnpackMessageRow.domain false Rows.fnExactUnpackMessageRow.laid)
      (((OpenSpec.ofChange Rows.fnExactUnpackMessageSpec).at F).post enc Tryd.prog Tryd.f4 false true false false) := by
  refine returnsInHanded_of_row (C := Tryd.checked) (s := OpenSpec.ofChange Rows.fnExactUnpackMessageSpec) own started (by kernel_rfl) Tryd.func4
    (ChangeSpec.witness_shaped (enc := enc) (C := Tryd.checked) (os := os) (X := fun w _ => laidMetH Tryd.prog Rows.fnExactUnpackMessageRow.laid w) false ({ World.holding Tryd.prog os ⟨#[], #[], []⟩ with heap := (World.holding Tryd.prog os ⟨#[], #[], []⟩).heap.modify 0 fun | .cells _ t frozen => .cells #[.iface 141 (.agg #[.pointer (some ⟨7, 91, none⟩)])] t frozen | o => o } : World) #[.string ByteArray.empty] 8 rfl
      (World.shaped_of_ZipB (by kernel_rfl) (by kernel_rfl)) (by kernel_rfl) (by kernel_rfl) (by kernel_rfl)
      (laidMetH_of_parts (laidMet_nil _ _) (by kernel_rfl))) ?_
  intro W base args ds gs before hval0 hW _ _ _ hL _ _
  have hval : ∀ (j : Nat) t v, Tryd.f4.params[j]? = some t → args[j]? = some v → Value.okWide Tryd.prog W .any base t v := hval0
  have hW' := hW
  obtain ⟨p, q, hA0, hV, rfl, _, _⟩ := hW
  have hA : DataW.TrodAll enc Tryd.prog W 0 (fun _ => true) true Tryd.f4.params.toList args.toList ds p := hA0
  rw [Tryd.params4] at hA hval
  obtain ⟨v0, vs0, d0, ds0, p0, q0, hargs, rfl, rfl, h0, r0⟩ := trodAll_cons hA
  obtain ⟨rfl, rfl, rfl⟩ := trodAll_nil r0
  obtain rfl : args = #[v0] := by cases args; simp_all
  obtain ⟨rfl, rfl⟩ := trodVars_none hV
  obtain ⟨a0, rfl, rfl, rfl, w0⟩ := open_string Tryd.underlying9 (hval 0 9 v0 rfl rfl) h0
  clear hA0 hval0
  refine (walk a0 W w0 hL).mono fun e W' ⟨he, bel⟩ => ?_
  subst he
  exact ⟨_, rfl, _, _, _, [], _, [], hW', trodAll_mk1 (shut_bool Tryd.underlying4 _), (trodAll_cons_mk (shut_string Tryd.underlying9 w0) trodAll_mk0), rfl, bel.frame _, fun h => by cases h⟩

theorem said : Rows.FnExactUnpackMessageSaid :=
  OpenClaim.holds_of_cond 4 Tryd.f4 rfl rfl rfl rfl rfl rfl rfl ⟨rfl, rfl, rfl, rfl, rfl⟩ rfl rfl rfl rfl rfl (by kernel_rfl) Tryd.func4 (by kernel_rfl)
    (of_decide_eq_true (by kernel_rfl)) (by unfold Func.isWrapper; first | (rw [if_pos (by decide +kernel)]; kernel_rfl) | (rw [if_neg (by decide +kernel)]; exact ⟨rfl, rfl⟩))
    (fun os started H enc _ F => by rw [OpenClaim.pre_eq_preRow]; exact lifted os started H enc F)

theorem proved : Rows.FnExactUnpackMessageCardSaid :=
  Claim7.holds_tied_plain_at .later [] _ _ _ _ said (fun _ h => by cases h) (by kernel_rfl) (fun _ h => by cases h) fnExactUnpackMessage_row_tie rfl ⟨rfl, rfl⟩ (by kernel_rfl) rfl
    (fun f fn hf hfn => by
      obtain rfl : f = 4 := Option.some.inj ((show Tryd.prog.funcNamed "loop.example/g00126/laws.FnExactUnpackMessage" = some 4 by kernel_rfl).symm.trans hf) |>.symm
      obtain rfl : fn = Tryd.f4 := (Option.some.inj (Tryd.func4.symm.trans hfn)).symm
      refine ⟨by kernel_rfl, fun j t ht => ?_⟩
      rw [Tryd.params4] at ht
      have hm : t ∈ [9] := by have := Array.mem_of_getElem? ht; simp at this ⊢; first | exact this | exact this.symm
      have hall : ([9].all fun u => !Tryd.prog.wantsStandIn u) = true := by kernel_rfl
      have h1 := List.all_eq_true.1 hall t hm
      have h2 : Tryd.prog.wantsStandIn t = false := by simpa using h1
      exact h2)
    (by kernel_rfl)
end Go.Proofs.YtopgcfgomappjaaDoor.fnExactUnpackMessage
