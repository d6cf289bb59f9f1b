/- Proved: at every text (of at most 1048576 bytes; a longer one passes by the law's own first test) the program's ReadBatch answers as the specification's, both results, every field of every message; its answer owns its memory, behind another call too. What it takes: the listed tables of Go's library and its handle of the type error hold what the library's text lays (the card ties them to the program). No other conditions. -/
import Derived.Test.YtbncdhfmhokgeaaGreatDoorJFnExactReadBatch7a
import Derived.Test.YtbncdhfmhokgeaaGreatDoorKFnExactReadBatchSRdB
import Derived.Test.YtbncdhfmhokgeaaGreatDoorJFnExactReadBatch5a
import Derived.Test.YtbncdhfmhokgeaaGreatDoorKFnExactReadBatchMsgsLaw
namespace Go.Proofs.YtbncdhfmhokgeaaGreatDoor.fnExactReadBatch
open Go.ChangeShapes Go.WideShapes Go.ChangeAt Go.RowKit
open Go.ChangeMaps (open_string shut_string)
set_option maxRecDepth 100000

theorem rd_msgs {w : World} {B b off n a : Nat} {ys : List MV} {aL : Option Addr} (h : MsO w B b off n (fun i => .slice (vAt ys (a + i)).ao (vAt ys (a + i)).fs.length (vAt ys (a + i)).cap) (fun i => (vAt ys (a + i)).fs.length) (fun i => (vAt ys (a + i)).kd) (fun i => (vAt ys (a + i)).fs))
    (ha : n = 0 ∨ aL = some ⟨b, off, none⟩) (hay : a + n ≤ ys.length) : MsgsAt w aL ((ys.drop a).take n) := by
  have hl : ((ys.drop a).take n).length = n := by simp; omega
  rcases ha with h0 | ha
  · subst h0
    have e : (ys.drop a).take 0 = [] := rfl
    rw [e]; exact ⟨.inl rfl, fun x hx => by cases hx⟩
  · by_cases h0 : n = 0
    · subst h0
      have e : (ys.drop a).take 0 = [] := rfl
      rw [e]; exact ⟨.inl rfl, fun x hx => by cases hx⟩
    · refine ⟨.inr ⟨b, off, ha, (h.lt 0 (by omega)).2, fun i hi => ?_⟩, fun x hx => ?_⟩
      · rw [hl] at hi
        rw [vAt_part ys a n i hi]
        exact ⟨h.c0 i hi, h.c1 i hi⟩
      · obtain ⟨i, hi, rfl⟩ := List.getElem_of_mem hx
        rw [← vAt_is hi]
        rw [hl] at hi
        rw [vAt_part ys a n i hi]
        exact flds_ofS (x := vAt ys (a + i)) (h.rows i hi)
theorem part_plain (ys : List MV) (a n : Nat) : plainM ((ys.drop a).take n) = ((plainM ys).drop a).take n := by simp [plainM, List.map_take]

set_option maxHeartbeats 12800000 in
theorem walk (a0 : ByteArray) (w : World) (_w0 : a0.size ≤ maxLen) (hL : laidMetH Tryz.prog Rows.fnExactReadBatchRow.laid w) (_hsh : w.ShapedOpen Tryz.prog) :
    Calls Tryz.prog 6 #[.string a0] w fun e w' => e = .returned (.bool true) ∧ Below w.heap.size w w' := by
  have h' : laidMet Tryz.prog [("math/bits.deBruijn32tab", Rows.laid_math_bits_deBruijn32tab), ("math/bits.deBruijn64tab", Rows.laid_math_bits_deBruijn64tab), ("internal/strconv.uint64pow10", Rows.laid_internal_strconv_uint64pow10)] w ∧ handlesMet Tryz.prog [("errors.errorType", Rows.laid_errors_errorType)] w := hL
  have HT : Hid (Pow10 w) := pow10_head h'.1.tail.tail
  have HE : Hid (ErrTy w) := handle_of h'.2
  clear hL h'
  obtain ⟨l, rfl⟩ : ∃ l : List UInt8, a0 = ⟨l.toArray⟩ := ⟨_, ba_list a0⟩
  clear _w0
  by_cases hbig : (1048576 : Int) < (l.length : Int)
  · go_enter Tryz.func6, Tryz.ntmps6
    go_wp2
    go_ret
    exact ⟨rfl, Below.refl _ _⟩
  have hl : l.length ≤ 1048576 := by omega
  have HL : Hid (l.length ≤ 1099511627776) := by rw [Hid]; omega
  have hnb := rdB_bd l
  have hcb := rdB_code l
  go_enter Tryz.func6, Tryz.ntmps6
  go_wp2_with fail
  refine (sReadBatch_any l _ HL.out).mono ?_
  rintro e u1 ⟨b1, aW, cW, xs, rfl, hpx, hmx⟩
  have HCG : Hid (∀ u, Below w.heap.size w u → Calls Tryz.prog 20 #[.string ⟨l.toArray⟩] u (RdR u (rdB l))) := fun u hu => iReadBatch_any l u HL.out (HT.out.below hu) (HE.out.below hu)
  obtain ⟨r, hr⟩ : ∃ r, rdB l = r := ⟨_, rfl⟩
  rw [hr] at hnb hcb hpx HCG ⊢
  clear hr HT HE
  obtain ⟨R, cd⟩ := r
  simp only at hnb hcb hpx ⊢
  have hxl : xs.length = R.length := by rw [← hpx, plainM_len]
  have HX1 : Hid (MsgsAt u1 aW xs) := hmx
  have HPX : Hid _ := hpx
  have HXL : Hid _ := hxl
  have hs1 := b1.size
  clear hpx hmx hxl
  go_wp2_with fail
  refine (HCG.out _ b1).mono ?_
  rintro e u2 ⟨b2, aG, cG, gb, off, ys, a, rfl, haG, hay, hpy, hsm, hO⟩
  simp only at haG hay hpy hO ⊢
  obtain ⟨n, hn⟩ : ∃ n, R.length = n := ⟨_, rfl⟩
  rw [hn] at haG hay hpy hO hnb HXL ⊢
  have HN : Hid _ := hn
  have q2 := next b1 b2
  have hb2 := b2.size
  have HAG : Hid _ := haG
  have HLEN : Hid (∀ i, i < n → ((vAt ys (a + i)).fs).length ≤ 92) := fun i hi => hsm _ (vAt_mem (by omega))
  have HPZ : Hid (plainM ((ys.drop a).take n) = R) := by rw [Hid, part_plain]; exact hpy
  have hzl : ((ys.drop a).take n).length = n := by simp; omega
  have HC3 : Hid (Calls Tryz.prog 28 #[.slice aG n cG, .slice aW n cW] u2 fun e w' => e = .returned (.bool true) ∧ Below u2.heap.size u2 w') := by
    have h5 := eqMessageS_same aG aW cG cW ((ys.drop a).take n) xs u2 (rd_msgs hO haG hay) (HX1.out.below b2) (HPZ.out.trans HPX.out.symm) (by omega) (fun x hx => by
      have := hsm x (List.mem_of_mem_drop (List.mem_of_mem_take hx)); omega)
    rw [hzl, HXL.out] at h5; exact h5
  have HO : Hid (MsO u2 u1.heap.size gb off n (fun i => .slice (vAt ys (a + i)).ao (vAt ys (a + i)).fs.length (vAt ys (a + i)).cap) (fun i => (vAt ys (a + i)).fs.length) (fun i => (vAt ys (a + i)).kd) (fun i => (vAt ys (a + i)).fs)) := hO
  clear hn haG hO hpy hsm hzl
  go_wp2_with fail
  refine HC3.out.mono ?_
  rintro e u3 ⟨rfl, b3⟩
  have b23 := next b2 b3
  have q3 := next q2 b3
  have HO3 := HO.out.below b3
  have HC4 : Hid (Calls Tryz.prog 29 #[.slice aG n cG, .int .i64 1] u3 fun e w' => e = .returned (.int .i64 (kAt (fun i => (vAt ys (a + i)).fs.length) n : Nat)) ∧ MsO w' u1.heap.size gb off n (fun i => .slice (vAt ys (a + i)).ao (vAt ys (a + i)).fs.length (vAt ys (a + i)).cap) (fun i => (vAt ys (a + i)).fs.length) (fun i => (kAt (fun i => (vAt ys (a + i)).fs.length) i : Int)) (fun i => mkF (kAt (fun i => (vAt ys (a + i)).fs.length) i + 1) ((vAt ys (a + i)).fs.length)) ∧ Below u1.heap.size u3 w') :=
    markMs_any aG cG u1.heap.size gb off n (fun i => (vAt ys (a + i)).ao) (fun i => (vAt ys (a + i)).cap) (fun i => (vAt ys (a + i)).fs.length) (fun i => (vAt ys (a + i)).kd) (fun i => (vAt ys (a + i)).fs) u3 HO3 HAG.out (fun i _ => rfl) HLEN.out hnb
  have HKB : Hid (kAt (fun i => (vAt ys (a + i)).fs.length) n ≤ 1 + 185 * n) := kAt_bd HLEN.out n (Nat.le_refl _)
  have HHELD : Hid (∀ u, MsO u u1.heap.size gb off n (fun i => .slice (vAt ys (a + i)).ao (vAt ys (a + i)).fs.length (vAt ys (a + i)).cap) (fun i => (vAt ys (a + i)).fs.length) (fun i => (kAt (fun i => (vAt ys (a + i)).fs.length) i : Int)) (fun i => mkF (kAt (fun i => (vAt ys (a + i)).fs.length) i + 1) ((vAt ys (a + i)).fs.length)) →
      Calls Tryz.prog 30 #[.slice aG n cG, .int .i64 1] u fun e w' => e = .returned (.int .i64 (kAt (fun i => (vAt ys (a + i)).fs.length) n : Nat)) ∧ Below u.heap.size u w') := fun u h =>
    heldMs_any aG cG u1.heap.size gb off n (fun i => (vAt ys (a + i)).ao) (fun i => (vAt ys (a + i)).cap) (fun i => (vAt ys (a + i)).fs.length) u h HAG.out HLEN.out hnb
  obtain ⟨M, hM⟩ : ∃ M : World → Prop, M = fun u => MsO u u1.heap.size gb off n (fun i => .slice (vAt ys (a + i)).ao (vAt ys (a + i)).fs.length (vAt ys (a + i)).cap) (fun i => (vAt ys (a + i)).fs.length) (fun i => (kAt (fun i => (vAt ys (a + i)).fs.length) i : Int)) (fun i => mkF (kAt (fun i => (vAt ys (a + i)).fs.length) i + 1) ((vAt ys (a + i)).fs.length)) := ⟨_, rfl⟩
  have HMB : Hid (∀ u u', M u → Below u.heap.size u u' → M u') := fun u u' h hb => by rw [hM] at h ⊢; exact h.below hb
  have HC4' : Hid (Calls Tryz.prog 29 #[.slice aG n cG, .int .i64 1] u3 fun e w' => e = .returned (.int .i64 (kAt (fun i => (vAt ys (a + i)).fs.length) n : Nat)) ∧ M w' ∧ Below u1.heap.size u3 w') := by rw [Hid, hM]; exact HC4.out
  have HHELD' : Hid (∀ u, M u → Calls Tryz.prog 30 #[.slice aG n cG, .int .i64 1] u fun e w' => e = .returned (.int .i64 (kAt (fun i => (vAt ys (a + i)).fs.length) n : Nat)) ∧ Below u.heap.size u w') := fun u h => HHELD.out u (by rw [hM] at h; exact h)
  obtain ⟨k, hk⟩ : ∃ k, kAt (fun i => (vAt ys (a + i)).fs.length) n = k := ⟨_, rfl⟩
  rw [hk] at HC4' HHELD' HKB
  have hkb : k ≤ 1000000 := by have := HKB.out; omega
  clear HC3 HC4 HHELD hM hk HKB HO HO3 HLEN HPZ b3 b2 q2 hay hb2
  go_wp2_with fail
  refine HC4'.out.mono ?_
  rintro e u4 ⟨rfl, m4, b4⟩
  have q4 : Below w.heap.size w u4 := q3.trans (b4.mono hs1)
  have b14 : Below u1.heap.size u1 u4 := b23.trans b4
  clear HC4' b4 q3 b23
  go_wp2_with fail
  refine (HHELD'.out _ m4).mono ?_
  rintro e u5 ⟨rfl, b5⟩
  have q5 := next q4 b5
  have b15 := next b14 b5
  have m5 := HMB.out _ _ m4 b5
  have hkk : ((k : Int) != (k : Int)) = false := by simp
  have hk0 : ¬ (k : Int) < 0 := by omega
  clear m4 b5 q4 b14
  have HC6 : Hid (Calls Tryz.prog 20 #[.string ⟨l.toArray⟩] u5 (RdR u5 (R, cd))) := HCG.out u5 q5
  go_wp2_with fail
  refine HC6.out.mono ?_
  rintro e u6 ⟨b6, aH, cH, gh, ofh, zs, a2, rfl, haH, hay2, hpz, hsm2, hO2⟩
  simp only at haH hay2 hpz hO2 ⊢
  rw [HN.out] at haH hay2 hpz hO2 ⊢
  have q6 := next q5 b6
  have b16 := next b15 b6
  have m6 := HMB.out _ _ m5 b6
  have hzl : ((zs.drop a2).take n).length = n := by simp; omega
  have HC7 : Hid (Calls Tryz.prog 28 #[.slice aH n cH, .slice aW n cW] u6 fun e w' => e = .returned (.bool true) ∧ Below u6.heap.size u6 w') := by
    have h5 := eqMessageS_same aH aW cH cW ((zs.drop a2).take n) xs u6 (rd_msgs hO2 haH hay2) (HX1.out.below b16) (by rw [part_plain, HPX.out]; exact hpz) (by omega) (fun x hx => by
      have := hsm2 x (List.mem_of_mem_drop (List.mem_of_mem_take hx)); omega)
    rw [hzl, HXL.out] at h5; exact h5
  clear HC6 b6 haH hay2 hpz hsm2 hO2 q5 b15 m5 b16 hzl
  go_wp2_with fail
  refine HC7.out.mono ?_
  rintro e u7 ⟨rfl, b7⟩
  have q7 := next q6 b7
  have m7 := HMB.out _ _ m6 b7
  clear HC7 b7 q6 m6
  go_wp2_with fail
  refine (HHELD'.out _ m7).mono ?_
  rintro e u8 ⟨rfl, b8⟩
  have q8 := next q7 b8
  clear b8 q7 m7
  go_wp2
  go_ret
  exact ⟨rfl, q8⟩

set_option maxRecDepth 100000 in
theorem lifted (os : Os) (started : os.Started) (H : Type) (enc : TypeId × Value → H) (F : Stop.Interp) :
    ReturnsInHanded {} Tryz.checked os 6 .any ((OpenSpec.ofChange Rows.fnExactReadBatchSpec).preRow enc Tryz.prog Tryz.f6 Rows.fnExactReadBatchRow.domain false Rows.fnExactReadBatchRow.laid)
      (((OpenSpec.ofChange Rows.fnExactReadBatchSpec).at F).post enc Tryz.prog Tryz.f6 false true false false) := by
  refine returnsInHanded_of_row (C := Tryz.checked) (s := OpenSpec.ofChange Rows.fnExactReadBatchSpec) own started (by kernel_rfl) Tryz.func6
    (ChangeSpec.witness_shaped (enc := enc) (C := Tryz.checked) (os := os) (X := fun w _ => laidMetH Tryz.prog Rows.fnExactReadBatchRow.laid w) false (World.layVars Tryz.prog ({ World.holding Tryz.prog os ⟨#[], #[], []⟩ with heap := (World.holding Tryz.prog os ⟨#[], #[], []⟩).heap.modify 0 fun | .cells _ t frozen => .cells #[.iface 198 (.agg #[.pointer (some ⟨7, 124, none⟩)])] t frozen | o => o } : World) (Rows.fnExactReadBatchRow.laid.filter fun x => x.2.handleName?.isNone)) #[.string ByteArray.empty] 8 ((World.layVars_os _ _ _).trans rfl)
      (World.shaped_of_ZipB (by kernel_rfl) (by kernel_rfl)) (by kernel_rfl) (by kernel_rfl) (by kernel_rfl)
      (laidMetH_of_parts (laidMet_over _ (by kernel_rfl) (by kernel_rfl)) (by kernel_rfl))) ?_
  intro W base args ds gs before hval0 hW _ _ _ hL hsh _
  have hval : ∀ (j : Nat) t v, Tryz.f6.params[j]? = some t → args[j]? = some v → Value.okWide Tryz.prog W .any base t v := hval0
  have hW' := hW
  obtain ⟨p, q, hA0, hV, rfl, _, _⟩ := hW
  have hA : DataW.TrodAll enc Tryz.prog W 0 (fun _ => true) true Tryz.f6.params.toList args.toList ds p := hA0
  rw [Tryz.params6] at hA hval
  obtain ⟨v0, vs0, d0, ds0, p0, q0, hargs, rfl, rfl, h0, r0⟩ := trodAll_cons hA
  obtain ⟨rfl, rfl, rfl⟩ := trodAll_nil r0
  obtain rfl : args = #[v0] := by cases args; simp_all
  obtain ⟨rfl, rfl⟩ := trodVars_none hV
  obtain ⟨a0, rfl, rfl, rfl, w0⟩ := open_string Tryz.underlying9 (hval 0 9 v0 rfl rfl) h0
  clear hA0 hval0
  refine (walk a0 W w0 hL hsh).mono fun e W' ⟨he, bel⟩ => ?_
  subst he
  exact ⟨_, rfl, _, _, _, [], _, [], hW', trodAll_mk1 (shut_bool Tryz.underlying4 _), (trodAll_cons_mk (shut_string Tryz.underlying9 w0) trodAll_mk0), rfl, bel.frame _, fun h => by cases h⟩

theorem said : Rows.FnExactReadBatchSaid :=
  OpenClaim.holds_of_cond 6 Tryz.f6 rfl rfl rfl rfl rfl rfl rfl ⟨rfl, rfl, rfl, rfl, rfl⟩ rfl rfl rfl rfl rfl (by kernel_rfl) Tryz.func6 (by kernel_rfl)
    (of_decide_eq_true (by kernel_rfl)) (by unfold Func.isWrapper; first | (rw [if_pos (by decide +kernel)]; kernel_rfl) | (rw [if_neg (by decide +kernel)]; exact ⟨rfl, rfl⟩))
    (fun os started H enc _ F => by rw [OpenClaim.pre_eq_preRow]; exact lifted os started H enc F)

theorem proved : Rows.FnExactReadBatchCardSaid :=
  Claim7.holds_tied_plain_at .later [] _ _ _ _ said (fun _ h => by cases h) (by kernel_rfl) (fun _ h => by cases h) fnExactReadBatch_row_tie rfl ⟨rfl, rfl⟩ (by kernel_rfl) rfl
    (fun f fn hf hfn => by
      obtain rfl : f = 6 := Option.some.inj ((show Tryz.prog.funcNamed "loop.example/g00126/laws.FnExactReadBatch" = some 6 by kernel_rfl).symm.trans hf) |>.symm
      obtain rfl : fn = Tryz.f6 := (Option.some.inj (Tryz.func6.symm.trans hfn)).symm
      refine ⟨by kernel_rfl, fun j t ht => ?_⟩
      rw [Tryz.params6] at ht
      have hm : t ∈ [9] := by have := Array.mem_of_getElem? ht; simp at this ⊢; first | exact this | exact this.symm
      have hall : ([9].all fun u => !Tryz.prog.wantsStandIn u) = true := by kernel_rfl
      have h1 := List.all_eq_true.1 hall t hm
      have h2 : Tryz.prog.wantsStandIn t = false := by simpa using h1
      exact h2)
    (by kernel_rfl)
end Go.Proofs.YtbncdhfmhokgeaaGreatDoor.fnExactReadBatch
