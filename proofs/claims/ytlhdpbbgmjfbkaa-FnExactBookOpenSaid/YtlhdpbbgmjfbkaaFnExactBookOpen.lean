/- Proved: at every book (within the laws' own measure of 1048576; a greater one passes by the law's own first test) the program's BookOpen answers as the specification's, the numbers of all cases that are not closed; it leaves its argument as it was, its answer owns its memory, and a second call answers the same. Conditions: none. -/
import Derived.Test.YtlhdpbbgmjfbkaaBase
import Derived.Test.YtlhdpbbgmjfbkaaBkSz
import Derived.Test.YtlhdpbbgmjfbkaaBkMk
import Derived.Test.YtlhdpbbgmjfbkaaBkNum
import Derived.Test.YtlhdpbbgmjfbkaaMarkI
import Derived.Test.YtlhdpbbgmjfbkaaIntsEq
namespace Go.Proofs.Ytlhdpbbgmjfbkaa.fnExactBookOpen
open Go.ChangeShapes Go.WideShapes Go.ChangeAt Go.RowKit
set_option maxRecDepth 100000

theorem has_lt {base g : Nat} {b : Bk} {q : Bp} {u : World} (h : OwnBk base b q u) (hg : q.has g) : base ≤ g ∧ g < u.heap.size := by
  rcases hg with e | e | e | e | e
  · exact h.off.lt g (by rw [e]; rfl)
  · exact h.az.lt g (by rw [e]; rfl)
  · exact h.cs.lt g (by rw [e]; rfl)
  · exact h.ls.lt g (by rw [e]; rfl)
  · exact h.log.lt g (by rw [e]; rfl)
theorem has_below {base g n : Nat} {b : Bk} {q : Bp} {u : World} (h : OwnBk base b q u) (hg : q.has g) (hn : u.heap.size ≤ n) : base ≤ g ∧ g < n := by
  have := has_lt h hg
  omega

set_option maxHeartbeats 12800000 in
theorem walk (b : Bk) (p : Bp) (w : World) (w0 : BookAt w b p ∧ BkBd b) :
    Calls Try.prog 3 #[bkv b p] w fun e w' => e = .returned (.bool true) ∧ Below w.heap.size w w' := by
  obtain ⟨hx, hd⟩ := w0
  obtain ⟨W, hW⟩ : ∃ W, W = w.alloc (.cells #[.int .i64 b.today, .slice p.o b.off.length p.oc, .slice p.a b.az.length p.ac, .slice p.c b.cs.length p.cc, .slice p.l b.ls.length p.lc, .slice p.g b.log.length p.gc] 30) := ⟨_, rfl⟩
  have bW : Below w.heap.size w W := by rw [hW]; exact (Below.refl _ _).alloc (Nat.le_refl _) _
  have s1 : S6 w.heap.size b p W := by rw [hW]; exact S6.new w b p _
  have HX : Hid (∀ u, Below w.heap.size w u → BookAt u b p) := fun u h => hx.below h
  have HW : Hid _ := hW
  have HSZ : Hid (Calls Try.prog 7 #[bkv b p, .int .i64 1048576] W fun e w' => ∃ n : Int, e = .returned (.int .i64 n) ∧ (0 ≤ n → bkLg b) ∧ Below W.heap.size W w') := szBook_any b p W (hx.below bW) hd
  have HTO : Hid (∀ u, Below w.heap.size w u → bkSm b → Calls Try.prog 9 #[bkv b p] u fun e w' => ∃ q, e = .returned (bkv b q) ∧ OwnBk u.heap.size b q w' ∧ Below u.heap.size u w') := fun u h hn => toBook_any b p u (hx.below h) hn
  obtain ⟨A, hA⟩ : ∃ A, numsL opP b.cs b.cs.length = A := ⟨_, rfl⟩
  have HAL : Hid (bkSm b → A.length ≤ 1048576) := fun h => by rw [← hA]; exact Nat.le_trans (numsL_le _ _ _) h.2.2.1
  have HSA : Hid (∀ (u : World) (q : Bp), BookAt u b q → bkSm b → Calls Try.prog 8 #[bkv b q] u (NuR u A)) := fun u q h hn => by
    have := sBookOpen_any b q u h hn
    rwa [hA] at this
  have HIA : Hid (∀ (u : World) (q : Bp), BookAt u b q → bkSm b → Calls Try.prog 10 #[bkv b q] u (NuR u A)) := fun u q h hn => by
    have := iBookOpen_any b q u h hn
    rwa [hA] at this
  have HBW : Hid (Below w.heap.size w W) := bW
  have HS : Hid (S6 w.heap.size b p W) := s1
  clear hW hx hd bW hA
  obtain ⟨c0, c1, c2, c3, c4, c5⟩ := s1
  have HV : ∀ q : Bp, Hid (bkv b q = .agg #[.int .i64 b.today, .slice q.o b.off.length q.oc, .slice q.a b.az.length q.ac, .slice q.c b.cs.length q.cc, .slice q.l b.ls.length q.lc, .slice q.g b.log.length q.gc]) := fun q => rfl
  rw [(HV p).out]
  go_enter Try.func3, Try.ntmps3
  go_upto_region 2 with fail
  rw [← HW.out]
  clear HW
  go_wp2_with fail
  refine Calls.mono HSZ.out ?_
  rintro e u1 ⟨n, rfl, hg, b1⟩
  have HB1 : Hid (Below w.heap.size w u1) := next HBW.out b1
  have HS1 : Hid (S6 w.heap.size b p u1) := HS.out.below b1
  clear c0 c1 c2 c3 c4 c5 b1 HBW HS HSZ
  by_cases hneg : n < 0
  · go_wp2
    go_ret
    exact ⟨rfl, HB1.out⟩
  have HN : Hid (bkSm b) := (hg (by omega)).1
  clear hg
  have hAl := HAL.out HN.out
  obtain ⟨c0, c1, c2, c3, c4, c5⟩ := HS1.out
  go_wp2_with fail
  refine Calls.mono (HTO.out _ HB1.out HN.out) ?_
  rintro e u2 ⟨q2, rfl, o2, b2⟩
  have HB2 : Hid (Below w.heap.size w u2) := next HB1.out b2
  have HS2 : Hid (S6 w.heap.size b p u2) := HS1.out.below b2
  have HF2 : Hid (BookAt u2 b q2) := o2.at
  clear c0 c1 c2 c3 c4 c5 b2 o2 HB1 HS1
  go_wp2_with fail
  refine Calls.mono (HSA.out _ _ HF2.out HN.out) ?_
  rintro e u3 ⟨a3, k3, rfl, o3, b3⟩
  have HB3 : Hid (Below w.heap.size w u3) := next HB2.out b3
  have HS3 : Hid (S6 w.heap.size b p u3) := HS2.out.below b3
  obtain ⟨base3, hb3⟩ : ∃ x, u2.heap.size = x := ⟨_, rfl⟩
  rw [hb3] at o3
  have HO3 : Hid (u3.ownsRow base3 3 1 (.slice a3 A.length k3) A.length (A.map (Value.int .i64))) := o3
  have HX3 : Hid (∀ x, (Value.slice a3 A.length k3).ownBlock = some x → x < u3.heap.size) := fun x hx => (o3.lt x hx).2
  have HL3 : Hid (w.heap.size < u3.heap.size) := HS3.out.lt
  clear b3 o3 HB2 HS2 HF2 hb3
  obtain ⟨c0, c1, c2, c3, c4, c5⟩ := HS3.out
  go_wp2_with fail
  refine Calls.mono (HTO.out _ HB3.out HN.out) ?_
  rintro e u4 ⟨q4, rfl, o4, b4⟩
  rw [(HV q4).out]
  obtain ⟨V, hV⟩ : ∃ V, V = u4.alloc (.cells #[.int .i64 b.today, .slice q4.o b.off.length q4.oc, .slice q4.a b.az.length q4.ac, .slice q4.c b.cs.length q4.cc, .slice q4.l b.ls.length q4.lc, .slice q4.g b.log.length q4.gc] 39) := ⟨_, rfl⟩
  have bV : Below u4.heap.size u4 V := by rw [hV]; exact (Below.refl _ _).alloc (Nat.le_refl _) _
  have HY : Hid (S6 u4.heap.size b q4 V) := by rw [Hid, hV]; exact S6.new u4 b q4 _
  have b34 := next b4 bV
  obtain ⟨base4, hb4⟩ : ∃ x, u3.heap.size = x := ⟨_, rfl⟩
  obtain ⟨X, hX⟩ : ∃ x, u4.heap.size = x := ⟨_, rfl⟩
  have HOB : Hid (OwnBk base4 b q4 V) := by rw [Hid, ← hb4]; exact o4.below bV
  have HGB : Hid (∀ g, q4.has g → base4 ≤ g ∧ g < X) := fun g hg => by rw [← hb4, ← hX]; exact has_lt o4 hg
  have HB4 : Hid (Below w.heap.size w V) := next HB3.out b34
  have HS4 : Hid (S6 w.heap.size b p V) := HS3.out.below b34
  replace HO3 : Hid (V.ownsRow base3 3 1 (.slice a3 A.length k3) A.length (A.map (Value.int .i64))) := own_below HO3.out b34
  have HLV : Hid (base4 ≤ X ∧ X < V.heap.size) := by rw [Hid, ← hb4, ← hX]; exact ⟨b4.size, HY.out.lt⟩
  have HV0 : Hid _ := hV
  have HXE : Hid _ := hX
  rw [hX] at HY
  rw [hb4] at HX3 HL3
  clear b4 bV b34 o4 hV hb4 HB3 HS3 c0 c1 c2 c3 c4 c5 hX
  go_upto_region 7 with fail
  rw [← HV0.out, HXE.out]
  clear HV0 HXE
  obtain ⟨d0, d1, d2, d3, d4, d5⟩ := HY.out
  go_wp2_with fail
  refine Calls.mono (HIA.out _ q4 HOB.out.at HN.out) ?_
  rintro e u5 ⟨a5, k5, rfl, o5, b5⟩
  have HB5 : Hid (Below w.heap.size w u5) := next HB4.out b5
  have HS5 : Hid (S6 w.heap.size b p u5) := HS4.out.below b5
  have HY5 : Hid (S6 X b q4 u5) := HY.out.below b5
  replace HO3 : Hid (u5.ownsRow base3 3 1 (.slice a3 A.length k3) A.length (A.map (Value.int .i64))) := own_below HO3.out b5
  replace HOB : Hid (OwnBk base4 b q4 u5) := HOB.out.below b5
  have HG5 : Hid (∀ x, (Value.slice a5 A.length k5).ownBlock = some x → X < x) := fun x hx => by have := (o5.lt x hx).1; have := HLV.out; omega
  obtain ⟨base5, hb5⟩ : ∃ x, V.heap.size = x := ⟨_, rfl⟩
  rw [hb5] at o5
  have HO5 : Hid (u5.ownsRow base5 3 1 (.slice a5 A.length k5) A.length (A.map (Value.int .i64))) := o5
  clear b5 o5 hb5 d0 d1 d2 d3 d4 d5 HB4 HS4 HY
  go_wp2_with fail
  refine (eqIntS_any _ _ _ _ A A _ (ints_own HO5.out) (ints_own HO3.out) (by omega) (by omega)).mono ?_
  rintro e u6 ⟨rfl, b6⟩
  have HB6 : Hid (Below w.heap.size w u6) := next HB5.out b6
  have HS6 : Hid (S6 w.heap.size b p u6) := HS5.out.below b6
  have HY6 : Hid (S6 X b q4 u6) := HY5.out.below b6
  replace HO3 : Hid (u6.ownsRow base3 3 1 (.slice a3 A.length k3) A.length (A.map (Value.int .i64))) := own_below HO3.out b6
  replace HO5 : Hid (u6.ownsRow base5 3 1 (.slice a5 A.length k5) A.length (A.map (Value.int .i64))) := own_below HO5.out b6
  replace HOB : Hid (OwnBk base4 b q4 u6) := HOB.out.below b6
  clear b6 HB5 HS5 HY5
  rw [show decide (A = A) = true by simp]
  go_upto_region 10 with fail
  go_cut [31] (fun v wc => v = .bool false ∧ Below u6.heap.size u6 wc)
  case first =>
    obtain ⟨c0, c1, c2, c3, c4, c5⟩ := HS6.out
    obtain ⟨d0, d1, d2, d3, d4, d5⟩ := HY6.out
    go_region_with (first
      | (go_at_call 9; refine Calls.mono (HTO.out _ (HB6.out.trans (((Below.refl _ _).drew).mono (HB6.out.size))) HN.out) ?_; rintro e u7 ⟨q7, rfl, o7, b7'⟩; have b7 : Below u6.heap.size u6 u7 := ((Below.refl _ _).drew).trans b7'; obtain ⟨f0, f1, f2, f3, f4, f5⟩ := HY6.out.below b7)
      | (go_at_call 12; refine Calls.mono (eqBook_same b q4 q7 _ (HOB.out.at.below b7) o7.at HN.out) ?_; rintro e u8 ⟨rfl, b8⟩))
    all_goals
      go_wp2_with fail
      go_meet
      exact ⟨rfl, next b7 b8⟩
  case rest =>
    obtain ⟨rfl, b8⟩ := hcut
    have HB8 : Hid (Below w.heap.size w wc) := next HB6.out b8
    have HS8 : Hid (S6 w.heap.size b p wc) := HS6.out.below b8
    have HY8 : Hid (S6 X b q4 wc) := HY6.out.below b8
    replace HO3 : Hid (wc.ownsRow base3 3 1 (.slice a3 A.length k3) A.length (A.map (Value.int .i64))) := own_below HO3.out b8
    replace HO5 : Hid (wc.ownsRow base5 3 1 (.slice a5 A.length k5) A.length (A.map (Value.int .i64))) := own_below HO5.out b8
    replace HOB : Hid (OwnBk base4 b q4 wc) := HOB.out.below b8
    clear b8 HB6 HS6 HY6
    obtain ⟨d0, d1, d2, d3, d4, d5⟩ := HY8.out
    go_wp2_with fail
    refine Calls.mono (markBook_any b q4 base4 wc HOB.out HN.out (fun u => u.ownsRow base3 3 1 (.slice a3 A.length k3) A.length (A.map (Value.int .i64)) ∧ u.ownsRow base5 3 1 (.slice a5 A.length k5) A.length (A.map (Value.int .i64)) ∧ S6 w.heap.size b p u ∧ Below w.heap.size w u) (fun g hg u u' hgr hQ => by
      have hg1 := HGB.out g hg
      have hl3 := HL3.out
      refine ⟨hQ.1.kept hgr ?_, hQ.2.1.kept hgr ?_, hQ.2.2.1.grown hgr (by omega), hQ.2.2.2.grown hgr hQ.2.2.2.size (fun x hx => by cases hx; omega)⟩
      · by_cases e : (Value.slice a3 A.length k3).ownBlock = none
        · exact .inl e
        · exact .inr fun e2 => by have := HX3.out g e2; omega
      · by_cases e : (Value.slice a5 A.length k5).ownBlock = none
        · exact .inl e
        · exact .inr fun e2 => by have := HG5.out g e2; omega) ⟨HO3.out, HO5.out, HS8.out, HB8.out⟩) ?_
    rintro e u9 ⟨m9, rfl, hm9, o3, o5, s9, b9⟩
    have HO39 : Hid (u9.ownsRow base3 3 1 (.slice a3 A.length k3) A.length (A.map (Value.int .i64))) := o3
    have HO59 : Hid (u9.ownsRow base5 3 1 (.slice a5 A.length k5) A.length (A.map (Value.int .i64))) := o5
    have HS9 : Hid (S6 w.heap.size b p u9) := s9
    have HB9 : Hid (Below w.heap.size w u9) := b9
    have hm9' : ¬ m9 < 0 := by omega
    clear d0 d1 d2 d3 d4 d5 o3 o5 s9 b9 HO3 HO5 HOB HY8 HS8 HB8 hm9
    go_wp2_with fail
    refine (eqIntS_any _ _ _ _ A A _ (ints_own HO59.out) (ints_own HO39.out) (by omega) (by omega)).mono ?_
    rintro e u10 ⟨rfl, b10⟩
    have HO310 : Hid (u10.ownsRow base3 3 1 (.slice a3 A.length k3) A.length (A.map (Value.int .i64))) := own_below HO39.out b10
    have HO510 : Hid (u10.ownsRow base5 3 1 (.slice a5 A.length k5) A.length (A.map (Value.int .i64))) := own_below HO59.out b10
    have HS10 : Hid (S6 w.heap.size b p u10) := HS9.out.below b10
    have HB10 : Hid (Below w.heap.size w u10) := next HB9.out b10
    rw [show decide (A = A) = true by simp]
    clear b10 HO39 HO59 HS9 HB9
    go_wp2_with fail
    refine (markIntS_any _ _ _ _ 1 _ _ HO510.out (by omega) (by omega) (by omega)).mono ?_
    rintro e u11 ⟨rfl, o11, gr11⟩
    have hl3 := HL3.out
    have hlv := HLV.out
    have HO311 : Hid (u11.ownsRow base3 3 1 (.slice a3 A.length k3) A.length (A.map (Value.int .i64))) := HO310.out.kept gr11 (by
      by_cases e : (Value.slice a3 A.length k3).ownBlock = none
      · exact .inl e
      · right
        intro e2
        obtain ⟨y, hy⟩ := Option.ne_none_iff_exists'.1 e
        have h1 := HX3.out y hy
        have h2 := HG5.out y (by rw [← e2]; exact hy)
        omega)
    have HB11 : Hid (Below w.heap.size w u11) := HB10.out.grown gr11 HB10.out.size (fun x hx => by have := HG5.out x hx; omega)
    have HS11 : Hid (S6 w.heap.size b p u11) := by
      have l := HS10.out.lt
      have hs : some w.heap.size ≠ (Value.slice a5 A.length k5).ownBlock := fun e => by have := HG5.out _ e.symm; omega
      obtain ⟨t0, t1, t2, t3, t4, t5⟩ := HS10.out
      exact ⟨(gr11.cell_far ⟨w.heap.size, 0, none⟩ l hs).trans t0, (gr11.cell_far ⟨w.heap.size, 1, none⟩ l hs).trans t1, (gr11.cell_far ⟨w.heap.size, 2, none⟩ l hs).trans t2, (gr11.cell_far ⟨w.heap.size, 3, none⟩ l hs).trans t3, (gr11.cell_far ⟨w.heap.size, 4, none⟩ l hs).trans t4, (gr11.cell_far ⟨w.heap.size, 5, none⟩ l hs).trans t5⟩
    have HM11 : Hid (IntsAt u11 a5 (cnt 1 A.length)) := ints_own o11
    clear gr11 o11 HO310 HO510 HS10 HB10 hl3 hlv
    go_wp2_with fail
    refine (heldIntS_any _ _ _ 1 _ HM11.out (by omega) (by omega) (by omega)).mono ?_
    rintro e u12 ⟨rfl, rfl⟩
    obtain ⟨c0, c1, c2, c3, c4, c5⟩ := HS11.out
    go_wp2_with fail
    refine Calls.mono (HTO.out _ HB11.out HN.out) ?_
    rintro e u13 ⟨q13, rfl, o13, b13⟩
    have HB13 : Hid (Below w.heap.size w u13) := next HB11.out b13
    have HF13 : Hid (BookAt u13 b q13) := o13.at
    have HO313 : Hid (u13.ownsRow base3 3 1 (.slice a3 A.length k3) A.length (A.map (Value.int .i64))) := own_below HO311.out b13
    have HM13 : Hid (IntsAt u13 a5 (cnt 1 A.length)) := HM11.out.below b13
    clear b13 o13 c0 c1 c2 c3 c4 c5 HB11 HO311 HM11 HS11
    go_wp2_with fail
    refine Calls.mono (HIA.out _ _ HF13.out HN.out) ?_
    rintro e u14 ⟨a14, k14, rfl, o14, b14⟩
    have HB14 : Hid (Below w.heap.size w u14) := next HB13.out b14
    have HO14 : Hid (u14.ownsRow u13.heap.size 3 1 (.slice a14 A.length k14) A.length (A.map (Value.int .i64))) := o14
    have HO314 : Hid (u14.ownsRow base3 3 1 (.slice a3 A.length k3) A.length (A.map (Value.int .i64))) := own_below HO313.out b14
    have HM14 : Hid (IntsAt u14 a5 (cnt 1 A.length)) := HM13.out.below b14
    clear b14 o14 HB13 HF13 HO313 HM13
    go_wp2_with fail
    refine (eqIntS_any _ _ _ _ A A _ (ints_own HO14.out) (ints_own HO314.out) (by omega) (by omega)).mono ?_
    rintro e u15 ⟨rfl, b15⟩
    have HB15 : Hid (Below w.heap.size w u15) := next HB14.out b15
    have HM15 : Hid (IntsAt u15 a5 (cnt 1 A.length)) := HM14.out.below b15
    rw [show decide (A = A) = true by simp]
    clear b15 HB14 HO14 HO314 HM14
    go_wp2_with fail
    refine (heldIntS_any _ _ _ 1 _ HM15.out (by omega) (by omega) (by omega)).mono ?_
    rintro e u16 ⟨rfl, rfl⟩
    go_wp2
    go_ret
    exact ⟨rfl, HB15.out⟩

set_option maxRecDepth 100000 in
theorem lifted (os : Os) (started : os.Started) (H : Type) (enc : TypeId × Value → H) :
    ReturnsInHanded {} Try.checked os 3 .any (Rows.fnExactBookOpenSpec.pre6 enc Try.prog Try.f3 Rows.fnExactBookOpenRow.domain false) (Rows.fnExactBookOpenSpec.post enc Try.prog Try.f3 false true false false) := by
  refine returnsInHanded_of_change (C := Try.checked) own started (by kernel_rfl) Try.func3
    (ChangeSpec.witness6 (enc := enc) (C := Try.checked) false ⟨#[], #[.agg #[.int .i64 0, .slice none 0 0, .slice none 0 0, .slice none 0 0, .slice none 0 0, .slice none 0 0]], []⟩ 8 (by kernel_rfl) (by kernel_rfl) (by kernel_rfl) (by kernel_rfl)) ?_
  intro W base args ds gs before hval0 hW hcnd _
  have hval : ∀ (j : Nat) t v, Try.f3.params[j]? = some t → args[j]? = some v → Value.okWide Try.prog W .any base t v := hval0
  have hW' := hW
  obtain ⟨p, q, hA0, hV, rfl, hfz, hnd⟩ := hW
  have hA : DataW.TrodAll enc Try.prog W 0 (fun _ => true) true Try.f3.params.toList args.toList ds p := hA0
  rw [Try.params3] at hA hval
  obtain ⟨v0, vs0, d0, ds0, p0, q0, hargs, rfl, rfl, h0, r0⟩ := trodAll_cons hA
  obtain ⟨rfl, rfl, rfl⟩ := trodAll_nil r0
  obtain rfl : args = #[v0] := by cases args; simp_all
  obtain ⟨rfl, rfl⟩ := trodVars_none hV
  have k0 := h0
  have lt0 : ∀ x ∈ p0, x.block < W.heap.size := by obtain ⟨m, hm⟩ := k0; exact DataW.trod_lt m _ _ _ hm
  obtain ⟨c0, bp0, rfl, w0⟩ := is_book Try.underlying30 (by kernel_rfl) rfl rfl rfl rfl rfl rfl (by kernel_rfl) (by kernel_rfl) (by kernel_rfl) (by kernel_rfl) (by kernel_rfl) (by kernel_rfl) Try.underlying3 (fun _ _ _ h => ints_open Try.underlying22 Try.underlying3 (by kernel_rfl) h) (fun _ _ _ h => auths_open Try.underlying23 Try.underlying86 (by kernel_rfl) rfl rfl rfl rfl rfl rfl (by kernel_rfl) (by kernel_rfl) (by kernel_rfl) (by kernel_rfl) (by kernel_rfl) (by kernel_rfl) Try.underlying9 Try.underlying3 Try.underlying3 Try.underlying3 Try.underlying3 Try.underlying4 h) (fun _ _ _ h => cases_open Try.underlying24 Try.underlying91 (by kernel_rfl) rfl rfl rfl rfl rfl rfl rfl rfl rfl rfl rfl rfl (by kernel_rfl) (by kernel_rfl) (by kernel_rfl) (by kernel_rfl) (by kernel_rfl) (by kernel_rfl) (by kernel_rfl) (by kernel_rfl) (by kernel_rfl) (by kernel_rfl) (by kernel_rfl) (by kernel_rfl) Try.underlying3 Try.underlying3 Try.underlying3 Try.underlying3 Try.underlying3 Try.underlying3 Try.underlying3 Try.underlying3 Try.underlying3 Try.underlying4 Try.underlying3 Try.underlying3 h) (fun _ _ _ h => ledger_open Try.underlying27 rfl (by kernel_rfl) Try.underlying25 Try.underlying117 (by kernel_rfl) rfl rfl rfl (by kernel_rfl) (by kernel_rfl) (by kernel_rfl) Try.underlying3 Try.underlying3 Try.underlying3 h) (fun _ _ _ h => txts_open Try.underlying28 Try.underlying9 (by kernel_rfl) h) (hval 0 30 v0 rfl rfl) h0
  clear hA0 hval0
  refine (walk c0 bp0 W w0).mono fun e W' ⟨he, bel⟩ => ?_
  subst he
  exact ⟨_, rfl, _, _, _, [], _, [], hW', trodAll_mk1 (shut_bool Try.underlying4 _), (trodAll_cons_mk (Below.trod laidOut (by kernel_rfl) (of_decide_eq_true (by kernel_rfl)) k0 bel lt0) trodAll_mk0), rfl, bel.frame _, fun h => by cases h⟩

theorem proved : Rows.FnExactBookOpenSaid :=
  OpenClaim.holds_of_wide 3 Try.f3 rfl rfl rfl rfl rfl rfl rfl ⟨rfl, rfl, rfl, rfl, rfl⟩ rfl rfl rfl rfl rfl (by kernel_rfl) Try.func3 (by kernel_rfl)
    (of_decide_eq_true (by kernel_rfl)) (by unfold Func.isWrapper; first | (rw [if_pos (by decide +kernel)]; kernel_rfl) | (rw [if_neg (by decide +kernel)]; exact ⟨rfl, rfl⟩))
    (fun os started H enc _ => lifted os started H enc)

end Go.Proofs.Ytlhdpbbgmjfbkaa.fnExactBookOpen
