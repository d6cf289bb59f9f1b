/- Proved: at every case and every number the program's Tell answers as the specification's, the message's kind, every field and whether it is told; its answer owns its memory, and a second call answers the same. What it takes: the library's table of powers of ten and the table of the states' texts hold what the program's text lays into them (the card ties that to the program). -/
import Derived.Test.YtlhdpbbgmjfbkaaDoorTellI
import Derived.Test.YtlhdpbbgmjfbkaaDoorTellS
import Derived.Test.YtlhdpbbgmjfbkaaDoorCLaw
namespace Go.Proofs.YtlhdpbbgmjfbkaaDoor.fnExactTell
open Go.ChangeShapes Go.WideShapes Go.ChangeAt Go.RowKit
set_option maxRecDepth 100000

theorem tabEq : (Rows.laid_internal_strconv_uint64pow10 : DataW Unit) = Lib.tabData .u64 Lib.pow10Tab := by kernel_rfl
theorem varTab {w : World} (h : laidMet Tryd.prog Rows.fnExactTellRow.laid w) : StateTab w := state_head h.tail.tail.tail
theorem pow10 {w : World} (h : laidMet Tryd.prog Rows.fnExactTellRow.laid w) : Mo.Pow10 w := by
  have h1 : laidMet Tryd.prog (("internal/strconv.uint64pow10", Rows.laid_internal_strconv_uint64pow10) :: [("loop.example/g00126/impl.stateTexts", Rows.laid_loop_example_g00126_impl_stateTexts)]) w := h.tail.tail
  rw [tabEq] at h1
  exact Lib.tabIs_of_head (g := 1) (t := 98) (by kernel_rfl) (by kernel_rfl) Tryd.underlying98 Tryd.underlying85 (by kernel_rfl) (by kernel_rfl) h1
theorem flds_any {w : World} {base n : Nat} {t : TypeId} {ao : Option Addr} {cap : Nat} {fs : List Fld} (h : w.ownsRow base t 2 (.slice ao fs.length cap) n (fcells fs)) : FldsAt w ao fs := by
  obtain ⟨ao', cap', hv, hf, _⟩ := flds_of_own' h
  obtain ⟨rfl, _⟩ : ao = ao' ∧ cap = cap' := by simpa using hv
  exact hf

structure B2 (g : Nat) (k : Int) (a : Option Addr) (n cp : Nat) (u : World) : Prop where
  c0 : u.cell? ⟨g, 0, none⟩ = some (.int .i64 k)
  c1 : u.cell? ⟨g, 1, none⟩ = some (.slice a n cp)
theorem B2.below {g : Nat} {k : Int} {a : Option Addr} {n cp : Nat} {u u' : World} (h : B2 g k a n cp u) (b : Below u.heap.size u u') : B2 g k a n cp u' :=
  have l := World.block_lt_of_cell? u _ h.c0
  ⟨(b.cell (p := ⟨g, 0, none⟩) l).trans h.c0, (b.cell (p := ⟨g, 1, none⟩) l).trans h.c1⟩
theorem B2.far {g : Nat} {k : Int} {a : Option Addr} {n cp : Nat} {u u' : World} {r : Option Nat} (h : B2 g k a n cp u) (b : u.grownBy u' r) (hne : some g ≠ r) : B2 g k a n cp u' :=
  have l := World.block_lt_of_cell? u _ h.c0
  ⟨(b.cell_far ⟨g, 0, none⟩ l hne).trans h.c0, (b.cell_far ⟨g, 1, none⟩ l hne).trans h.c1⟩

set_option maxHeartbeats 12800000 in
theorem walk (c : Cs) (n : Int) (w : World) (w0 : csBd c) (_w1 : (Lit.int .i64 n).wf = true) (hL : laidMet Tryd.prog Rows.fnExactTellRow.laid w) (_hsh : w.ShapedOpen Tryd.prog) :
    Calls Tryd.prog 3 #[cv c, .int .i64 n] w fun e w' => e = .returned (.bool true) ∧ Below w.heap.size w w' := by
  obtain ⟨W, hW⟩ : ∃ W, W = w.alloc (.cells #[.int .i64 c.iss, .int .i64 c.acq, .int .i64 c.cur, .int .i64 c.am, .int .i64 c.st, .int .i64 c.rsn, .int .i64 c.cl, .int .i64 c.bk, .int .i64 c.fee, .bool c.cop, .int .i64 c.sta, .int .i64 c.due] 23) := ⟨_, rfl⟩
  have bW : Below w.heap.size w W := by rw [hW]; exact (Below.refl _ _).alloc (Nat.le_refl _) _
  have hb0 : CB w.heap.size 0 c W := by rw [hW]; exact CB.new w c _
  have HT : Hid (StateTab w) := varTab hL
  have HP : Hid (Mo.Pow10 w) := pow10 hL
  have hcur : (Lit.int .i64 c.cur).wf = true := w0.2.2.1
  obtain ⟨K, hK⟩ : ∃ x, tellK c n = x := ⟨_, rfl⟩
  obtain ⟨L, hLL⟩ : ∃ x, tellL c n = x := ⟨_, rfl⟩
  obtain ⟨O, hO⟩ : ∃ x, tellOk c n = x := ⟨_, rfl⟩
  have hl : L.length ≤ 4 := by rw [← hLL]; exact tellL_len c n
  have HSA : Hid (∀ u, Below w.heap.size w u → Calls Tryd.prog 4 #[cv c, .int .i64 n] u (TeR u K L O)) := fun u h => by
    have := sTell_any c n u
    rwa [hK, hLL, hO] at this
  have HIA : Hid (∀ u, Below w.heap.size w u → Calls Tryd.prog 6 #[cv c, .int .i64 n] u (TeR u K L O)) := fun u h => by
    have := iTell_any c n u hcur (Mo.Pow10.below HP.out h) (StateTab.below HT.out h)
    rwa [hK, hLL, hO] at this
  have HTO : Hid (∀ u, Calls Tryd.prog 5 #[cv c] u fun e w' => e = .returned (cv c) ∧ Below u.heap.size u w') := fun u => toCase_any c u
  have HBW : Hid (Below w.heap.size w W) := bW
  have HCB : Hid (CB w.heap.size 0 c W) := hb0
  have HW : Hid _ := hW
  have HME : Hid (msgEq K L K L = true) := by simp [Hid, msgEq]
  have hOO : (O != O) = false := by simp
  clear hL hW bW hK hLL hO hcur w0
  obtain ⟨iss, acq, cur, am, st, rsn, cl, bk, fee, cop, sta, due⟩ := c
  unfold cv at HSA HIA HTO ⊢
  simp only at HW HSA HIA HTO ⊢
  obtain ⟨f0, f1, f2, f3, f4, f5, f6, f7, f8, f9, f10, f11⟩ := hb0
  simp only [Nat.zero_add] at f0 f1 f2 f3 f4 f5 f6 f7 f8 f9 f10 f11
  go_enter Tryd.func3, Tryd.ntmps3
  go_upto_region 1 with fail
  rw [← HW.out]
  clear HW
  go_wp2_with fail
  refine Calls.mono (HTO.out _) ?_
  rintro e u1 ⟨rfl, b1⟩
  have HB1 : Hid (Below w.heap.size w u1) := next HBW.out b1
  have HC1 : Hid _ := HCB.out.below b1
  clear f0 f1 f2 f3 f4 f5 f6 f7 f8 f9 f10 f11 b1 HBW HCB
  go_wp2_with fail
  refine Calls.mono (HSA.out _ HB1.out) ?_
  rintro e u2 ⟨a2, k2, rfl, o2, b2⟩
  obtain ⟨V2, hV2⟩ : ∃ V, V = u2.alloc (.cells #[.int .i64 K, .slice a2 L.length k2] 26) := ⟨_, rfl⟩
  have bV2 : Below u2.heap.size u2 V2 := by rw [hV2]; exact (Below.refl _ _).alloc (Nat.le_refl _) _
  have HX2 : Hid (B2 u2.heap.size K a2 L.length k2 V2) := by rw [Hid, hV2]; exact ⟨by simp, by simp⟩
  have b12 := next b2 bV2
  have HB2 : Hid (Below w.heap.size w V2) := next HB1.out b12
  have HC2 : Hid _ := HC1.out.below b12
  obtain ⟨base2, hb2⟩ : ∃ x, u1.heap.size = x := ⟨_, rfl⟩
  obtain ⟨X2, hX2⟩ : ∃ x, u2.heap.size = x := ⟨_, rfl⟩
  have HO2 : Hid (V2.ownsRow base2 43 2 (.slice a2 L.length k2) L.length (fcells L)) := by rw [Hid, ← hb2]; exact keepRow o2 bV2
  have HL2 : Hid (∀ x, (Value.slice a2 L.length k2).ownBlock = some x → x < X2) := fun x hx => by rw [← hX2]; exact (o2.lt x hx).2
  have HW2 : Hid (w.heap.size < base2 ∧ base2 ≤ X2 ∧ X2 < V2.heap.size) := by
    have h1 := World.block_lt_of_cell? u1 _ HC1.out.f0
    have h2 := World.block_lt_of_cell? V2 _ HX2.out.c0
    have h3 := b2.size
    rw [Hid, ← hb2, ← hX2]
    exact ⟨h1, h3, h2⟩
  have HV2 : Hid _ := hV2
  have HXE : Hid _ := hX2
  rw [hX2] at HX2
  clear b2 bV2 b12 o2 hV2 hb2 hX2 HB1 HC1
  go_upto_region 2 with fail
  rw [← HV2.out, HXE.out]
  clear HV2 HXE
  obtain ⟨f0, f1, f2, f3, f4, f5, f6, f7, f8, f9, f10, f11⟩ := HC2.out
  simp only [Nat.zero_add] at f0 f1 f2 f3 f4 f5 f6 f7 f8 f9 f10 f11
  go_wp2_with fail
  refine Calls.mono (HTO.out _) ?_
  rintro e u3 ⟨rfl, b3⟩
  have HB3 : Hid (Below w.heap.size w u3) := next HB2.out b3
  have HC3 : Hid _ := HC2.out.below b3
  have HX3 : Hid _ := HX2.out.below b3
  have HO3 : Hid (u3.ownsRow base2 43 2 (.slice a2 L.length k2) L.length (fcells L)) := keepRow HO2.out b3
  have HW3 : Hid (w.heap.size < base2 ∧ base2 ≤ X2 ∧ X2 < u3.heap.size) := by have h1 := HW2.out; have h2 := b3.size; rw [Hid]; omega
  clear f0 f1 f2 f3 f4 f5 f6 f7 f8 f9 f10 f11 b3 HB2 HC2 HX2 HO2 HW2
  go_wp2_with fail
  refine Calls.mono (HIA.out _ HB3.out) ?_
  rintro e u4 ⟨a4, k4, rfl, o4, b4⟩
  obtain ⟨V4, hV4⟩ : ∃ V, V = u4.alloc (.cells #[.int .i64 K, .slice a4 L.length k4] 26) := ⟨_, rfl⟩
  have bV4 : Below u4.heap.size u4 V4 := by rw [hV4]; exact (Below.refl _ _).alloc (Nat.le_refl _) _
  have HY4 : Hid (B2 u4.heap.size K a4 L.length k4 V4) := by rw [Hid, hV4]; exact ⟨by simp, by simp⟩
  have b34 := next b4 bV4
  have HB4 : Hid (Below w.heap.size w V4) := next HB3.out b34
  have HC4 : Hid _ := HC3.out.below b34
  have HX4 : Hid _ := HX3.out.below b34
  have HO4 : Hid (V4.ownsRow base2 43 2 (.slice a2 L.length k2) L.length (fcells L)) := keepRow HO3.out b34
  obtain ⟨base4, hb4⟩ : ∃ x, u3.heap.size = x := ⟨_, rfl⟩
  obtain ⟨X4, hX4⟩ : ∃ x, u4.heap.size = x := ⟨_, rfl⟩
  have HQ4 : Hid (V4.ownsRow base4 43 2 (.slice a4 L.length k4) L.length (fcells L)) := by rw [Hid, ← hb4]; exact keepRow o4 bV4
  have HG4 : Hid (∀ x, (Value.slice a4 L.length k4).ownBlock = some x → base4 ≤ x ∧ x < X4) := fun x hx => by rw [← hX4, ← hb4]; exact o4.lt x hx
  have HW4 : Hid (w.heap.size < base2 ∧ base2 ≤ X2 ∧ X2 < base4 ∧ base4 ≤ X4) := by
    have h1 := HW3.out
    have h3 := b4.size
    rw [Hid, ← hb4, ← hX4]
    exact ⟨h1.1, h1.2.1, h1.2.2, h3⟩
  have HV4 : Hid _ := hV4
  have HXE : Hid _ := hX4
  rw [hX4] at HY4
  clear b4 bV4 b34 o4 hV4 hb4 hX4 HB3 HC3 HX3 HO3 HW3
  go_upto_region 3 with fail
  rw [← HV4.out, HXE.out]
  clear HV4 HXE
  obtain ⟨x0, x1⟩ := HX4.out
  obtain ⟨y0, y1⟩ := HY4.out
  go_wp2_with fail
  refine (eqMessage_any _ _ _ _ _ _ _ _ _ (flds_any HQ4.out) (flds_any HO4.out) (by omega) (by omega)).mono ?_
  rintro e u5 ⟨rfl, b5⟩
  rw [HME.out]
  have HB5 : Hid (Below w.heap.size w u5) := next HB4.out b5
  have HC5 : Hid _ := HC4.out.below b5
  have HX5 : Hid _ := HX4.out.below b5
  have HY5 : Hid _ := HY4.out.below b5
  have HO5 : Hid (u5.ownsRow base2 43 2 (.slice a2 L.length k2) L.length (fcells L)) := keepRow HO4.out b5
  have HQ5 : Hid (u5.ownsRow base4 43 2 (.slice a4 L.length k4) L.length (fcells L)) := keepRow HQ4.out b5
  clear x0 x1 y0 y1 b5 HB4 HC4 HX4 HY4 HO4 HQ4
  obtain ⟨y0, y1⟩ := HY5.out
  go_wp2_with fail
  refine (markMessage_any K _ _ _ 1 _ _ HQ5.out (by omega) (by omega)).mono ?_
  rintro e u6 ⟨rfl, o6, gr6⟩
  have hw4 := HW4.out
  have hne : ∀ g, g < base4 ∨ X4 ≤ g → some g ≠ (Value.slice a4 L.length k4).ownBlock := fun g hg e => by have := HG4.out g e.symm; omega
  have HB6 : Hid (Below w.heap.size w u6) := HB5.out.grown gr6 HB5.out.size (fun x hx => by have := HG4.out x hx; omega)
  have HX6 : Hid _ := HX5.out.far gr6 (hne _ (.inl (by omega)))
  have HY6 : Hid _ := HY5.out.far gr6 (hne _ (.inr (Nat.le_refl _)))
  have HC6 : Hid (CB w.heap.size 0 ⟨iss, acq, cur, am, st, rsn, cl, bk, fee, cop, sta, due⟩ u6) := by
    have l := World.block_lt_of_cell? u5 _ HC5.out.f0
    have hs := hne w.heap.size (.inl (by omega))
    obtain ⟨t0, t1, t2, t3, t4, t5, t6, t7, t8, t9, t10, t11⟩ := HC5.out
    exact ⟨(gr6.cell_far ⟨w.heap.size, 0, none⟩ l hs).trans t0, (gr6.cell_far ⟨w.heap.size, 0 + 1, none⟩ l hs).trans t1, (gr6.cell_far ⟨w.heap.size, 0 + 2, none⟩ l hs).trans t2, (gr6.cell_far ⟨w.heap.size, 0 + 3, none⟩ l hs).trans t3, (gr6.cell_far ⟨w.heap.size, 0 + 4, none⟩ l hs).trans t4, (gr6.cell_far ⟨w.heap.size, 0 + 5, none⟩ l hs).trans t5, (gr6.cell_far ⟨w.heap.size, 0 + 6, none⟩ l hs).trans t6, (gr6.cell_far ⟨w.heap.size, 0 + 7, none⟩ l hs).trans t7, (gr6.cell_far ⟨w.heap.size, 0 + 8, none⟩ l hs).trans t8, (gr6.cell_far ⟨w.heap.size, 0 + 9, none⟩ l hs).trans t9, (gr6.cell_far ⟨w.heap.size, 0 + 10, none⟩ l hs).trans t10, (gr6.cell_far ⟨w.heap.size, 0 + 11, none⟩ l hs).trans t11⟩
  have HO6 : Hid (u6.ownsRow base2 43 2 (.slice a2 L.length k2) L.length (fcells L)) := World.ownsRow.kept HO5.out gr6 (by
    by_cases e : (Value.slice a2 L.length k2).ownBlock = none
    · exact .inl e
    · right
      obtain ⟨y, hy⟩ := Option.ne_none_iff_exists'.1 e
      rw [hy]
      exact hne y (.inl (by have := HL2.out y hy; omega)))
  have HM6 : Hid (FldsAt u6 a4 (mkF 1 L.length)) := by
    obtain ⟨ao, cap, hv, hf, -⟩ := flds_of_own' o6
    have e : ao = a4 := by simpa using (Value.slice.inj hv).1.symm
    rw [← e]; exact hf
  obtain ⟨m, hm⟩ : ∃ m, 1 + 2 * L.length = m := ⟨_, rfl⟩
  rw [hm]
  have HMM : Hid _ := hm
  clear y0 y1 gr6 o6 HB5 HC5 HX5 HY5 HO5 HQ5 hw4 hne hm
  obtain ⟨y0, y1⟩ := HY6.out
  go_wp2_with fail
  refine (heldMessage_any K _ _ _ 1 _ HM6.out (by omega) (by omega) (by omega)).mono ?_
  rintro e u7 ⟨rfl, b7⟩
  rw [HMM.out]
  have HB7 : Hid (Below w.heap.size w u7) := next HB6.out b7
  have HC7 : Hid _ := HC6.out.below b7
  have HX7 : Hid _ := HX6.out.below b7
  have HY7 : Hid _ := HY6.out.below b7
  have HO7 : Hid (u7.ownsRow base2 43 2 (.slice a2 L.length k2) L.length (fcells L)) := keepRow HO6.out b7
  have HM7 : Hid (FldsAt u7 a4 (mkF 1 L.length)) := HM6.out.below b7
  clear y0 y1 b7 HB6 HC6 HX6 HY6 HO6 HM6
  obtain ⟨f0, f1, f2, f3, f4, f5, f6, f7, f8, f9, f10, f11⟩ := HC7.out
  simp only [Nat.zero_add] at f0 f1 f2 f3 f4 f5 f6 f7 f8 f9 f10 f11
  go_wp2_with fail
  refine Calls.mono (HTO.out _) ?_
  rintro e u8 ⟨rfl, b8⟩
  have HB8 : Hid (Below w.heap.size w u8) := next HB7.out b8
  have HX8 : Hid _ := HX7.out.below b8
  have HY8 : Hid _ := HY7.out.below b8
  have HO8 : Hid (u8.ownsRow base2 43 2 (.slice a2 L.length k2) L.length (fcells L)) := keepRow HO7.out b8
  have HM8 : Hid (FldsAt u8 a4 (mkF 1 L.length)) := HM7.out.below b8
  clear f0 f1 f2 f3 f4 f5 f6 f7 f8 f9 f10 f11 b8 HB7 HC7 HX7 HY7 HO7 HM7
  go_wp2_with fail
  refine Calls.mono (HIA.out _ HB8.out) ?_
  rintro e u9 ⟨a9, k9, rfl, o9, b9⟩
  obtain ⟨V9, hV9⟩ : ∃ V, V = u9.alloc (.cells #[.int .i64 K, .slice a9 L.length k9] 26) := ⟨_, rfl⟩
  have bV9 : Below u9.heap.size u9 V9 := by rw [hV9]; exact (Below.refl _ _).alloc (Nat.le_refl _) _
  have HZ9 : Hid (B2 u9.heap.size K a9 L.length k9 V9) := by rw [Hid, hV9]; exact ⟨by simp, by simp⟩
  have b89 := next b9 bV9
  have HB9 : Hid (Below w.heap.size w V9) := next HB8.out b89
  have HX9 : Hid _ := HX8.out.below b89
  have HY9 : Hid _ := HY8.out.below b89
  have HF9 : Hid (FldsAt V9 a9 L) := (flds_any o9).below bV9
  have HG9 : Hid (FldsAt V9 a2 L) := (flds_any HO8.out).below b89
  have HM9 : Hid (FldsAt V9 a4 (mkF 1 L.length)) := HM8.out.below b89
  obtain ⟨X9, hX9⟩ : ∃ x, u9.heap.size = x := ⟨_, rfl⟩
  have HV9 : Hid _ := hV9
  have HXE : Hid _ := hX9
  rw [hX9] at HZ9
  clear b9 bV9 b89 o9 hV9 hX9 HB8 HX8 HY8 HO8 HM8
  go_upto_region 14 with fail
  rw [← HV9.out, HXE.out]
  clear HV9 HXE
  obtain ⟨x0, x1⟩ := HX9.out
  obtain ⟨z0, z1⟩ := HZ9.out
  go_wp2_with fail
  refine (eqMessage_any _ _ _ _ _ _ _ _ _ HF9.out HG9.out (by omega) (by omega)).mono ?_
  rintro e u10 ⟨rfl, b10⟩
  rw [HME.out]
  have HB10 : Hid (Below w.heap.size w u10) := next HB9.out b10
  have HY10 : Hid _ := HY9.out.below b10
  have HM10 : Hid (FldsAt u10 a4 (mkF 1 L.length)) := HM9.out.below b10
  clear x0 x1 z0 z1 b10 HB9 HX9 HY9 HZ9 HF9 HG9 HM9
  obtain ⟨y0, y1⟩ := HY10.out
  go_wp2_with fail
  refine (heldMessage_any K _ _ _ 1 _ HM10.out (by omega) (by omega) (by omega)).mono ?_
  rintro e u11 ⟨rfl, b11⟩
  rw [HMM.out]
  have HB11 : Hid (Below w.heap.size w u11) := next HB10.out b11
  clear y0 y1 b11
  go_wp2
  go_ret
  exact ⟨rfl, HB11.out⟩

set_option maxRecDepth 100000 in
theorem lifted (os : Os) (started : os.Started) (H : Type) (enc : TypeId × Value → H) (F : Stop.Interp) :
    ReturnsInHanded {} Tryd.checked os 3 .any ((OpenSpec.ofChange Rows.fnExactTellSpec).preRow enc Tryd.prog Tryd.f3 Rows.fnExactTellRow.domain false Rows.fnExactTellRow.laid)
      (((OpenSpec.ofChange Rows.fnExactTellSpec).at F).post enc Tryd.prog Tryd.f3 false true false false) := by
  refine returnsInHanded_of_row (C := Tryd.checked) (s := OpenSpec.ofChange Rows.fnExactTellSpec) own started (by kernel_rfl) Tryd.func3
    (ChangeSpec.witness_shaped (enc := enc) (C := Tryd.checked) (os := os) (X := fun w _ => laidMetH Tryd.prog Rows.fnExactTellRow.laid w) false (World.laidAll Tryd.prog os Rows.fnExactTellRow.laid) #[.agg #[.int .i64 0, .int .i64 0, .int .i64 0, .int .i64 0, .int .i64 0, .int .i64 0, .int .i64 0, .int .i64 0, .int .i64 0, .bool false, .int .i64 0, .int .i64 0], .int .i64 0] 8 (World.laidAll_os _ _ _)
      (World.shaped_of_ZipB (by kernel_rfl) (by kernel_rfl)) (by kernel_rfl) (by kernel_rfl) (by kernel_rfl)
      (by rw [MakeChecks.laidMetH_plain _ _ _ (by kernel_rfl)]; exact laidMet_laidAll _ (by kernel_rfl) (by kernel_rfl))) ?_
  intro W base args ds gs before hval0 hW _ _ _ hL hsh _
  have hval : ∀ (j : Nat) t v, Tryd.f3.params[j]? = some t → args[j]? = some v → Value.okWide Tryd.prog W .any base t v := hval0
  have hW' := hW
  obtain ⟨p, q, hA0, hV0, rfl, _, _⟩ := hW
  have hV : DataW.TrodVars enc Tryd.prog W (fun _ => true) ["loop.example/g00126/impl.stateTexts"] gs q := hV0
  have hA : DataW.TrodAll enc Tryd.prog W 0 (fun _ => true) true Tryd.f3.params.toList args.toList ds p := hA0
  rw [Tryd.params3] at hA hval
  obtain ⟨v0, vs0, d0, ds0, p0, q0, hargs, rfl, rfl, h0, r0⟩ := trodAll_cons hA
  obtain ⟨v1, vs1, d1, ds1, p1, q1, rfl, rfl, rfl, h1, r1⟩ := trodAll_cons r0
  obtain ⟨rfl, rfl, rfl⟩ := trodAll_nil r1
  obtain rfl : args = #[v0, v1] := by cases args; simp_all
  obtain ⟨gv, tv, cs, fv, dv, pv, rfl, hgv, htv, hvar, hdv, rfl⟩ := trodVars_one hV
  have k0 := h0
  have lt0 : ∀ x ∈ p0, x.block < W.heap.size := by obtain ⟨m, hm⟩ := k0; exact DataW.trod_lt m _ _ _ hm
  obtain ⟨c0, rfl, w0⟩ := is_case Tryd.underlying23 (by kernel_rfl) rfl rfl rfl rfl rfl rfl rfl rfl rfl rfl rfl rfl (by kernel_rfl) (by kernel_rfl) (by kernel_rfl) (by kernel_rfl) (by kernel_rfl) (by kernel_rfl) (by kernel_rfl) (by kernel_rfl) (by kernel_rfl) (by kernel_rfl) (by kernel_rfl) (by kernel_rfl) Tryd.underlying3 Tryd.underlying3 Tryd.underlying3 Tryd.underlying3 Tryd.underlying3 Tryd.underlying3 Tryd.underlying3 Tryd.underlying3 Tryd.underlying3 Tryd.underlying4 Tryd.underlying3 Tryd.underlying3 (hval 0 23 v0 rfl rfl) h0
  obtain ⟨a1, rfl, rfl, rfl, w1⟩ := open_int Tryd.underlying3 (hval 1 3 v1 rfl rfl) h1
  clear hA0 hval0
  rw [MakeChecks.laidMetH_plain _ _ _ (by kernel_rfl)] at hL
  have HM := varTab hL
  refine (walk c0 a1 W w0 w1 hL hsh).mono fun e W' ⟨he, bel⟩ => ?_
  subst he
  exact ⟨_, rfl, _, _, _, [], _, _, hW', trodAll_mk1 (shut_bool Tryd.underlying4 _), (trodAll_cons_mk (Below.trod laidOut (by kernel_rfl) (of_decide_eq_true (by kernel_rfl)) k0 bel lt0) (trodAll_cons_mk (shut_int Tryd.underlying3 w1) trodAll_mk0)), state_vars hgv htv hvar hdv HM bel, bel.frame _, fun h => by cases h⟩

theorem said : Rows.FnExactTellSaid :=
  OpenClaim.holds_of_cond 3 Tryd.f3 rfl rfl rfl rfl rfl rfl rfl ⟨rfl, rfl, rfl, rfl, rfl⟩ rfl rfl rfl rfl rfl (by kernel_rfl) Tryd.func3 (by kernel_rfl)
    (of_decide_eq_true (by kernel_rfl)) (by unfold Func.isWrapper; first | (rw [if_pos (by decide +kernel)]; kernel_rfl) | (rw [if_neg (by decide +kernel)]; exact ⟨rfl, rfl⟩))
    (fun os started H enc _ F => by rw [OpenClaim.pre_eq_preRow]; exact lifted os started H enc F)

theorem proved : Rows.FnExactTellCardSaid :=
  Claim7.holds_tied_plain_at .later [] _ _ _ _ said (fun _ h => by cases h) (by kernel_rfl) (fun _ h => by cases h) fnExactTell_row_tie rfl ⟨rfl, rfl⟩ (by kernel_rfl) rfl
    (fun f fn hf hfn => by
      obtain rfl : f = 3 := Option.some.inj ((show Tryd.prog.funcNamed "loop.example/g00126/laws.FnExactTell" = some 3 by kernel_rfl).symm.trans hf) |>.symm
      obtain rfl : fn = Tryd.f3 := (Option.some.inj (Tryd.func3.symm.trans hfn)).symm
      refine ⟨by kernel_rfl, fun j t ht => ?_⟩
      rw [Tryd.params3] at ht
      have hm : t ∈ [3, 23] := by have := Array.mem_of_getElem? ht; simp at this ⊢; first | exact this | exact this.symm | omega | (rcases this with h | h | h | h <;> simp [h])
      have hall : ([3, 23].all fun u => !Tryd.prog.wantsStandIn u) = true := by kernel_rfl
      have h1 := List.all_eq_true.1 hall t hm
      have h2 : Tryd.prog.wantsStandIn t = false := by simpa using h1
      exact h2)
    (by kernel_rfl)
end Go.Proofs.YtlhdpbbgmjfbkaaDoor.fnExactTell
