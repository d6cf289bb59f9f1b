/- BookDo of the specification, as BkDoS has it; besides: what it answers lies in new memory. -/
import Derived.Test.YtlonjjliochbhaaKE1BkDoS
namespace Go.Proofs.Ytlonjjliochbhaa
open Go.RowKit
set_option maxRecDepth 100000

structure FrB (q : Bp) (n : Nat) : Prop where
  o : Fresh q.o n
  a : Fresh q.a n
  c : Fresh q.c n
  l : Fresh q.l n
  g : Fresh q.g n
theorem fr_mono {a : Option Addr} {n m : Nat} (h : Fresh a n) (hm : m ≤ n) : Fresh a m := fun x hx => by have := h x hx; omega
theorem fr_part {a a1 : Option Addr} {n m : Nat} (h : a = a1 ∨ Fresh a n) (h1 : Fresh a1 m) (hm : m ≤ n) : Fresh a m := by
  rcases h with rfl | h
  · exact h1
  · exact fr_mono h hm
def BoF (Rel : Bk → List UInt8 → Bk × Int → Prop) (b : Bk) (line : List UInt8) (w : World) (e : Ending) (w' : World) : Prop :=
  ∃ r q, BkRel Rel b line r ∧ e = .returned (.tuple #[bkv r.1 q, .int .i64 r.2]) ∧ BookAt w' r.1 q ∧ Below w.heap.size w w' ∧ FrB q w.heap.size

set_option maxHeartbeats 12800000 in
theorem sBookDoF_any {Pre : Bk → Prop} {Rel : Bk → List UInt8 → Bk × Int → Prop} (D : DoKnown Pre Rel) (b : Bk) (p : Bp) (line : List UInt8) (w : World) (hx : BookAt w b p) (hp : Pre b) (hl : line.length ≤ 1048575) :
    Calls Try.prog 21 #[bkv b p, .string ⟨line.toArray⟩] w (BoF Rel b line w) := by
  have hn := D.small b hp
  have HPRE : Hid (Pre b) := hp
  clear hp
  have HX : Hid (∀ u, Below w.heap.size w u → BookAt u b p) := fun u h => hx.below h
  have HN : Hid (bkSm b) := hn
  have HCP : Hid (∀ u, Below w.heap.size w u → Calls Try.prog 26 #[bkv b p] u (CpR u b)) := fun u h => sBkCopy_any b p u (hx.below h) hn
  clear hx hn
  obtain ⟨td, fo, az, cs, ls, lg⟩ := b
  obtain ⟨o, oc, a, ac, c, cc, l, lc, g, gc⟩ := p
  unfold bkv at HCP ⊢
  simp only at HCP ⊢
  obtain ⟨u0, hu0⟩ : ∃ u, u = ((w.alloc (.cells #[.int .i64 td, .slice o fo.length oc, .slice a az.length ac, .slice c cs.length cc, .slice l ls.length lc, .slice g lg.length gc] 32))).alloc (.cells #[.int .i64 0, .slice none 0 0, .slice none 0 0, .slice none 0 0, .slice none 0 0, .slice none 0 0] 32) := ⟨_, rfl⟩
  have HB0 : Hid (Below w.heap.size w u0) := by rw [Hid, hu0]; go_grown
  have HS0 : Hid ((w.heap.size + 1) < u0.heap.size) := by rw [Hid, hu0]; simp
  have HZ0 : Hid (Z6 w.heap.size (.int .i64 td) (.slice o fo.length oc) (.slice a az.length ac) (.slice c cs.length cc) (.slice l ls.length lc) (.slice g lg.length gc) u0) := by
    rw [Hid, hu0]
    exact ((Z6.new w (.int .i64 td) (.slice o fo.length oc) (.slice a az.length ac) (.slice c cs.length cc) (.slice l ls.length lc) (.slice g lg.length gc) 32)).below ((Below.refl _ _).alloc (Nat.le_refl _) _)
  have HR0 : Hid (Z6 (w.heap.size + 1) (.int .i64 0) (.slice none 0 0) (.slice none 0 0) (.slice none 0 0) (.slice none 0 0) (.slice none 0 0) u0) := by
    have h := Z6.new ((w.alloc (.cells #[.int .i64 td, .slice o fo.length oc, .slice a az.length ac, .slice c cs.length cc, .slice l ls.length lc, .slice g lg.length gc] 32))) (.int .i64 0) (.slice none 0 0) (.slice none 0 0) (.slice none 0 0) (.slice none 0 0) (.slice none 0 0) 32
    rw [Hid, hu0]; simpa using h
  have HU0 : Hid _ := hu0
  clear hu0
  go_enter Try.func21, Try.ntmps21
  go_upto_region 1 with fail
  rw [← HU0.out]
  clear HU0
  have hcn : lg.length ≤ 1048576 := by have := HN.out.2.2.2.2; simpa using this
  obtain ⟨t0, t1, t2, t3, t4, t5, s0, s1, s2, s3, s4, s5⟩ := HZ0.out
  obtain ⟨q0, q1, q2, q3, q4, q5, p0, p1, p2, p3, p4, p5⟩ := HR0.out
  go_wp2_with fail
  refine Calls.mono (HCP.out _ HB0.out) ?_
  rintro e u1 ⟨⟨q1, base, rfl, hb1, ho1, hbs, hbz, hah, hfr⟩, b1⟩
  obtain ⟨o1, oc1, a1, ac1, c1, cc1, l1, lc1, g1, gc1⟩ := q1
  unfold bkv
  simp only at ho1 hah hfr ⊢
  have HZ1 : Hid _ := HZ0.out.below b1
  have HR1 : Hid _ := HR0.out.below b1
  have HB1 : Hid (Below w.heap.size w u1) := next HB0.out b1
  have HK1 : Hid (BookAt u1 ⟨td, fo, az, cs, ls, lg⟩ ⟨o1, oc1, a1, ac1, c1, cc1, l1, lc1, g1, gc1⟩) := hb1
  have HO1 : Hid (u1.ownsRow base 9 1 (.slice g1 lg.length gc1) lg.length (scells lg)) := ho1
  have hs0 := HS0.out
  have HOB : Hid (OffB ⟨o1, oc1, a1, ac1, c1, cc1, l1, lc1, g1, gc1⟩ w.heap.size) := ⟨fresh_off hfr.1 (by omega), fresh_off hfr.2.1 (by omega), fresh_off hfr.2.2.1 (by omega), fresh_off hfr.2.2.2.1 (by omega), fresh_off hfr.2.2.2.2 (by omega)⟩
  have HOR : Hid (OffB ⟨o1, oc1, a1, ac1, c1, cc1, l1, lc1, g1, gc1⟩ (w.heap.size + 1)) := ⟨fresh_off hfr.1 hs0, fresh_off hfr.2.1 hs0, fresh_off hfr.2.2.1 hs0, fresh_off hfr.2.2.2.1 hs0, fresh_off hfr.2.2.2.2 hs0⟩
  have HAH : Hid (Ahead o1 base ∧ Ahead a1 base ∧ Ahead c1 base ∧ Ahead l1 base) := hah
  have HFR : Hid (FrB ⟨o1, oc1, a1, ac1, c1, cc1, l1, lc1, g1, gc1⟩ w.heap.size) := ⟨fr_mono hfr.1 (by omega), fr_mono hfr.2.1 (by omega), fr_mono hfr.2.2.1 (by omega), fr_mono hfr.2.2.2.1 (by omega), fr_mono hfr.2.2.2.2 (by omega)⟩
  have HBS : Hid (w.heap.size + 1 < base ∧ base ≤ u1.heap.size) := ⟨by omega, hbz⟩
  clear t0 t1 t2 t3 t4 t5 s0 s1 s2 s3 s4 s5 q0 q1 q2 q3 q4 q5 p0 p1 p2 p3 p4 p5 HZ0 HR0 HB0 HS0 HCP b1 hb1 ho1 hah hfr hbs hbz hs0
  obtain ⟨t0, t1, t2, t3, t4, t5, s0, s1, s2, s3, s4, s5⟩ := HZ1.out
  obtain ⟨q0, q1, q2, q3, q4, q5, p0, p1, p2, p3, p4, p5⟩ := HR1.out
  go_upto_region 2 with fail
  obtain ⟨u2, hu2⟩ : ∃ u, u = (((((u1.setCell ⟨w.heap.size, 0, none⟩ (.int .i64 td)).setCell ⟨w.heap.size, 1, none⟩ (.slice o1 fo.length oc1)).setCell ⟨w.heap.size, 2, none⟩ (.slice a1 az.length ac1)).setCell ⟨w.heap.size, 3, none⟩ (.slice c1 cs.length cc1)).setCell ⟨w.heap.size, 4, none⟩ (.slice l1 ls.length lc1)).setCell ⟨w.heap.size, 5, none⟩ (.slice g1 lg.length gc1) := ⟨_, rfl⟩
  have HZ2 : Hid (Z6 w.heap.size (.int .i64 td) (.slice o1 fo.length oc1) (.slice a1 az.length ac1) (.slice c1 cs.length cc1) (.slice l1 ls.length lc1) (.slice g1 lg.length gc1) u2) := by rw [Hid, hu2]; exact HZ1.out.put6 _ _ _ _ _ _
  have HR2 : Hid (Z6 (w.heap.size + 1) (.int .i64 0) (.slice none 0 0) (.slice none 0 0) (.slice none 0 0) (.slice none 0 0) (.slice none 0 0) u2) := by rw [Hid, hu2]; exact HR1.out.far6 (by omega) _ _ _ _ _ _
  have HB2 : Hid (Below w.heap.size w u2) := by rw [Hid, hu2]; exact put6_below (Nat.le_refl _) HB1.out _ _ _ _ _ _
  have HK2 : Hid (BookAt u2 ⟨td, fo, az, cs, ls, lg⟩ ⟨o1, oc1, a1, ac1, c1, cc1, l1, lc1, g1, gc1⟩) := by rw [Hid, hu2]; exact HK1.out.put6 HOB.out _ _ _ _ _ _
  have HO2 : Hid (u2.ownsRow base 9 1 (.slice g1 lg.length gc1) lg.length (scells lg)) := by rw [Hid, hu2]; exact put6_row HO1.out (by have := HBS.out; omega) _ _ _ _ _ _
  have HB2S : Hid (w.heap.size + 1 < base ∧ base ≤ u2.heap.size) := by rw [Hid, hu2]; simpa using HBS.out
  rw [← hu2]
  clear hu2 HZ1 HR1 HB1 HK1 HO1 HBS t0 t1 t2 t3 t4 t5 s0 s1 s2 s3 s4 s5 q0 q1 q2 q3 q4 q5 p0 p1 p2 p3 p4 p5
  obtain ⟨t0, t1, t2, t3, t4, t5, s0, s1, s2, s3, s4, s5⟩ := HZ2.out
  obtain ⟨q0, q1, q2, q3, q4, q5, p0, p1, p2, p3, p4, p5⟩ := HR2.out
  by_cases hfull : 600 ≤ lg.length
  · have hf' : (600 : Int) ≤ (lg.length : Int) := by omega
    go_wp2
    refine bodyPost_ret (by simp [results, Try.results21, go_sem, q0, q1, q2, q3, q4, q5]; try rfl) rfl ?_
    exact ⟨(⟨td, fo, az, cs, ls, lg⟩, 2), ⟨o1, oc1, a1, ac1, c1, cc1, l1, lc1, g1, gc1⟩, .inl ⟨hfull, rfl⟩, rfl, HK2.out.put6 HOR.out _ _ _ _ _ _, put6_below (by omega) HB2.out _ _ _ _ _ _, HFR.out⟩
  have hf' : ¬ (600 : Int) ≤ (lg.length : Int) := by omega
  have HAB : AhB ⟨o1, oc1, a1, ac1, c1, cc1, l1, lc1, g1, gc1⟩ u2.heap.size := ⟨HAH.out.1.mono HB2S.out.2, HAH.out.2.1.mono HB2S.out.2, HAH.out.2.2.1.mono HB2S.out.2, HAH.out.2.2.2.mono HB2S.out.2, own_ahead HO2.out (Nat.le_refl _)⟩
  have HD : Hid _ := D.calls ⟨td, fo, az, cs, ls, lg⟩ ⟨o1, oc1, a1, ac1, c1, cc1, l1, lc1, g1, gc1⟩ line u2 HK2.out HAB HPRE.out hl
  clear HAB
  have HLOG : Hid _ := D.log ⟨td, fo, az, cs, ls, lg⟩ line
  unfold bkv at HD
  simp only at HD
  go_wp2_with fail
  refine Calls.mono HD.out ?_
  rintro e u3 ⟨⟨⟨td2, fo2, az2, cs2, ls2, lg2⟩, code⟩, hrel, q2, rfl, hb3, hg3, hgc3, hpt, b3⟩
  obtain ⟨o2, oc2, a2, ac2, c2, cc2, l2, lc2, g2, gc2⟩ := q2
  simp only at hg3 hgc3 hpt hrel hb3
  obtain rfl : lg2 = lg := HLOG.out _ hrel
  subst hg3
  subst hgc3
  unfold bkv
  simp only
  have HREL : Hid _ := hrel
  have HK3 : Hid _ := hb3
  have HPT : Hid _ := hpt
  obtain ⟨V, hV⟩ : ∃ V, V = u3.alloc (.cells #[.int .i64 td2, .slice o2 fo2.length oc2, .slice a2 az2.length ac2, .slice c2 cs2.length cc2, .slice l2 ls2.length lc2, .slice g2 lg2.length gc2] 32) := ⟨_, rfl⟩
  have bV : Below u3.heap.size u3 V := by rw [hV]; exact (Below.refl _ _).alloc (Nat.le_refl _) _
  have HT : Hid (Z6 u3.heap.size (.int .i64 td2) (.slice o2 fo2.length oc2) (.slice a2 az2.length ac2) (.slice c2 cs2.length cc2) (.slice l2 ls2.length lc2) (.slice g2 lg2.length gc2) V) := by rw [Hid, hV]; exact Z6.new u3 (.int .i64 td2) (.slice o2 fo2.length oc2) (.slice a2 az2.length ac2) (.slice c2 cs2.length cc2) (.slice l2 ls2.length lc2) (.slice g2 lg2.length gc2) 32
  have HTO : Hid (∃ cur, V.heap[u3.heap.size]? = some (.cells cur 32)) := by rw [Hid, hV]; exact ⟨_, heap_alloc_new u3 _⟩
  have b23 := next b3 bV
  have HZ3 : Hid (Z6 w.heap.size (.int .i64 td) (.slice o1 fo.length oc1) (.slice a1 az.length ac1) (.slice c1 cs.length cc1) (.slice l1 ls.length lc1) (.slice g2 lg2.length gc2) V) := HZ2.out.below b23
  have HR3 : Hid (Z6 (w.heap.size + 1) (.int .i64 0) (.slice none 0 0) (.slice none 0 0) (.slice none 0 0) (.slice none 0 0) (.slice none 0 0) V) := HR2.out.below b23
  have HB3 : Hid (Below w.heap.size w V) := next HB2.out b23
  have HKB : Hid (BookAt V ⟨td, fo, az, cs, ls, lg2⟩ ⟨o1, oc1, a1, ac1, c1, cc1, l1, lc1, g2, gc2⟩) := HK2.out.below b23
  have HO3 : Hid (V.ownsRow base 9 1 (.slice g2 lg2.length gc2) lg2.length (scells lg2)) := keepL HO2.out b23
  have HLB : Hid (∀ B, (Value.slice g2 lg2.length gc2).ownBlock = some B → base ≤ B ∧ B < u2.heap.size) := fun B h => HO2.out.lt B h
  have HG3 : Hid (∀ row, u3.grownBy V row) := fun row => by rw [hV]; exact World.grownBy_alloc u3 _ row
  have HS3 : Hid (w.heap.size + 1 < base ∧ base ≤ u2.heap.size ∧ u2.heap.size ≤ u3.heap.size ∧ u3.heap.size < V.heap.size) := ⟨HB2S.out.1, HB2S.out.2, b3.size, HT.out.lt⟩
  have HV : Hid _ := hV
  clear hV bV b3 b23 hb3 hpt hrel HZ2 HR2 HB2 HK2 HO2 HB2S HD t0 t1 t2 t3 t4 t5 s0 s1 s2 s3 s4 s5 q0 q1 q2 q3 q4 q5 p0 p1 p2 p3 p4 p5
  go_upto_region 5 with fail
  rw [← HV.out]
  clear HV
  by_cases hcode : code = 0
  case neg =>
    have hcb : (code != 0) = true := by simpa using hcode
    obtain ⟨t0, t1, t2, t3, t4, t5, s0, s1, s2, s3, s4, s5⟩ := HZ3.out
    obtain ⟨q0, q1, q2, q3, q4, q5, p0, p1, p2, p3, p4, p5⟩ := HR3.out
    go_wp2
    refine bodyPost_ret (by simp [results, Try.results21, go_sem, q0, q1, q2, q3, q4, q5]; try rfl) rfl ?_
    exact ⟨(⟨td, fo, az, cs, ls, lg2⟩, code), ⟨o1, oc1, a1, ac1, c1, cc1, l1, lc1, g2, gc2⟩, .inr ⟨by show lg2.length < 600; omega, _, HREL.out, .inl ⟨hcode, rfl⟩⟩, rfl, HKB.out.put6 HOR.out _ _ _ _ _ _, put6_below (by omega) HB3.out _ _ _ _ _ _, HFR.out⟩
  subst hcode
  obtain ⟨i0, hi, hz0, hz1, hz2⟩ := info_parts infoS
  have t5 := (HT.out.below ((Below.refl _ _).alloc (Nat.le_refl _) (.cells #[.string ⟨line.toArray⟩] 9))).c5
  have t5' := HT.out.c5
  obtain ⟨LL, hLL⟩ : ∃ L, lg2 ++ [line] = L := ⟨_, rfl⟩
  have HEQ : Hid (lg2 ++ [line] = LL) := hLL
  clear hLL
  have HP : Hid (∀ v5 w5, w5.ownsRow base 9 1 v5 (lg2.length + 1) (scells lg2 ++ [.string ⟨line.toArray⟩]) → (V.alloc (.cells #[.string ⟨line.toArray⟩] 9)).grownBy w5 (Value.slice g2 lg2.length gc2).ownBlock →
      ∃ a5 k5, v5 = .slice a5 LL.length k5 ∧ w5.ownsRow base 9 1 (.slice a5 LL.length k5) LL.length (scells LL) ∧ Z6 u3.heap.size (.int .i64 td2) (.slice o2 fo2.length oc2) (.slice a2 az2.length ac2) (.slice c2 cs2.length cc2) (.slice l2 ls2.length lc2) (.slice g2 lg2.length gc2) w5 ∧ Z6 (w.heap.size + 1) (.int .i64 0) (.slice none 0 0) (.slice none 0 0) (.slice none 0 0) (.slice none 0 0) (.slice none 0 0) w5 ∧ u3.grownBy w5 (Value.slice g2 lg2.length gc2).ownBlock ∧ Below w.heap.size w w5 ∧ Off1 a5 u3.heap.size) := by
    intro v5 w5 o5 g5
    have hs3 := HS3.out
    have hne : some u3.heap.size ≠ (Value.slice g2 lg2.length gc2).ownBlock := fun e => by have := HLB.out _ e.symm; omega
    have hneR : some (w.heap.size + 1) ≠ (Value.slice g2 lg2.length gc2).ownBlock := fun e => by have := HLB.out _ e.symm; omega
    have ga := World.grownBy_alloc V (.cells #[.string ⟨line.toArray⟩] 9) (Value.slice g2 lg2.length gc2).ownBlock
    have gv := ga.trans g5
    have e1 : lg2.length + 1 = LL.length := by rw [← HEQ.out]; simp
    have e2 : scells lg2 ++ [.string ⟨line.toArray⟩] = scells LL := by rw [← HEQ.out, scells_append]; rfl
    rw [e1, e2] at o5
    obtain ⟨a5, k5, hv⟩ := any_shape o5
    subst hv
    refine ⟨a5, k5, rfl, o5, HT.out.grown gv hne, HR3.out.grown gv hneR, (HG3.out _).trans gv, HB3.out.grown gv HB3.out.size (fun B hB => by have := HLB.out B hB; omega), ?_⟩
    intro x hx e
    subst hx
    obtain ⟨cur, hcur⟩ := HTO.out
    have hT : w5.heap[u3.heap.size]? = some (.cells cur 32) := (gv.block _ hs3.2.2.2 hne).trans hcur
    rcases o5.2 with ⟨h, _⟩ | ⟨g, cap, cr, h, _, hg, _⟩
    · cases h
    · have hxg : x.block = g := by
        injection h with h _ _
        injection h with h
        rw [h]
      rw [← hxg, e, hT] at hg
      injection hg with hg
      injection hg with _ h2
      exact absurd h2 (by decide)
  have HOA : Hid ((V.alloc (.cells #[.string ⟨line.toArray⟩] 9)).ownsRow base 9 1 (.slice g2 lg2.length gc2) lg2.length (scells lg2)) := HO3.out.alloc _
  go_upto_region 8 with (at_builtin; refine wpList_append_own _ rfl (.tmp 26) (.tmp 28) 30 rfl base 9 i0 (.string ⟨#[]⟩) 1 16 Try.underlying30 hi hz0 hz1 hz2 rfl (by decide) _ _ _ rfl HOA.out ⟨V.heap.size, 0, none⟩ 1 1 [.string ⟨line.toArray⟩] rfl rfl (World.news_of_block (heap_alloc_new V _)) (one_oneS _) (by unfold maxLen; omega) (by omega) (by have := HS3.out; simp; omega) ?_; intro v5 w5 o5 g5 _; obtain ⟨a5, k5, hv5, o6, zt, zr, gg, bb, hoff⟩ := HP.out v5 w5 o5 g5; subst hv5; have y5 := zt.c5; have f5 := zt.z5; have HO6 : Hid _ := o6; have HZT : Hid _ := zt; have HZR : Hid _ := zr; have HGG : Hid _ := gg; have HBB : Hid _ := bb; have HOF : Hid _ := hoff; clear o5 g5 o6 zt zr gg bb hoff)
  obtain ⟨u6, hu6⟩ : ∃ u, u = w5.setCell ⟨u3.heap.size, 5, none⟩ (.slice a5 LL.length k5) := ⟨_, rfl⟩
  have hs3 := HS3.out
  have HT6 : Hid (Z6 u3.heap.size (.int .i64 td2) (.slice o2 fo2.length oc2) (.slice a2 az2.length ac2) (.slice c2 cs2.length cc2) (.slice l2 ls2.length lc2) (.slice a5 LL.length k5) u6) := by rw [Hid, hu6]; exact HZT.out.set5 _
  have HR6 : Hid (Z6 (w.heap.size + 1) (.int .i64 0) (.slice none 0 0) (.slice none 0 0) (.slice none 0 0) (.slice none 0 0) (.slice none 0 0) u6) := by rw [Hid, hu6]; exact HZR.out.far (by omega)
  have HB6 : Hid (Below w.heap.size w u6) := by rw [Hid, hu6]; exact HBB.out.setCell (show w.heap.size ≤ u3.heap.size by omega) _
  have HG6 : Hid (u3.grownBy u6 (Value.slice g2 lg2.length gc2).ownBlock) := by rw [Hid, hu6]; exact grown_setB HGG.out (Nat.le_refl _)
  have HL6 : Hid (u6.ownsRow base 9 1 (.slice a5 LL.length k5) LL.length (scells LL)) := by
    rw [Hid, hu6]
    refine World.ownsRow.kept HO6.out (set_grown _ _ _ _) ?_
    by_cases e : (Value.slice a5 LL.length k5).ownBlock = none
    · exact .inl e
    · refine .inr fun e2 => ?_
      cases a5 with
      | none => simp [Value.ownBlock] at e
      | some x =>
        have hx : x.block = u3.heap.size := by simpa [Value.ownBlock] using e2
        exact HOF.out x rfl hx
  rw [← hu6]
  clear hu6 HZT HZR HBB HGG HO6 HOF HOA HP y5 f5 t5 t5' HT HTO HZ3 HR3 HB3 HKB HO3
  obtain ⟨t0, t1, t2, t3, t4, t5, -, -, -, -, -, -⟩ := HT6.out
  obtain ⟨q0, q1, q2, q3, q4, q5, p0, p1, p2, p3, p4, p5⟩ := HR6.out
  go_wp2
  refine bodyPost_ret (by simp [results, Try.results21, go_sem, q0, q1, q2, q3, q4, q5]; try rfl) rfl ?_
  obtain ⟨pe, pa, pc, pl⟩ := HPT.out
  have hK := HK3.out
  have hah := HAH.out
  have hor := HOR.out
  have hgg := HG6.out
  have hlb := HLB.out
  have HF : BookAt u6 ⟨td2, fo2, az2, cs2, ls2, LL⟩ ⟨o2, oc2, a2, ac2, c2, cc2, l2, lc2, a5, k5⟩ :=
    ⟨hK.off.far hgg (fun B e => part_off (.inl pe) hah.1 (hlb B e).1 (hlb B e).2), hK.az.far hgg (fun B e => part_off pa hah.2.1 (hlb B e).1 (hlb B e).2), hK.cs.far hgg (fun B e => part_off pc hah.2.2.1 (hlb B e).1 (hlb B e).2), hK.ls.far hgg (fun B e => part_off pl hah.2.2.2 (hlb B e).1 (hlb B e).2), txts_any HL6.out⟩
  have HQ : OffB ⟨o2, oc2, a2, ac2, c2, cc2, l2, lc2, a5, k5⟩ (w.heap.size + 1) :=
    ⟨part_off2 (n := u2.heap.size) (.inl pe) hor.o (by omega), part_off2 pa hor.a (by omega), part_off2 pc hor.c (by omega), part_off2 pl hor.l (by omega), fresh_off (own_fresh HL6.out) (by omega)⟩
  refine ⟨(⟨td2, fo2, az2, cs2, ls2, LL⟩, 0), ⟨o2, oc2, a2, ac2, c2, cc2, l2, lc2, a5, k5⟩, .inr ⟨by show lg2.length < 600; omega, _, HREL.out, .inr ⟨rfl, by rw [← HEQ.out]⟩⟩, rfl, HF.put6 HQ _ _ _ _ _ _, put6_below (by omega) HB6.out _ _ _ _ _ _, ?_⟩
  have hfr := HFR.out
  exact ⟨pe ▸ hfr.o, fr_part pa hfr.a (by omega), fr_part pc hfr.c (by omega), fr_part pl hfr.l (by omega), fr_mono (own_fresh HL6.out) (by omega)⟩

end Go.Proofs.Ytlonjjliochbhaa
