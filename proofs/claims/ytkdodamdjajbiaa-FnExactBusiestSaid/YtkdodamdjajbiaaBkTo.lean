/- The contract of the laws' own copy of a book. -/
import Derived.Test.YtkdodamdjajbiaaBkCpy
namespace Go.Proofs.Ytkdodamdjajbiaa
open Go.RowKit
set_option maxRecDepth 100000

theorem S6.under {s B : Nat} {b : Bk} {p : Bp} {u u' : World} (h : S6 s b p u) (hb : Below B u u') (l : s < B) : S6 s b p u' :=
  ⟨(hb.cell (p := ⟨s, 0, none⟩) l).trans h.c0, (hb.cell (p := ⟨s, 1, none⟩) l).trans h.c1, (hb.cell (p := ⟨s, 2, none⟩) l).trans h.c2, (hb.cell (p := ⟨s, 3, none⟩) l).trans h.c3, (hb.cell (p := ⟨s, 4, none⟩) l).trans h.c4, (hb.cell (p := ⟨s, 5, none⟩) l).trans h.c5⟩
theorem Z6.under {s B : Nat} {v0 v1 v2 v3 v4 v5 : Value} {u u' : World} (h : Z6 s v0 v1 v2 v3 v4 v5 u) (hb : Below B u u') (l : s < B) : Z6 s v0 v1 v2 v3 v4 v5 u' :=
  ⟨(hb.cell (p := ⟨s, 0, none⟩) l).trans h.c0, (hb.cell (p := ⟨s, 1, none⟩) l).trans h.c1, (hb.cell (p := ⟨s, 2, none⟩) l).trans h.c2, (hb.cell (p := ⟨s, 3, none⟩) l).trans h.c3, (hb.cell (p := ⟨s, 4, none⟩) l).trans h.c4, (hb.cell (p := ⟨s, 5, none⟩) l).trans h.c5, (hb.frozen (p := ⟨s, 0, none⟩) l).trans h.z0, (hb.frozen (p := ⟨s, 1, none⟩) l).trans h.z1, (hb.frozen (p := ⟨s, 2, none⟩) l).trans h.z2, (hb.frozen (p := ⟨s, 3, none⟩) l).trans h.z3, (hb.frozen (p := ⟨s, 4, none⟩) l).trans h.z4, (hb.frozen (p := ⟨s, 5, none⟩) l).trans h.z5⟩
theorem bel_b (u : World) (h i : Nat) (x : Value) : Below h u (u.setCell ⟨h, i, none⟩ x) := Below.setCell (p := ⟨h, i, none⟩) (Below.refl h u) (Nat.le_refl h) x
theorem row_far {u : World} {base n size B i : Nat} {t : TypeId} {v x : Value} {xs : List Value} (o : u.ownsRow base t size v n xs) (hB : B < base) : (u.setCell ⟨B, i, none⟩ x).ownsRow base t size v n xs :=
  o.kept (row := some B) ⟨rfl, rfl, rfl, by simp, fun j _ hj => Below.heap_setCell _ _ _ _ (fun e => hj (by rw [e]))⟩ (.inr fun h => by have := (o.lt _ h).1; omega)

set_option maxHeartbeats 12800000 in
theorem toBook_any (b : Bk) (p : Bp) (w : World) (hx : BookAt w b p) (hn : bkSm b) :
    Calls Try.prog 11 #[bkv b p] w fun e w' => ∃ q, e = .returned (bkv b q) ∧ OwnBk w.heap.size b q w' ∧ Below w.heap.size w w' := by
  obtain ⟨W, hW⟩ : ∃ W, W = ((w.alloc (.cells #[.int .i64 b.today, .slice p.o b.off.length p.oc, .slice p.a b.az.length p.ac, .slice p.c b.cs.length p.cc, .slice p.l b.ls.length p.lc, .slice p.g b.log.length p.gc] 30)).alloc (.cells #[.int .i64 0, .slice none 0 0, .slice none 0 0, .slice none 0 0, .slice none 0 0, .slice none 0 0] 39)).alloc (.cells #[.int .i64 0, .slice none 0 0, .slice none 0 0, .slice none 0 0, .slice none 0 0, .slice none 0 0] 39) := ⟨_, rfl⟩
  have bW : Below w.heap.size w W := by rw [hW]; go_grown
  have hWs : W.heap.size = w.heap.size + 3 := by rw [hW]; simp
  have pb : ∀ (u : World) (o : Obj), Below u.heap.size u (u.alloc o) := fun u o => (Below.refl _ _).alloc (Nat.le_refl _) _
  have s1 : S6 w.heap.size b p W := by rw [hW]; exact ((S6.new w b p _).below (pb _ _)).below (pb _ _)
  have s2 : Z6 (w.heap.size + 1) (.int .i64 0) (.slice none 0 0) (.slice none 0 0) (.slice none 0 0) (.slice none 0 0) (.slice none 0 0) W := by
    rw [hW]
    have h := (Z6.new (w.alloc (.cells #[.int .i64 b.today, .slice p.o b.off.length p.oc, .slice p.a b.az.length p.ac, .slice p.c b.cs.length p.cc, .slice p.l b.ls.length p.lc, .slice p.g b.log.length p.gc] 30)) (.int .i64 0) (.slice none 0 0) (.slice none 0 0) (.slice none 0 0) (.slice none 0 0) (.slice none 0 0) 39).below (pb _ (.cells #[.int .i64 0, .slice none 0 0, .slice none 0 0, .slice none 0 0, .slice none 0 0, .slice none 0 0] 39))
    simpa only [World.size_alloc] using h
  have s3 : Z6 (w.heap.size + 1 + 1) (.int .i64 0) (.slice none 0 0) (.slice none 0 0) (.slice none 0 0) (.slice none 0 0) (.slice none 0 0) W := by
    rw [hW]
    have h := Z6.new ((w.alloc (.cells #[.int .i64 b.today, .slice p.o b.off.length p.oc, .slice p.a b.az.length p.ac, .slice p.c b.cs.length p.cc, .slice p.l b.ls.length p.lc, .slice p.g b.log.length p.gc] 30)).alloc (.cells #[.int .i64 0, .slice none 0 0, .slice none 0 0, .slice none 0 0, .slice none 0 0, .slice none 0 0] 39)) (.int .i64 0) (.slice none 0 0) (.slice none 0 0) (.slice none 0 0) (.slice none 0 0) (.slice none 0 0) 39
    simpa only [World.size_alloc] using h
  have HW : Hid _ := hW
  have HX : Hid (BookAt w b p) := hx
  have HBA : Hid (Below w.heap.size w W) := bW
  have HSA : Hid (S6 w.heap.size b p W) := s1
  have HZA : Hid (Z6 (w.heap.size + 1) (.int .i64 0) (.slice none 0 0) (.slice none 0 0) (.slice none 0 0) (.slice none 0 0) (.slice none 0 0) W) := s2
  have HTA : Hid (Z6 (w.heap.size + 1 + 1) (.int .i64 0) (.slice none 0 0) (.slice none 0 0) (.slice none 0 0) (.slice none 0 0) (.slice none 0 0) W) := s3
  have HGA : Hid (w.heap.size + 3 ≤ W.heap.size) := by rw [Hid, hWs]; exact Nat.le_refl _
  have HN : Hid (bkSm b) := hn
  clear hx bW hW s1 s2 s3 hWs pb hn
  obtain ⟨td, fo, az, cs, ls, lg⟩ := b
  obtain ⟨o, oc, a, ac, c, cc, l, lc, g, gc⟩ := p
  unfold bkv
  simp only at HW ⊢
  have f0 := HSA.out.c0
  have t0 := HTA.out.c0
  have y0 := HTA.out.z0
  simp only at f0
  go_enter Try.func11, Try.ntmps11
  go_upto_region 2 with fail
  rw [← HW.out]
  clear HW
  go_upto_region 3 with fail
  have bs : Below (w.heap.size + 1 + 1) W (W.setCell ⟨w.heap.size + 1 + 1, 0, none⟩ (.int .i64 td)) := bel_b _ _ _ _
  have HBB : Hid (Below w.heap.size w (W.setCell ⟨w.heap.size + 1 + 1, 0, none⟩ (.int .i64 td))) := HBA.out.setCell (show w.heap.size ≤ w.heap.size + 1 + 1 by omega) _
  have HSB : Hid (S6 w.heap.size ⟨td, fo, az, cs, ls, lg⟩ ⟨o, oc, a, ac, c, cc, l, lc, g, gc⟩ (W.setCell ⟨w.heap.size + 1 + 1, 0, none⟩ (.int .i64 td))) := HSA.out.under bs (by omega)
  have HZB : Hid (Z6 (w.heap.size + 1) (.int .i64 0) (.slice none 0 0) (.slice none 0 0) (.slice none 0 0) (.slice none 0 0) (.slice none 0 0) (W.setCell ⟨w.heap.size + 1 + 1, 0, none⟩ (.int .i64 td))) := HZA.out.under bs (by omega)
  have HTB : Hid (Z6 (w.heap.size + 1 + 1) (.int .i64 td) (.slice none 0 0) (.slice none 0 0) (.slice none 0 0) (.slice none 0 0) (.slice none 0 0) (W.setCell ⟨w.heap.size + 1 + 1, 0, none⟩ (.int .i64 td))) := HTA.out.set0 _
  have HGB : Hid (w.heap.size + 3 ≤ (W.setCell ⟨w.heap.size + 1 + 1, 0, none⟩ (.int .i64 td)).heap.size) := by rw [Hid]; have := HGA.out; simp; omega
  clear bs f0 t0 y0 HBA HSA HZA HTA HGA 
  generalize (W.setCell ⟨w.heap.size + 1 + 1, 0, none⟩ (.int .i64 td)) = uB at HBB HSB HZB HTB HGB ⊢
  have f1 := HSB.out.c1
  have t1 := HTB.out.c1
  have y1 := HTB.out.z1
  simp only at f1
  go_wp2_with fail
  refine (toIntS_any _ _ fo _ (HX.out.below HBB.out).off (by have := HN.out.1; simp only at this; omega)).mono ?_
  rintro e uCm ⟨rfl, o1, b1⟩
  obtain ⟨g1, hg1⟩ : ∃ x, x = uB.heap.size := ⟨_, rfl⟩
  rw [← hg1] at o1 ⊢
  have HBCm : Hid (Below w.heap.size w uCm) := next HBB.out b1
  have HSCm : Hid (S6 w.heap.size ⟨td, fo, az, cs, ls, lg⟩ ⟨o, oc, a, ac, c, cc, l, lc, g, gc⟩ uCm) := HSB.out.below b1
  have HZCm : Hid (Z6 (w.heap.size + 1) (.int .i64 0) (.slice none 0 0) (.slice none 0 0) (.slice none 0 0) (.slice none 0 0) (.slice none 0 0) uCm) := HZB.out.below b1
  have HTCm : Hid (Z6 (w.heap.size + 1 + 1) (.int .i64 td) (.slice none 0 0) (.slice none 0 0) (.slice none 0 0) (.slice none 0 0) (.slice none 0 0) uCm) := HTB.out.below b1
  have HGCm : Hid (w.heap.size + 3 ≤ uCm.heap.size) := Nat.le_trans HGB.out b1.size
  have HL1 : Hid (uB.heap.size ≤ g1 ∧ g1 < uCm.heap.size) := by
    rw [Hid]
    have hlt := o1.lt g1 rfl
    omega
  have HM1 : Hid (uCm.heap.size ≤ uCm.heap.size) := Nat.le_refl _
  have R1Cm : Hid (uCm.ownsRow (w.heap.size + 3) 3 1 (.slice (some ⟨g1, 0, none⟩) fo.length fo.length) fo.length (fo.map (Value.int .i64))) := lowerL o1 (by have := HGB.out; omega)
  clear t1 y1 f1 o1 hg1 HM1 HBB HSB HZB HTB HGB 
  have f1 := HSCm.out.c1
  have t1 := HTCm.out.c1
  have y1 := HTCm.out.z1
  go_upto_region 4 with fail
  have HQ1 : Hid (uCm.heap.size ≤ uCm.heap.size) := Nat.le_refl _
  have bs : Below (w.heap.size + 1 + 1) uCm (uCm.setCell ⟨w.heap.size + 1 + 1, 1, none⟩ (.slice (some ⟨g1, 0, none⟩) fo.length fo.length)) := bel_b _ _ _ _
  have HBC : Hid (Below w.heap.size w (uCm.setCell ⟨w.heap.size + 1 + 1, 1, none⟩ (.slice (some ⟨g1, 0, none⟩) fo.length fo.length))) := HBCm.out.setCell (show w.heap.size ≤ w.heap.size + 1 + 1 by omega) _
  have HSC : Hid (S6 w.heap.size ⟨td, fo, az, cs, ls, lg⟩ ⟨o, oc, a, ac, c, cc, l, lc, g, gc⟩ (uCm.setCell ⟨w.heap.size + 1 + 1, 1, none⟩ (.slice (some ⟨g1, 0, none⟩) fo.length fo.length))) := HSCm.out.under bs (by omega)
  have HZC : Hid (Z6 (w.heap.size + 1) (.int .i64 0) (.slice none 0 0) (.slice none 0 0) (.slice none 0 0) (.slice none 0 0) (.slice none 0 0) (uCm.setCell ⟨w.heap.size + 1 + 1, 1, none⟩ (.slice (some ⟨g1, 0, none⟩) fo.length fo.length))) := HZCm.out.under bs (by omega)
  have HTC : Hid (Z6 (w.heap.size + 1 + 1) (.int .i64 td) (.slice (some ⟨g1, 0, none⟩) fo.length fo.length) (.slice none 0 0) (.slice none 0 0) (.slice none 0 0) (.slice none 0 0) (uCm.setCell ⟨w.heap.size + 1 + 1, 1, none⟩ (.slice (some ⟨g1, 0, none⟩) fo.length fo.length))) := HTCm.out.set1 _
  have HGC : Hid (w.heap.size + 3 ≤ (uCm.setCell ⟨w.heap.size + 1 + 1, 1, none⟩ (.slice (some ⟨g1, 0, none⟩) fo.length fo.length)).heap.size) := by rw [Hid]; have := HGCm.out; simp; omega
  have R1C : Hid ((uCm.setCell ⟨w.heap.size + 1 + 1, 1, none⟩ (.slice (some ⟨g1, 0, none⟩) fo.length fo.length)).ownsRow (w.heap.size + 3) 3 1 (.slice (some ⟨g1, 0, none⟩) fo.length fo.length) fo.length (fo.map (Value.int .i64))) := row_far R1Cm.out (by omega)
  have HE1 : Hid ((uCm.setCell ⟨w.heap.size + 1 + 1, 1, none⟩ (.slice (some ⟨g1, 0, none⟩) fo.length fo.length)).heap.size = uCm.heap.size) := by simp [Hid]
  clear HQ1 bs f1 t1 y1 HBCm HSCm HZCm HTCm HGCm R1Cm
  generalize (uCm.setCell ⟨w.heap.size + 1 + 1, 1, none⟩ (.slice (some ⟨g1, 0, none⟩) fo.length fo.length)) = uC at HE1 HBC HSC HZC HTC HGC R1C ⊢
  have f2 := HSC.out.c2
  have t2 := HTC.out.c2
  have y2 := HTC.out.z2
  simp only at f2
  go_wp2_with fail
  refine (toAuthS_any _ _ az _ (HX.out.below HBC.out).az (by have := HN.out.2.1; simp only at this; omega)).mono ?_
  rintro e uDm ⟨rfl, o2, b2⟩
  obtain ⟨g2, hg2⟩ : ∃ x, x = uC.heap.size := ⟨_, rfl⟩
  rw [← hg2] at o2 ⊢
  have HBDm : Hid (Below w.heap.size w uDm) := next HBC.out b2
  have HSDm : Hid (S6 w.heap.size ⟨td, fo, az, cs, ls, lg⟩ ⟨o, oc, a, ac, c, cc, l, lc, g, gc⟩ uDm) := HSC.out.below b2
  have HZDm : Hid (Z6 (w.heap.size + 1) (.int .i64 0) (.slice none 0 0) (.slice none 0 0) (.slice none 0 0) (.slice none 0 0) (.slice none 0 0) uDm) := HZC.out.below b2
  have HTDm : Hid (Z6 (w.heap.size + 1 + 1) (.int .i64 td) (.slice (some ⟨g1, 0, none⟩) fo.length fo.length) (.slice none 0 0) (.slice none 0 0) (.slice none 0 0) (.slice none 0 0) uDm) := HTC.out.below b2
  have HGDm : Hid (w.heap.size + 3 ≤ uDm.heap.size) := Nat.le_trans HGC.out b2.size
  have HL2 : Hid (uC.heap.size ≤ g2 ∧ g2 < uDm.heap.size) := by
    rw [Hid]
    have hlt := o2.lt g2 rfl
    omega
  have HM2 : Hid (uDm.heap.size ≤ uDm.heap.size) := Nat.le_refl _
  have R1Dm : Hid (uDm.ownsRow (w.heap.size + 3) 3 1 (.slice (some ⟨g1, 0, none⟩) fo.length fo.length) fo.length (fo.map (Value.int .i64))) := keepL R1C.out b2
  have R2Dm : Hid (uDm.ownsRow (w.heap.size + 3) 87 6 (.slice (some ⟨g2, 0, none⟩) az.length az.length) az.length (acells az)) := lowerL o2 (by have := HGC.out; omega)
  clear t2 y2 f2 o2 hg2 HM2 HBC HSC HZC HTC HGC R1C
  have f2 := HSDm.out.c2
  have t2 := HTDm.out.c2
  have y2 := HTDm.out.z2
  go_upto_region 5 with fail
  have HQ2 : Hid (uDm.heap.size ≤ uDm.heap.size) := Nat.le_refl _
  have bs : Below (w.heap.size + 1 + 1) uDm (uDm.setCell ⟨w.heap.size + 1 + 1, 2, none⟩ (.slice (some ⟨g2, 0, none⟩) az.length az.length)) := bel_b _ _ _ _
  have HBD : Hid (Below w.heap.size w (uDm.setCell ⟨w.heap.size + 1 + 1, 2, none⟩ (.slice (some ⟨g2, 0, none⟩) az.length az.length))) := HBDm.out.setCell (show w.heap.size ≤ w.heap.size + 1 + 1 by omega) _
  have HSD : Hid (S6 w.heap.size ⟨td, fo, az, cs, ls, lg⟩ ⟨o, oc, a, ac, c, cc, l, lc, g, gc⟩ (uDm.setCell ⟨w.heap.size + 1 + 1, 2, none⟩ (.slice (some ⟨g2, 0, none⟩) az.length az.length))) := HSDm.out.under bs (by omega)
  have HZD : Hid (Z6 (w.heap.size + 1) (.int .i64 0) (.slice none 0 0) (.slice none 0 0) (.slice none 0 0) (.slice none 0 0) (.slice none 0 0) (uDm.setCell ⟨w.heap.size + 1 + 1, 2, none⟩ (.slice (some ⟨g2, 0, none⟩) az.length az.length))) := HZDm.out.under bs (by omega)
  have HTD : Hid (Z6 (w.heap.size + 1 + 1) (.int .i64 td) (.slice (some ⟨g1, 0, none⟩) fo.length fo.length) (.slice (some ⟨g2, 0, none⟩) az.length az.length) (.slice none 0 0) (.slice none 0 0) (.slice none 0 0) (uDm.setCell ⟨w.heap.size + 1 + 1, 2, none⟩ (.slice (some ⟨g2, 0, none⟩) az.length az.length))) := HTDm.out.set2 _
  have HGD : Hid (w.heap.size + 3 ≤ (uDm.setCell ⟨w.heap.size + 1 + 1, 2, none⟩ (.slice (some ⟨g2, 0, none⟩) az.length az.length)).heap.size) := by rw [Hid]; have := HGDm.out; simp; omega
  have R1D : Hid ((uDm.setCell ⟨w.heap.size + 1 + 1, 2, none⟩ (.slice (some ⟨g2, 0, none⟩) az.length az.length)).ownsRow (w.heap.size + 3) 3 1 (.slice (some ⟨g1, 0, none⟩) fo.length fo.length) fo.length (fo.map (Value.int .i64))) := row_far R1Dm.out (by omega)
  have R2D : Hid ((uDm.setCell ⟨w.heap.size + 1 + 1, 2, none⟩ (.slice (some ⟨g2, 0, none⟩) az.length az.length)).ownsRow (w.heap.size + 3) 87 6 (.slice (some ⟨g2, 0, none⟩) az.length az.length) az.length (acells az)) := row_far R2Dm.out (by omega)
  have HE2 : Hid ((uDm.setCell ⟨w.heap.size + 1 + 1, 2, none⟩ (.slice (some ⟨g2, 0, none⟩) az.length az.length)).heap.size = uDm.heap.size) := by simp [Hid]
  clear HQ2 bs f2 t2 y2 HBDm HSDm HZDm HTDm HGDm R1Dm R2Dm
  generalize (uDm.setCell ⟨w.heap.size + 1 + 1, 2, none⟩ (.slice (some ⟨g2, 0, none⟩) az.length az.length)) = uD at HE2 HBD HSD HZD HTD HGD R1D R2D ⊢
  have f3 := HSD.out.c3
  have t3 := HTD.out.c3
  have y3 := HTD.out.z3
  simp only at f3
  go_wp2_with fail
  refine (toCaseS_any _ _ cs _ (HX.out.below HBD.out).cs (by have := HN.out.2.2.1; simp only at this; omega)).mono ?_
  rintro e uEm ⟨rfl, o3, b3⟩
  obtain ⟨g3, hg3⟩ : ∃ x, x = uD.heap.size := ⟨_, rfl⟩
  rw [← hg3] at o3 ⊢
  have HBEm : Hid (Below w.heap.size w uEm) := next HBD.out b3
  have HSEm : Hid (S6 w.heap.size ⟨td, fo, az, cs, ls, lg⟩ ⟨o, oc, a, ac, c, cc, l, lc, g, gc⟩ uEm) := HSD.out.below b3
  have HZEm : Hid (Z6 (w.heap.size + 1) (.int .i64 0) (.slice none 0 0) (.slice none 0 0) (.slice none 0 0) (.slice none 0 0) (.slice none 0 0) uEm) := HZD.out.below b3
  have HTEm : Hid (Z6 (w.heap.size + 1 + 1) (.int .i64 td) (.slice (some ⟨g1, 0, none⟩) fo.length fo.length) (.slice (some ⟨g2, 0, none⟩) az.length az.length) (.slice none 0 0) (.slice none 0 0) (.slice none 0 0) uEm) := HTD.out.below b3
  have HGEm : Hid (w.heap.size + 3 ≤ uEm.heap.size) := Nat.le_trans HGD.out b3.size
  have HL3 : Hid (uD.heap.size ≤ g3 ∧ g3 < uEm.heap.size) := by
    rw [Hid]
    have hlt := o3.lt g3 rfl
    omega
  have HM3 : Hid (uEm.heap.size ≤ uEm.heap.size) := Nat.le_refl _
  have R1Em : Hid (uEm.ownsRow (w.heap.size + 3) 3 1 (.slice (some ⟨g1, 0, none⟩) fo.length fo.length) fo.length (fo.map (Value.int .i64))) := keepL R1D.out b3
  have R2Em : Hid (uEm.ownsRow (w.heap.size + 3) 87 6 (.slice (some ⟨g2, 0, none⟩) az.length az.length) az.length (acells az)) := keepL R2D.out b3
  have R3Em : Hid (uEm.ownsRow (w.heap.size + 3) 57 12 (.slice (some ⟨g3, 0, none⟩) cs.length cs.length) cs.length (cscells cs)) := lowerL o3 (by have := HGD.out; omega)
  clear t3 y3 f3 o3 hg3 HM3 HBD HSD HZD HTD HGD R1D R2D
  have f3 := HSEm.out.c3
  have t3 := HTEm.out.c3
  have y3 := HTEm.out.z3
  go_upto_region 6 with fail
  have HQ3 : Hid (uEm.heap.size ≤ uEm.heap.size) := Nat.le_refl _
  have bs : Below (w.heap.size + 1 + 1) uEm (uEm.setCell ⟨w.heap.size + 1 + 1, 3, none⟩ (.slice (some ⟨g3, 0, none⟩) cs.length cs.length)) := bel_b _ _ _ _
  have HBE : Hid (Below w.heap.size w (uEm.setCell ⟨w.heap.size + 1 + 1, 3, none⟩ (.slice (some ⟨g3, 0, none⟩) cs.length cs.length))) := HBEm.out.setCell (show w.heap.size ≤ w.heap.size + 1 + 1 by omega) _
  have HSE : Hid (S6 w.heap.size ⟨td, fo, az, cs, ls, lg⟩ ⟨o, oc, a, ac, c, cc, l, lc, g, gc⟩ (uEm.setCell ⟨w.heap.size + 1 + 1, 3, none⟩ (.slice (some ⟨g3, 0, none⟩) cs.length cs.length))) := HSEm.out.under bs (by omega)
  have HZE : Hid (Z6 (w.heap.size + 1) (.int .i64 0) (.slice none 0 0) (.slice none 0 0) (.slice none 0 0) (.slice none 0 0) (.slice none 0 0) (uEm.setCell ⟨w.heap.size + 1 + 1, 3, none⟩ (.slice (some ⟨g3, 0, none⟩) cs.length cs.length))) := HZEm.out.under bs (by omega)
  have HTE : Hid (Z6 (w.heap.size + 1 + 1) (.int .i64 td) (.slice (some ⟨g1, 0, none⟩) fo.length fo.length) (.slice (some ⟨g2, 0, none⟩) az.length az.length) (.slice (some ⟨g3, 0, none⟩) cs.length cs.length) (.slice none 0 0) (.slice none 0 0) (uEm.setCell ⟨w.heap.size + 1 + 1, 3, none⟩ (.slice (some ⟨g3, 0, none⟩) cs.length cs.length))) := HTEm.out.set3 _
  have HGE : Hid (w.heap.size + 3 ≤ (uEm.setCell ⟨w.heap.size + 1 + 1, 3, none⟩ (.slice (some ⟨g3, 0, none⟩) cs.length cs.length)).heap.size) := by rw [Hid]; have := HGEm.out; simp; omega
  have R1E : Hid ((uEm.setCell ⟨w.heap.size + 1 + 1, 3, none⟩ (.slice (some ⟨g3, 0, none⟩) cs.length cs.length)).ownsRow (w.heap.size + 3) 3 1 (.slice (some ⟨g1, 0, none⟩) fo.length fo.length) fo.length (fo.map (Value.int .i64))) := row_far R1Em.out (by omega)
  have R2E : Hid ((uEm.setCell ⟨w.heap.size + 1 + 1, 3, none⟩ (.slice (some ⟨g3, 0, none⟩) cs.length cs.length)).ownsRow (w.heap.size + 3) 87 6 (.slice (some ⟨g2, 0, none⟩) az.length az.length) az.length (acells az)) := row_far R2Em.out (by omega)
  have R3E : Hid ((uEm.setCell ⟨w.heap.size + 1 + 1, 3, none⟩ (.slice (some ⟨g3, 0, none⟩) cs.length cs.length)).ownsRow (w.heap.size + 3) 57 12 (.slice (some ⟨g3, 0, none⟩) cs.length cs.length) cs.length (cscells cs)) := row_far R3Em.out (by omega)
  have HE3 : Hid ((uEm.setCell ⟨w.heap.size + 1 + 1, 3, none⟩ (.slice (some ⟨g3, 0, none⟩) cs.length cs.length)).heap.size = uEm.heap.size) := by simp [Hid]
  clear HQ3 bs f3 t3 y3 HBEm HSEm HZEm HTEm HGEm R1Em R2Em R3Em
  generalize (uEm.setCell ⟨w.heap.size + 1 + 1, 3, none⟩ (.slice (some ⟨g3, 0, none⟩) cs.length cs.length)) = uE at HE3 HBE HSE HZE HTE HGE R1E R2E R3E ⊢
  have f4 := HSE.out.c4
  have t4 := HTE.out.c4
  have y4 := HTE.out.z4
  simp only at f4
  go_wp2_with fail
  refine (toLedger_any _ _ ls _ (HX.out.below HBE.out).ls (by have := HN.out.2.2.2.1; simp only at this; omega)).mono ?_
  rintro e uFm ⟨g4, rfl, o4, b4⟩
  have HBFm : Hid (Below w.heap.size w uFm) := next HBE.out b4
  have HSFm : Hid (S6 w.heap.size ⟨td, fo, az, cs, ls, lg⟩ ⟨o, oc, a, ac, c, cc, l, lc, g, gc⟩ uFm) := HSE.out.below b4
  have HZFm : Hid (Z6 (w.heap.size + 1) (.int .i64 0) (.slice none 0 0) (.slice none 0 0) (.slice none 0 0) (.slice none 0 0) (.slice none 0 0) uFm) := HZE.out.below b4
  have HTFm : Hid (Z6 (w.heap.size + 1 + 1) (.int .i64 td) (.slice (some ⟨g1, 0, none⟩) fo.length fo.length) (.slice (some ⟨g2, 0, none⟩) az.length az.length) (.slice (some ⟨g3, 0, none⟩) cs.length cs.length) (.slice none 0 0) (.slice none 0 0) uFm) := HTE.out.below b4
  have HGFm : Hid (w.heap.size + 3 ≤ uFm.heap.size) := Nat.le_trans HGE.out b4.size
  have HL4 : Hid (uE.heap.size ≤ g4 ∧ g4 < uFm.heap.size) := by
    rw [Hid]
    have hlt := o4.lt g4 rfl
    omega
  have HM4 : Hid (uFm.heap.size ≤ uFm.heap.size) := Nat.le_refl _
  have R1Fm : Hid (uFm.ownsRow (w.heap.size + 3) 3 1 (.slice (some ⟨g1, 0, none⟩) fo.length fo.length) fo.length (fo.map (Value.int .i64))) := keepL R1E.out b4
  have R2Fm : Hid (uFm.ownsRow (w.heap.size + 3) 87 6 (.slice (some ⟨g2, 0, none⟩) az.length az.length) az.length (acells az)) := keepL R2E.out b4
  have R3Fm : Hid (uFm.ownsRow (w.heap.size + 3) 57 12 (.slice (some ⟨g3, 0, none⟩) cs.length cs.length) cs.length (cscells cs)) := keepL R3E.out b4
  have R4Fm : Hid (uFm.ownsRow (w.heap.size + 3) 100 3 (.slice (some ⟨g4, 0, none⟩) ls.length ls.length) ls.length (lcells ls)) := lowerL o4 (by have := HGE.out; omega)
  clear t4 y4 f4 o4 HM4 HBE HSE HZE HTE HGE R1E R2E R3E
  have f4 := HSFm.out.c4
  have t4 := HTFm.out.c4
  have y4 := HTFm.out.z4
  go_upto_region 7 with fail
  have HQ4 : Hid (uFm.heap.size ≤ uFm.heap.size) := Nat.le_refl _
  have bs : Below (w.heap.size + 1 + 1) uFm (uFm.setCell ⟨w.heap.size + 1 + 1, 4, none⟩ (.slice (some ⟨g4, 0, none⟩) ls.length ls.length)) := bel_b _ _ _ _
  have HBF : Hid (Below w.heap.size w (uFm.setCell ⟨w.heap.size + 1 + 1, 4, none⟩ (.slice (some ⟨g4, 0, none⟩) ls.length ls.length))) := HBFm.out.setCell (show w.heap.size ≤ w.heap.size + 1 + 1 by omega) _
  have HSF : Hid (S6 w.heap.size ⟨td, fo, az, cs, ls, lg⟩ ⟨o, oc, a, ac, c, cc, l, lc, g, gc⟩ (uFm.setCell ⟨w.heap.size + 1 + 1, 4, none⟩ (.slice (some ⟨g4, 0, none⟩) ls.length ls.length))) := HSFm.out.under bs (by omega)
  have HZF : Hid (Z6 (w.heap.size + 1) (.int .i64 0) (.slice none 0 0) (.slice none 0 0) (.slice none 0 0) (.slice none 0 0) (.slice none 0 0) (uFm.setCell ⟨w.heap.size + 1 + 1, 4, none⟩ (.slice (some ⟨g4, 0, none⟩) ls.length ls.length))) := HZFm.out.under bs (by omega)
  have HTF : Hid (Z6 (w.heap.size + 1 + 1) (.int .i64 td) (.slice (some ⟨g1, 0, none⟩) fo.length fo.length) (.slice (some ⟨g2, 0, none⟩) az.length az.length) (.slice (some ⟨g3, 0, none⟩) cs.length cs.length) (.slice (some ⟨g4, 0, none⟩) ls.length ls.length) (.slice none 0 0) (uFm.setCell ⟨w.heap.size + 1 + 1, 4, none⟩ (.slice (some ⟨g4, 0, none⟩) ls.length ls.length))) := HTFm.out.set4 _
  have HGF : Hid (w.heap.size + 3 ≤ (uFm.setCell ⟨w.heap.size + 1 + 1, 4, none⟩ (.slice (some ⟨g4, 0, none⟩) ls.length ls.length)).heap.size) := by rw [Hid]; have := HGFm.out; simp; omega
  have R1F : Hid ((uFm.setCell ⟨w.heap.size + 1 + 1, 4, none⟩ (.slice (some ⟨g4, 0, none⟩) ls.length ls.length)).ownsRow (w.heap.size + 3) 3 1 (.slice (some ⟨g1, 0, none⟩) fo.length fo.length) fo.length (fo.map (Value.int .i64))) := row_far R1Fm.out (by omega)
  have R2F : Hid ((uFm.setCell ⟨w.heap.size + 1 + 1, 4, none⟩ (.slice (some ⟨g4, 0, none⟩) ls.length ls.length)).ownsRow (w.heap.size + 3) 87 6 (.slice (some ⟨g2, 0, none⟩) az.length az.length) az.length (acells az)) := row_far R2Fm.out (by omega)
  have R3F : Hid ((uFm.setCell ⟨w.heap.size + 1 + 1, 4, none⟩ (.slice (some ⟨g4, 0, none⟩) ls.length ls.length)).ownsRow (w.heap.size + 3) 57 12 (.slice (some ⟨g3, 0, none⟩) cs.length cs.length) cs.length (cscells cs)) := row_far R3Fm.out (by omega)
  have R4F : Hid ((uFm.setCell ⟨w.heap.size + 1 + 1, 4, none⟩ (.slice (some ⟨g4, 0, none⟩) ls.length ls.length)).ownsRow (w.heap.size + 3) 100 3 (.slice (some ⟨g4, 0, none⟩) ls.length ls.length) ls.length (lcells ls)) := row_far R4Fm.out (by omega)
  have HE4 : Hid ((uFm.setCell ⟨w.heap.size + 1 + 1, 4, none⟩ (.slice (some ⟨g4, 0, none⟩) ls.length ls.length)).heap.size = uFm.heap.size) := by simp [Hid]
  clear HQ4 bs f4 t4 y4 HBFm HSFm HZFm HTFm HGFm R1Fm R2Fm R3Fm R4Fm
  generalize (uFm.setCell ⟨w.heap.size + 1 + 1, 4, none⟩ (.slice (some ⟨g4, 0, none⟩) ls.length ls.length)) = uF at HE4 HBF HSF HZF HTF HGF R1F R2F R3F R4F ⊢
  have f5 := HSF.out.c5
  have t5 := HTF.out.c5
  have y5 := HTF.out.z5
  simp only at f5
  go_wp2_with fail
  refine (toStringS_any _ _ lg _ (HX.out.below HBF.out).log (by have := HN.out.2.2.2.2; simp only at this; omega)).mono ?_
  rintro e uGm ⟨rfl, o5, b5⟩
  obtain ⟨g5, hg5⟩ : ∃ x, x = uF.heap.size := ⟨_, rfl⟩
  rw [← hg5] at o5 ⊢
  have HBGm : Hid (Below w.heap.size w uGm) := next HBF.out b5
  have HSGm : Hid (S6 w.heap.size ⟨td, fo, az, cs, ls, lg⟩ ⟨o, oc, a, ac, c, cc, l, lc, g, gc⟩ uGm) := HSF.out.below b5
  have HZGm : Hid (Z6 (w.heap.size + 1) (.int .i64 0) (.slice none 0 0) (.slice none 0 0) (.slice none 0 0) (.slice none 0 0) (.slice none 0 0) uGm) := HZF.out.below b5
  have HTGm : Hid (Z6 (w.heap.size + 1 + 1) (.int .i64 td) (.slice (some ⟨g1, 0, none⟩) fo.length fo.length) (.slice (some ⟨g2, 0, none⟩) az.length az.length) (.slice (some ⟨g3, 0, none⟩) cs.length cs.length) (.slice (some ⟨g4, 0, none⟩) ls.length ls.length) (.slice none 0 0) uGm) := HTF.out.below b5
  have HGGm : Hid (w.heap.size + 3 ≤ uGm.heap.size) := Nat.le_trans HGF.out b5.size
  have HL5 : Hid (uF.heap.size ≤ g5 ∧ g5 < uGm.heap.size) := by
    rw [Hid]
    have hlt := o5.lt g5 rfl
    omega
  have HM5 : Hid (uGm.heap.size ≤ uGm.heap.size) := Nat.le_refl _
  have R1Gm : Hid (uGm.ownsRow (w.heap.size + 3) 3 1 (.slice (some ⟨g1, 0, none⟩) fo.length fo.length) fo.length (fo.map (Value.int .i64))) := keepL R1F.out b5
  have R2Gm : Hid (uGm.ownsRow (w.heap.size + 3) 87 6 (.slice (some ⟨g2, 0, none⟩) az.length az.length) az.length (acells az)) := keepL R2F.out b5
  have R3Gm : Hid (uGm.ownsRow (w.heap.size + 3) 57 12 (.slice (some ⟨g3, 0, none⟩) cs.length cs.length) cs.length (cscells cs)) := keepL R3F.out b5
  have R4Gm : Hid (uGm.ownsRow (w.heap.size + 3) 100 3 (.slice (some ⟨g4, 0, none⟩) ls.length ls.length) ls.length (lcells ls)) := keepL R4F.out b5
  have R5Gm : Hid (uGm.ownsRow (w.heap.size + 3) 9 1 (.slice (some ⟨g5, 0, none⟩) lg.length lg.length) lg.length (scells lg)) := lowerL o5 (by have := HGF.out; omega)
  clear t5 y5 f5 o5 hg5 HM5 HBF HSF HZF HTF HGF R1F R2F R3F R4F
  have f5 := HSGm.out.c5
  have t5 := HTGm.out.c5
  have y5 := HTGm.out.z5
  go_upto_region 8 with fail
  have HQ5 : Hid (uGm.heap.size ≤ uGm.heap.size) := Nat.le_refl _
  have bs : Below (w.heap.size + 1 + 1) uGm (uGm.setCell ⟨w.heap.size + 1 + 1, 5, none⟩ (.slice (some ⟨g5, 0, none⟩) lg.length lg.length)) := bel_b _ _ _ _
  have HBG : Hid (Below w.heap.size w (uGm.setCell ⟨w.heap.size + 1 + 1, 5, none⟩ (.slice (some ⟨g5, 0, none⟩) lg.length lg.length))) := HBGm.out.setCell (show w.heap.size ≤ w.heap.size + 1 + 1 by omega) _
  have HSG : Hid (S6 w.heap.size ⟨td, fo, az, cs, ls, lg⟩ ⟨o, oc, a, ac, c, cc, l, lc, g, gc⟩ (uGm.setCell ⟨w.heap.size + 1 + 1, 5, none⟩ (.slice (some ⟨g5, 0, none⟩) lg.length lg.length))) := HSGm.out.under bs (by omega)
  have HZG : Hid (Z6 (w.heap.size + 1) (.int .i64 0) (.slice none 0 0) (.slice none 0 0) (.slice none 0 0) (.slice none 0 0) (.slice none 0 0) (uGm.setCell ⟨w.heap.size + 1 + 1, 5, none⟩ (.slice (some ⟨g5, 0, none⟩) lg.length lg.length))) := HZGm.out.under bs (by omega)
  have HTG : Hid (Z6 (w.heap.size + 1 + 1) (.int .i64 td) (.slice (some ⟨g1, 0, none⟩) fo.length fo.length) (.slice (some ⟨g2, 0, none⟩) az.length az.length) (.slice (some ⟨g3, 0, none⟩) cs.length cs.length) (.slice (some ⟨g4, 0, none⟩) ls.length ls.length) (.slice (some ⟨g5, 0, none⟩) lg.length lg.length) (uGm.setCell ⟨w.heap.size + 1 + 1, 5, none⟩ (.slice (some ⟨g5, 0, none⟩) lg.length lg.length))) := HTGm.out.set5 _
  have HGG : Hid (w.heap.size + 3 ≤ (uGm.setCell ⟨w.heap.size + 1 + 1, 5, none⟩ (.slice (some ⟨g5, 0, none⟩) lg.length lg.length)).heap.size) := by rw [Hid]; have := HGGm.out; simp; omega
  have R1G : Hid ((uGm.setCell ⟨w.heap.size + 1 + 1, 5, none⟩ (.slice (some ⟨g5, 0, none⟩) lg.length lg.length)).ownsRow (w.heap.size + 3) 3 1 (.slice (some ⟨g1, 0, none⟩) fo.length fo.length) fo.length (fo.map (Value.int .i64))) := row_far R1Gm.out (by omega)
  have R2G : Hid ((uGm.setCell ⟨w.heap.size + 1 + 1, 5, none⟩ (.slice (some ⟨g5, 0, none⟩) lg.length lg.length)).ownsRow (w.heap.size + 3) 87 6 (.slice (some ⟨g2, 0, none⟩) az.length az.length) az.length (acells az)) := row_far R2Gm.out (by omega)
  have R3G : Hid ((uGm.setCell ⟨w.heap.size + 1 + 1, 5, none⟩ (.slice (some ⟨g5, 0, none⟩) lg.length lg.length)).ownsRow (w.heap.size + 3) 57 12 (.slice (some ⟨g3, 0, none⟩) cs.length cs.length) cs.length (cscells cs)) := row_far R3Gm.out (by omega)
  have R4G : Hid ((uGm.setCell ⟨w.heap.size + 1 + 1, 5, none⟩ (.slice (some ⟨g5, 0, none⟩) lg.length lg.length)).ownsRow (w.heap.size + 3) 100 3 (.slice (some ⟨g4, 0, none⟩) ls.length ls.length) ls.length (lcells ls)) := row_far R4Gm.out (by omega)
  have R5G : Hid ((uGm.setCell ⟨w.heap.size + 1 + 1, 5, none⟩ (.slice (some ⟨g5, 0, none⟩) lg.length lg.length)).ownsRow (w.heap.size + 3) 9 1 (.slice (some ⟨g5, 0, none⟩) lg.length lg.length) lg.length (scells lg)) := row_far R5Gm.out (by omega)
  have HE5 : Hid ((uGm.setCell ⟨w.heap.size + 1 + 1, 5, none⟩ (.slice (some ⟨g5, 0, none⟩) lg.length lg.length)).heap.size = uGm.heap.size) := by simp [Hid]
  clear HQ5 bs f5 t5 y5 HBGm HSGm HZGm HTGm HGGm R1Gm R2Gm R3Gm R4Gm R5Gm
  generalize (uGm.setCell ⟨w.heap.size + 1 + 1, 5, none⟩ (.slice (some ⟨g5, 0, none⟩) lg.length lg.length)) = uG at HE5 HBG HSG HZG HTG HGG R1G R2G R3G R4G R5G ⊢
  obtain ⟨x0, x1, x2, x3, x4, x5, -, -, -, -, -, -⟩ := HTG.out
  obtain ⟨q0, q1, q2, q3, q4, q5, r0, r1, r2, r3, r4, r5⟩ := HZG.out
  go_wp2
  refine bodyPost_ret (by simp [results, Try.results11, go_sem, q0, q1, q2, q3, q4, q5]; try rfl) rfl ?_
  have hl1 := HL1.out
  have hl2 := HL2.out
  have hl3 := HL3.out
  have hl4 := HL4.out
  have hl5 := HL5.out
  have he1 := HE1.out
  have he2 := HE2.out
  have he3 := HE3.out
  have he4 := HE4.out
  exact ⟨⟨some ⟨g1, 0, none⟩, fo.length, some ⟨g2, 0, none⟩, az.length, some ⟨g3, 0, none⟩, cs.length, some ⟨g4, 0, none⟩, ls.length, some ⟨g5, 0, none⟩, lg.length⟩, rfl, ⟨(lowerL (row_far (row_far (row_far (row_far (row_far (row_far R1G.out (by omega)) (by omega)) (by omega)) (by omega)) (by omega)) (by omega)) (by omega)), (lowerL (row_far (row_far (row_far (row_far (row_far (row_far R2G.out (by omega)) (by omega)) (by omega)) (by omega)) (by omega)) (by omega)) (by omega)), (lowerL (row_far (row_far (row_far (row_far (row_far (row_far R3G.out (by omega)) (by omega)) (by omega)) (by omega)) (by omega)) (by omega)) (by omega)), (lowerL (row_far (row_far (row_far (row_far (row_far (row_far R4G.out (by omega)) (by omega)) (by omega)) (by omega)) (by omega)) (by omega)) (by omega)), (lowerL (row_far (row_far (row_far (row_far (row_far (row_far R5G.out (by omega)) (by omega)) (by omega)) (by omega)) (by omega)) (by omega)) (by omega)), ⟨g1, g2, g3, g4, g5, rfl, rfl, rfl, rfl, rfl, by omega, by omega, by omega, by omega⟩⟩, ((((((HBG.out.setCell (show w.heap.size ≤ w.heap.size + 1 by omega) _).setCell (show w.heap.size ≤ w.heap.size + 1 by omega) _).setCell (show w.heap.size ≤ w.heap.size + 1 by omega) _).setCell (show w.heap.size ≤ w.heap.size + 1 by omega) _).setCell (show w.heap.size ≤ w.heap.size + 1 by omega) _).setCell (show w.heap.size ≤ w.heap.size + 1 by omega) _)⟩

end Go.Proofs.Ytkdodamdjajbiaa
