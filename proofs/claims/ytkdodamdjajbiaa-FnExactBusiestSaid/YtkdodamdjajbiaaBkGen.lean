/- A book as it lies, whatever it holds; the laws' comparison of two that hold the same. -/
import Derived.Test.YtkdodamdjajbiaaAuLaw
import Derived.Test.YtkdodamdjajbiaaCaLaw
import Derived.Test.YtkdodamdjajbiaaLnLaw2
import Derived.Test.YtkdodamdjajbiaaStrLaw
import Derived.Test.YtkdodamdjajbiaaIntsEq
import Derived.Deep.DeepCutAuto
namespace Go.Proofs.Ytkdodamdjajbiaa
open Go.RowKit
set_option maxRecDepth 100000

/-- a book, plainly -/
structure Bk where
  today : Int
  off : List Int
  az : List Au
  cs : List Cs
  ls : List Ln
  log : Recs
/-- where a book's lists lie, and their room -/
structure Bp where
  o : Option Addr
  oc : Nat
  a : Option Addr
  ac : Nat
  c : Option Addr
  cc : Nat
  l : Option Addr
  lc : Nat
  g : Option Addr
  gc : Nat
def bkv (b : Bk) (p : Bp) : Value := .agg #[.int .i64 b.today, .slice p.o b.off.length p.oc, .slice p.a b.az.length p.ac, .slice p.c b.cs.length p.cc, .slice p.l b.ls.length p.lc, .slice p.g b.log.length p.gc]
structure BookAt (u : World) (b : Bk) (p : Bp) : Prop where
  off : IntsAt u p.o b.off
  az : AuthsAt u p.a b.az
  cs : CasesAt u p.c b.cs
  ls : LinesAt u p.l b.ls
  log : TxtsAt u p.g b.log
theorem BookAt.below {u u' : World} {b : Bk} {p : Bp} (h : BookAt u b p) (hb : Below u.heap.size u u') : BookAt u' b p := ⟨h.off.below hb, h.az.below hb, h.cs.below hb, h.ls.below hb, h.log.below hb⟩
/-- no list is greater than the laws let through -/
def bkSm (b : Bk) : Prop := b.off.length ≤ 1048576 ∧ b.az.length ≤ 1048576 ∧ b.cs.length ≤ 1048576 ∧ b.ls.length ≤ 1048576 ∧ b.log.length ≤ 1048576
/-- a book's six cells in a box -/
structure S6 (B : Nat) (b : Bk) (p : Bp) (u : World) : Prop where
  c0 : u.cell? ⟨B, 0, none⟩ = some (.int .i64 b.today)
  c1 : u.cell? ⟨B, 1, none⟩ = some (.slice p.o b.off.length p.oc)
  c2 : u.cell? ⟨B, 2, none⟩ = some (.slice p.a b.az.length p.ac)
  c3 : u.cell? ⟨B, 3, none⟩ = some (.slice p.c b.cs.length p.cc)
  c4 : u.cell? ⟨B, 4, none⟩ = some (.slice p.l b.ls.length p.lc)
  c5 : u.cell? ⟨B, 5, none⟩ = some (.slice p.g b.log.length p.gc)
theorem S6.lt {B : Nat} {b : Bk} {p : Bp} {u : World} (h : S6 B b p u) : B < u.heap.size := World.block_lt_of_cell? u _ h.c0
theorem S6.below {B : Nat} {b : Bk} {p : Bp} {u u' : World} (h : S6 B b p u) (hb : Below u.heap.size u u') : S6 B b p u' := by
  have l := h.lt
  exact ⟨(hb.cell (p := ⟨B, 0, none⟩) l).trans h.c0, (hb.cell (p := ⟨B, 1, none⟩) l).trans h.c1, (hb.cell (p := ⟨B, 2, none⟩) l).trans h.c2, (hb.cell (p := ⟨B, 3, none⟩) l).trans h.c3, (hb.cell (p := ⟨B, 4, none⟩) l).trans h.c4, (hb.cell (p := ⟨B, 5, none⟩) l).trans h.c5⟩
theorem S6.new (w : World) (b : Bk) (p : Bp) (ty : TypeId) : S6 w.heap.size b p (w.alloc (.cells #[.int .i64 b.today, .slice p.o b.off.length p.oc, .slice p.a b.az.length p.ac, .slice p.c b.cs.length p.cc, .slice p.l b.ls.length p.lc, .slice p.g b.log.length p.gc] ty)) := ⟨by simp, by simp, by simp, by simp, by simp, by simp⟩

set_option maxHeartbeats 6400000 in
theorem eqBook_same (b : Bk) (p q : Bp) (w : World) (hx : BookAt w b p) (hy : BookAt w b q) (hn : bkSm b) :
    Calls Try.prog 13 #[bkv b p, bkv b q] w fun e w' => e = .returned (.bool true) ∧ Below w.heap.size w w' := by
  obtain ⟨W, hW⟩ : ∃ W, W = (w.alloc (.cells #[.int .i64 b.today, .slice p.o b.off.length p.oc, .slice p.a b.az.length p.ac, .slice p.c b.cs.length p.cc, .slice p.l b.ls.length p.lc, .slice p.g b.log.length p.gc] 39)).alloc (.cells #[.int .i64 b.today, .slice q.o b.off.length q.oc, .slice q.a b.az.length q.ac, .slice q.c b.cs.length q.cc, .slice q.l b.ls.length q.lc, .slice q.g b.log.length q.gc] 39) := ⟨_, rfl⟩
  have bW : Below w.heap.size w W := by rw [hW]; go_grown
  have s1 : S6 w.heap.size b p W := by rw [hW]; exact (S6.new w b p _).below ((Below.refl _ _).alloc (Nat.le_refl _) _)
  have s2 : S6 (w.heap.size + 1) b q W := by
    rw [hW]
    have h := S6.new (w.alloc (.cells #[.int .i64 b.today, .slice p.o b.off.length p.oc, .slice p.a b.az.length p.ac, .slice p.c b.cs.length p.cc, .slice p.l b.ls.length p.lc, .slice p.g b.log.length p.gc] 39)) b q 39
    simpa using h
  have HW : Hid _ := hW
  have HX : Hid (BookAt W b p ∧ BookAt W b q) := ⟨hx.below bW, hy.below bW⟩
  have HBW : Hid (Below w.heap.size w W) := bW
  have HS : Hid (S6 w.heap.size b p W ∧ S6 (w.heap.size + 1) b q W) := ⟨s1, s2⟩
  have HN : Hid (bkSm b) := hn
  clear hx hy bW hW s1 s2 hn
  obtain ⟨td, fo, az, cs, ls, lg⟩ := b
  obtain ⟨o, oc, a, ac, c, cc, l, lc, g, gc⟩ := p
  obtain ⟨o', oc', a', ac', c', cc', l', lc', g', gc'⟩ := q
  unfold bkv
  simp only at HW ⊢
  obtain ⟨c0, c1, c2, c3, c4, c5⟩ := HS.out.1
  obtain ⟨d0, d1, d2, d3, d4, d5⟩ := HS.out.2
  simp only at c0 c1 c2 c3 c4 c5 d0 d1 d2 d3 d4 d5
  have nt : (td != td) = false := by simp
  go_enter Try.func13, Try.ntmps13
  go_upto_region 1 with fail
  rw [← HW.out]
  clear HW
  go_wp2_with fail
  refine (eqIntS_any _ _ _ _ fo fo _ HX.out.1.off HX.out.2.off (by have := HN.out.1; simp only at this; omega) (by have := HN.out.1; simp only at this; omega)).mono ?_
  rintro e w1 ⟨rfl, b1⟩
  have HX1 : Hid _ := And.intro (HX.out.1.below b1) (HX.out.2.below b1)
  have HS1 : Hid _ := And.intro (HS.out.1.below b1) (HS.out.2.below b1)
  have HB1 : Hid (Below w.heap.size w w1) := next HBW.out b1
  clear c0 c1 c2 c3 c4 c5 d0 d1 d2 d3 d4 d5 b1 HX HS HBW
  obtain ⟨c0, c1, c2, c3, c4, c5⟩ := HS1.out.1
  obtain ⟨d0, d1, d2, d3, d4, d5⟩ := HS1.out.2
  simp only at c0 c1 c2 c3 c4 c5 d0 d1 d2 d3 d4 d5
  go_wp2_with fail
  refine (eqAuthS_same _ _ _ _ az _ HX1.out.1.az HX1.out.2.az (by have := HN.out.2.1; simp only at this; omega)).mono ?_
  rintro e w2 ⟨rfl, b2⟩
  have HX2 : Hid _ := And.intro (HX1.out.1.below b2) (HX1.out.2.below b2)
  have HS2 : Hid _ := And.intro (HS1.out.1.below b2) (HS1.out.2.below b2)
  have HB2 : Hid (Below w.heap.size w w2) := next HB1.out b2
  clear c0 c1 c2 c3 c4 c5 d0 d1 d2 d3 d4 d5 b2 HX1 HS1 HB1
  obtain ⟨c0, c1, c2, c3, c4, c5⟩ := HS2.out.1
  obtain ⟨d0, d1, d2, d3, d4, d5⟩ := HS2.out.2
  simp only at c0 c1 c2 c3 c4 c5 d0 d1 d2 d3 d4 d5
  go_wp2_with fail
  refine (eqCaseS_same _ _ _ _ cs _ HX2.out.1.cs HX2.out.2.cs (by have := HN.out.2.2.1; simp only at this; omega)).mono ?_
  rintro e w3 ⟨rfl, b3⟩
  have HX3 : Hid _ := And.intro (HX2.out.1.below b3) (HX2.out.2.below b3)
  have HS3 : Hid _ := And.intro (HS2.out.1.below b3) (HS2.out.2.below b3)
  have HB3 : Hid (Below w.heap.size w w3) := next HB2.out b3
  clear c0 c1 c2 c3 c4 c5 d0 d1 d2 d3 d4 d5 b3 HX2 HS2 HB2
  obtain ⟨c0, c1, c2, c3, c4, c5⟩ := HS3.out.1
  obtain ⟨d0, d1, d2, d3, d4, d5⟩ := HS3.out.2
  simp only at c0 c1 c2 c3 c4 c5 d0 d1 d2 d3 d4 d5
  go_wp2_with fail
  refine (eqLedger_same _ _ _ _ ls _ HX3.out.1.ls HX3.out.2.ls (by have := HN.out.2.2.2.1; simp only at this; omega)).mono ?_
  rintro e w4 ⟨rfl, b4⟩
  have HX4 : Hid _ := And.intro (HX3.out.1.below b4) (HX3.out.2.below b4)
  have HS4 : Hid _ := And.intro (HS3.out.1.below b4) (HS3.out.2.below b4)
  have HB4 : Hid (Below w.heap.size w w4) := next HB3.out b4
  clear c0 c1 c2 c3 c4 c5 d0 d1 d2 d3 d4 d5 b4 HX3 HS3 HB3
  obtain ⟨c0, c1, c2, c3, c4, c5⟩ := HS4.out.1
  obtain ⟨d0, d1, d2, d3, d4, d5⟩ := HS4.out.2
  simp only at c0 c1 c2 c3 c4 c5 d0 d1 d2 d3 d4 d5
  go_wp2_with fail
  refine (eqStringS_any _ _ _ _ lg lg _ HX4.out.1.log HX4.out.2.log (by have := HN.out.2.2.2.2; simp only at this; omega) (by have := HN.out.2.2.2.2; simp only at this; omega)).mono ?_
  rintro e w5 ⟨rfl, b5⟩
  have HB5 : Hid (Below w.heap.size w w5) := next HB4.out b5
  clear c0 c1 c2 c3 c4 c5 d0 d1 d2 d3 d4 d5 b5
  go_wp2
  go_ret
  exact ⟨rfl, HB5.out⟩

end Go.Proofs.Ytkdodamdjajbiaa
