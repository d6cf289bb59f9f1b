import Derived.Test.YtjnekdihmchlpaaGreatDoorKTSDo3
import Derived.Test.YtjnekdihmchlpaaGreatDoorJT1a
import Derived.Test.YtjnekdihmchlpaaGreatDoorJT4a
import Derived.Deep.RegionWith
import Derived.Deep.DeepCutAuto
/- The contract of the specification's l09Code. -/
namespace Go.Proofs.YtjnekdihmchlpaaGreatDoor
open Go.RowKit
set_option maxRecDepth 100000
set_option maxHeartbeats 6400000 in
theorem sCode_any (c : Cs) (a : Ac) (t : Int) (ao : Option Addr) (cp : Nat) (zs : List Int) (w : World) (hx : IntsAt w ao zs) (hn : zs.length ≤ 1099511627776) (hk : 0 ≤ a.kind ∧ a.kind ≤ 9) :
    Calls Tryz.prog 91 #[cv c, av a, .int .i64 t, .slice ao zs.length cp] w fun e w' => e = .returned (.int .i64 (codeV c a t zs)) ∧ Below w.heap.size w w' := by
  obtain ⟨W, hW⟩ : ∃ W, W = (w.alloc (.cells #[.int .i64 c.iss, .int .i64 c.acq, .int .i64 c.cur, .int .i64 c.am, .int .i64 c.st, .int .i64 c.rsn, .int .i64 c.cl, .int .i64 c.bk, .int .i64 c.fee, .bool c.cop, .int .i64 c.sta, .int .i64 c.due] 25)).alloc (.cells #[.int .i64 a.kind, .int .i64 a.am, .int .i64 a.rsn] 91) := ⟨_, rfl⟩
  have HX : Hid (B2 w.heap.size c a W) := by rw [Hid, hW]; exact B2.new w c a _ _
  have HBW : Hid (Below w.heap.size w W) := by rw [Hid, hW]; go_grown
  have HW : Hid _ := hW
  have HCH : Hid (∀ u, Below W.heap.size W u → Calls Tryz.prog 134 #[cv c, av a, .int .i64 t, .slice ao zs.length cp] u fun e w' => e = .returned (.int .i64 (chargeV c a t zs)) ∧ Below u.heap.size u w') := fun u hu => sCharge_any c a t ao cp zs u ((hx.below HBW.out).below hu) hn
  obtain ⟨r, hr⟩ : ∃ r, codeV c a t zs = r := ⟨_, rfl⟩
  have HR : Hid _ := hr
  rw [hr]
  clear hx hW hr
  obtain ⟨k, m, q⟩ := a
  obtain ⟨iss, acq, cur, am, st, rsn, cl, bk, fee, cop, sta, due⟩ := c
  unfold cv av at HCH ⊢
  simp only at HW HCH hk ⊢
  go_enter Tryz.func91, Tryz.ntmps91
  go_upto_region 1 with fail
  rw [← HW.out]
  clear HW
  obtain ⟨⟨f0, f1, f2, f3, f4, f5, f6, f7, f8, f9, f10, f11⟩, k0, k1, k2⟩ := HX.out
  simp only [Nat.zero_add] at f0 f1 f2 f3 f4 f5 f6 f7 f8 f9 f10 f11 k0 k1 k2
  go_wp2_with fail
  refine (sLate_any t due _).mono ?_
  rintro e u1 ⟨rfl, hu⟩
  rw [hu]
  clear hu
  obtain ⟨l, hl⟩ : ∃ l, lateV t due = l := ⟨_, rfl⟩
  have HL : Hid _ := hl
  rw [hl]
  clear hl
  rcases (show k = 0 ∨ k = 1 ∨ k = 2 ∨ k = 3 ∨ k = 4 ∨ k = 5 ∨ k = 6 ∨ k = 7 ∨ k = 8 ∨ k = 9 by omega) with rfl | rfl | rfl | rfl | rfl | rfl | rfl | rfl | rfl | rfl
  · have HE : Hid (r = 0) := by rw [Hid, ← HR.out]; simp [codeV]
    clear HCH
    go_wp2
    go_ret
    exact ⟨one_int HE.out.symm, HBW.out⟩
  · have HE : Hid (r = if l = true then 4 else 0) := by rw [Hid, ← HR.out, ← HL.out]; simp [codeV]
    clear HCH
    cases l
    · go_wp2
      go_ret
      exact ⟨one_int (by rw [HE.out]; rfl), HBW.out⟩
    · go_wp2
      go_ret
      exact ⟨one_int (by rw [HE.out]; rfl), HBW.out⟩
  · have HE : Hid (chargeV ⟨iss, acq, cur, am, st, rsn, cl, bk, fee, cop, sta, due⟩ ⟨2, m, q⟩ t zs = r) := by rw [Hid, ← HR.out]; simp [codeV]
    go_wp2_with fail
    refine (HCH.out _ (Below.refl _ _)).mono ?_
    rintro e u2 ⟨rfl, b2⟩
    have HB2 : Hid (Below w.heap.size w u2) := next HBW.out b2
    clear b2
    rw [HE.out]
    go_wp2
    go_ret
    exact ⟨rfl, HB2.out⟩
  · have HE : Hid (r = if l = true then 4 else if 1 ≤ m ∧ m ≤ cl then 0 else 2) := by rw [Hid, ← HR.out, ← HL.out]; simp [codeV]
    clear HCH
    cases l
    · rw [if_neg (by decide)] at HE
      go_wp2_with fail
      cases h1 : inB m 1 cl
      · have g := inB_of h1
        have HE2 : Hid (r = 2) := by rw [Hid, HE.out, if_neg (of_decide_eq_false g)]
        refine (in_is h1 _).mono ?_
        rintro e v1 ⟨rfl, hv⟩
        rw [hv]
        clear hv h1 g
        go_wp2
        go_ret
        exact ⟨one_int HE2.out.symm, HBW.out⟩
      · have g := inB_of h1
        have HE2 : Hid (r = 0) := by rw [Hid, HE.out, if_pos (of_decide_eq_true g)]
        refine (in_is h1 _).mono ?_
        rintro e v1 ⟨rfl, hv⟩
        rw [hv]
        clear hv h1 g
        go_wp2
        go_ret
        exact ⟨one_int HE2.out.symm, HBW.out⟩
    · go_wp2
      go_ret
      exact ⟨one_int (by rw [HE.out]; rfl), HBW.out⟩
  · have HE : Hid (r = if l = true then 4 else if 1 ≤ m ∧ m ≤ cl then 0 else 2) := by rw [Hid, ← HR.out, ← HL.out]; simp [codeV]
    clear HCH
    cases l
    · rw [if_neg (by decide)] at HE
      go_wp2_with fail
      cases h1 : inB m 1 cl
      · have g := inB_of h1
        have HE2 : Hid (r = 2) := by rw [Hid, HE.out, if_neg (of_decide_eq_false g)]
        refine (in_is h1 _).mono ?_
        rintro e v1 ⟨rfl, hv⟩
        rw [hv]
        clear hv h1 g
        go_wp2
        go_ret
        exact ⟨one_int HE2.out.symm, HBW.out⟩
      · have g := inB_of h1
        have HE2 : Hid (r = 0) := by rw [Hid, HE.out, if_pos (of_decide_eq_true g)]
        refine (in_is h1 _).mono ?_
        rintro e v1 ⟨rfl, hv⟩
        rw [hv]
        clear hv h1 g
        go_wp2
        go_ret
        exact ⟨one_int HE2.out.symm, HBW.out⟩
    · go_wp2
      go_ret
      exact ⟨one_int (by rw [HE.out]; rfl), HBW.out⟩
  · have HE : Hid (r = 0) := by rw [Hid, ← HR.out]; simp [codeV]
    clear HCH
    go_wp2
    go_ret
    exact ⟨one_int HE.out.symm, HBW.out⟩
  · have HE : Hid (r = if l = true then 4 else 0) := by rw [Hid, ← HR.out, ← HL.out]; simp [codeV]
    clear HCH
    cases l
    · go_wp2
      go_ret
      exact ⟨one_int (by rw [HE.out]; rfl), HBW.out⟩
    · go_wp2
      go_ret
      exact ⟨one_int (by rw [HE.out]; rfl), HBW.out⟩
  · have HE : Hid (r = if 0 ≤ m ∧ m ≤ cl then 0 else 2) := by rw [Hid, ← HR.out]; simp [codeV]
    clear HCH
    go_wp2_with fail
    cases h1 : inB m 0 cl
    · have g := inB_of h1
      have HE2 : Hid (r = 2) := by rw [Hid, HE.out, if_neg (of_decide_eq_false g)]
      refine (in_is h1 _).mono ?_
      rintro e v1 ⟨rfl, hv⟩
      rw [hv]
      clear hv h1 g
      go_wp2
      go_ret
      exact ⟨one_int HE2.out.symm, HBW.out⟩
    · have g := inB_of h1
      have HE2 : Hid (r = 0) := by rw [Hid, HE.out, if_pos (of_decide_eq_true g)]
      refine (in_is h1 _).mono ?_
      rintro e v1 ⟨rfl, hv⟩
      rw [hv]
      clear hv h1 g
      go_wp2
      go_ret
      exact ⟨one_int HE2.out.symm, HBW.out⟩
  · have HE : Hid (r = if l = true then 0 else 4) := by rw [Hid, ← HR.out, ← HL.out]; simp [codeV]
    clear HCH
    cases l
    · go_wp2
      go_ret
      exact ⟨one_int (by rw [HE.out]; rfl), HBW.out⟩
    · go_wp2
      go_ret
      exact ⟨one_int (by rw [HE.out]; rfl), HBW.out⟩
  · have HE : Hid (r = 0) := by rw [Hid, ← HR.out]; simp [codeV]
    clear HCH
    go_wp2
    go_ret
    exact ⟨one_int HE.out.symm, HBW.out⟩
end Go.Proofs.YtjnekdihmchlpaaGreatDoor
/- The boxes of a drawn act: what stands while it is drawn. -/
namespace Go.Proofs.YtjnekdihmchlpaaGreatDoor
open Go.RowKit
set_option maxRecDepth 100000
/-- three cells of an act, that may be written -/
structure AB (h : Nat) (a : Ac) (u : World) : Prop where
  c0 : u.cell? ⟨h, 0, none⟩ = some (.int .i64 a.kind)
  c1 : u.cell? ⟨h, 1, none⟩ = some (.int .i64 a.am)
  c2 : u.cell? ⟨h, 2, none⟩ = some (.int .i64 a.rsn)
  z0 : u.frozen? ⟨h, 0, none⟩ = false
  z1 : u.frozen? ⟨h, 1, none⟩ = false
  z2 : u.frozen? ⟨h, 2, none⟩ = false
theorem AB.lt {h : Nat} {a : Ac} {u : World} (x : AB h a u) : h < u.heap.size := World.block_lt_of_cell? u _ x.c0
theorem AB.below {h : Nat} {a : Ac} {u u' : World} (x : AB h a u) (b : Below u.heap.size u u') : AB h a u' := by
  have l := x.lt
  exact ⟨(b.cell (p := ⟨h, 0, none⟩) l).trans x.c0, (b.cell (p := ⟨h, 1, none⟩) l).trans x.c1, (b.cell (p := ⟨h, 2, none⟩) l).trans x.c2, (b.frozen (p := ⟨h, 0, none⟩) l).trans x.z0, (b.frozen (p := ⟨h, 1, none⟩) l).trans x.z1, (b.frozen (p := ⟨h, 2, none⟩) l).trans x.z2⟩
theorem AB.grown {h : Nat} {a : Ac} {u u' : World} {row : Option Nat} (x : AB h a u) (g : u.grownBy u' row) (hr : some h ≠ row) : AB h a u' := by
  have l := x.lt
  exact ⟨(g.cell_far ⟨h, 0, none⟩ l hr).trans x.c0, (g.cell_far ⟨h, 1, none⟩ l hr).trans x.c1, (g.cell_far ⟨h, 2, none⟩ l hr).trans x.c2, (g.frozen_far ⟨h, 0, none⟩ l hr).trans x.z0, (g.frozen_far ⟨h, 1, none⟩ l hr).trans x.z1, (g.frozen_far ⟨h, 2, none⟩ l hr).trans x.z2⟩
theorem AB.new (w : World) (a : Ac) (t : TypeId) : AB w.heap.size a (w.alloc (.cells #[.int .i64 a.kind, .int .i64 a.am, .int .i64 a.rsn] t)) :=
  ⟨by simp, by simp, by simp, by simp [go_sem], by simp [go_sem], by simp [go_sem]⟩
theorem AB.set0 {h : Nat} {a : Ac} {u : World} (q : AB h a u) (x : Int) : AB h ⟨x, a.am, a.rsn⟩ (u.setCell ⟨h, 0, none⟩ (.int .i64 x)) := by
  obtain ⟨c0, c1, c2, z0, z1, z2⟩ := q
  exact ⟨by simp [go_sem, c0], by simp [go_sem, c1], by simp [go_sem, c2], by simp [go_sem, z0], by simp [go_sem, z1], by simp [go_sem, z2]⟩
theorem AB.set1 {h : Nat} {a : Ac} {u : World} (q : AB h a u) (x : Int) : AB h ⟨a.kind, x, a.rsn⟩ (u.setCell ⟨h, 1, none⟩ (.int .i64 x)) := by
  obtain ⟨c0, c1, c2, z0, z1, z2⟩ := q
  exact ⟨by simp [go_sem, c0], by simp [go_sem, c1], by simp [go_sem, c2], by simp [go_sem, z0], by simp [go_sem, z1], by simp [go_sem, z2]⟩
theorem AB.set2 {h : Nat} {a : Ac} {u : World} (q : AB h a u) (x : Int) : AB h ⟨a.kind, a.am, x⟩ (u.setCell ⟨h, 2, none⟩ (.int .i64 x)) := by
  obtain ⟨c0, c1, c2, z0, z1, z2⟩ := q
  exact ⟨by simp [go_sem, c0], by simp [go_sem, c1], by simp [go_sem, c2], by simp [go_sem, z0], by simp [go_sem, z1], by simp [go_sem, z2]⟩
/-- while an act is drawn: the case's box, the answer's, the act's own, the cursor; nothing else of what stood has changed -/
structure AS (B g : Nat) (w : World) (k : Cs) (h : Nat) (a : Ac) (u : World) : Prop where
  cb : CB w.heap.size 0 k u
  rb : AB (w.heap.size + 1) ⟨0, 0, 0⟩ u
  ab : AB h a u
  cur : Cursor B u g
  gr : w.grownBy u (some g)
  gl : g < w.heap.size
  hl : w.heap.size + 1 < h
  bl : B ≤ w.heap.size
theorem AS.call {B g : Nat} {w : World} {k : Cs} {h : Nat} {a : Ac} {u u' : World} (q : AS B g w k h a u) (c : Cursor B u' g) (r : u.grownBy u' (some g)) : AS B g w k h a u' :=
  ⟨q.cb.grown r (by have := q.gl; simp; omega), q.rb.grown r (by have := q.gl; simp; omega), q.ab.grown r (by have := q.gl; have := q.hl; simp; omega), c, q.gr.trans r, q.gl, q.hl, q.bl⟩
theorem AS.alloc {B g : Nat} {w : World} {k : Cs} {h : Nat} {a : Ac} {u : World} (q : AS B g w k h a u) (o : Obj) : AS B g w k h a (u.alloc o) :=
  q.call (cursor_alloc q.cur o) (World.grownBy_alloc u o _)
theorem AS.at {B g : Nat} {w : World} {k : Cs} {h : Nat} {a a' : Ac} {u : World} (q : AS B g w k h a u) (i : Nat) (x : Value) (e : AB h a' (u.setCell ⟨h, i, none⟩ x)) : AS B g w k h a' (u.setCell ⟨h, i, none⟩ x) := by
  have l := q.hl
  have gl := q.gl
  have b : Below h u (u.setCell ⟨h, i, none⟩ x) := bel_at u h i x
  refine ⟨q.cb.under b (by omega), ?_, e, cursor_keep q.cur (b.mono (by have := q.bl; omega)), ⟨b.os.trans q.gr.os, b.tape.trans q.gr.tape, b.output.trans q.gr.output, Nat.le_trans q.gr.size b.size, fun j hj hne => (b.block j (by omega)).trans (q.gr.block j hj hne)⟩, gl, l, q.bl⟩
  · obtain ⟨c0, c1, c2, z0, z1, z2⟩ := q.rb
    exact ⟨(b.cell (p := ⟨w.heap.size + 1, 0, none⟩) l).trans c0, (b.cell (p := ⟨w.heap.size + 1, 1, none⟩) l).trans c1, (b.cell (p := ⟨w.heap.size + 1, 2, none⟩) l).trans c2, (b.frozen (p := ⟨w.heap.size + 1, 0, none⟩) l).trans z0, (b.frozen (p := ⟨w.heap.size + 1, 1, none⟩) l).trans z1, (b.frozen (p := ⟨w.heap.size + 1, 2, none⟩) l).trans z2⟩
end Go.Proofs.YtjnekdihmchlpaaGreatDoor
/- The first statement of a drawn act: a kind, an amount and a reason in a box, in whatever order. -/
namespace Go.Proofs.YtjnekdihmchlpaaGreatDoor
open Go.RowKit
set_option maxRecDepth 100000
def litR : Array Value := #[.int .i64 4837, .int .i64 4855, .int .i64 4834, .int .i64 4831, .int .i64 4853, .int .i64 4841]
/-- a world on the way through that statement: its box and its list, if they are made -/
structure AZ (B g : Nat) (w : World) (k : Cs) (u : World) (ob ol : Option Nat) : Prop where
  cb : CB w.heap.size 0 k u
  rb : AB (w.heap.size + 1) ⟨0, 0, 0⟩ u
  cur : Cursor B u g
  gr : w.grownBy u (some g)
  gl : g < w.heap.size
  bl : B ≤ w.heap.size
  box : ∀ h, ob = some h → w.heap.size + 1 < h ∧ AB h ⟨0, 0, 0⟩ u
  ls : ∀ b, ol = some b → w.heap.size + 1 < b ∧ ∀ i, i < 6 → u.cell? ⟨b, i, none⟩ = some (.int .i64 (rL.getD i 0))
theorem AZ.call {B g : Nat} {w : World} {k : Cs} {u u' : World} {ob ol : Option Nat} (q : AZ B g w k u ob ol) (c : Cursor B u' g) (r : u.grownBy u' (some g)) : AZ B g w k u' ob ol := by
  have gl := q.gl
  refine ⟨q.cb.grown r (by simp; omega), q.rb.grown r (by simp; omega), c, q.gr.trans r, gl, q.bl, fun h hh => ?_, fun b hb => ?_⟩
  · obtain ⟨h1, h2⟩ := q.box h hh
    exact ⟨h1, h2.grown r (by simp; omega)⟩
  · obtain ⟨h1, h2⟩ := q.ls b hb
    exact ⟨h1, fun i hi => (r.cell_far ⟨b, i, none⟩ (World.block_lt_of_cell? u _ (h2 i hi)) (by simp; omega)).trans (h2 i hi)⟩
theorem AZ.drew {B g : Nat} {w : World} {k : Cs} {u : World} {ob ol : Option Nat} (q : AZ B g w k u ob ol) : AZ B g w k u.drew ob ol := q.call (cursor_below q.cur ((Below.refl _ _).drew)) ⟨rfl, rfl, rfl, Nat.le_refl _, fun _ _ _ => rfl⟩
theorem AZ.al {B g : Nat} {w : World} {k : Cs} {u : World} {ol : Option Nat} (q : AZ B g w k u none ol) (t : TypeId) : AZ B g w k (u.alloc (.cells #[.int .i64 0, .int .i64 0, .int .i64 0] t)) (some u.heap.size) ol := by
  have p := q.call (cursor_alloc q.cur (.cells #[.int .i64 0, .int .i64 0, .int .i64 0] t)) (World.grownBy_alloc u _ _)
  refine ⟨p.cb, p.rb, p.cur, p.gr, p.gl, p.bl, fun h hh => ?_, p.ls⟩
  injection hh with hh
  subst hh
  exact ⟨q.rb.lt, AB.new u ⟨0, 0, 0⟩ t⟩
theorem AZ.lit {B g : Nat} {w : World} {k : Cs} {u : World} {ob : Option Nat} (q : AZ B g w k u ob none) (t : TypeId) : AZ B g w k (u.alloc (.cells #[.int .i64 4837, .int .i64 4855, .int .i64 4834, .int .i64 4831, .int .i64 4853, .int .i64 4841] t)) ob (some u.heap.size) := by
  have p := q.call (cursor_alloc q.cur (.cells #[.int .i64 4837, .int .i64 4855, .int .i64 4834, .int .i64 4831, .int .i64 4853, .int .i64 4841] t)) (World.grownBy_alloc u _ _)
  refine ⟨p.cb, p.rb, p.cur, p.gr, p.gl, p.bl, p.box, fun b hb => ?_⟩
  injection hb with hb
  subst hb
  refine ⟨q.rb.lt, fun i hi => ?_⟩
  rcases (show i = 0 ∨ i = 1 ∨ i = 2 ∨ i = 3 ∨ i = 4 ∨ i = 5 by omega) with rfl | rfl | rfl | rfl | rfl | rfl <;> simp [rL]
end Go.Proofs.YtjnekdihmchlpaaGreatDoor
/- The first statement of a drawn act, by itself: whatever the order, the act lies in its box. -/
namespace Go.Proofs.YtjnekdihmchlpaaGreatDoor
open Go.RowKit
set_option maxRecDepth 100000
theorem zBelow {B g : Nat} {w : World} {k : Cs} {u : World} {ob ol : Option Nat} (z : AZ B g w k u ob ol) (n : Int) (hn : n ≤ 1099511627776) :
    Calls Tryz.prog 46 #[.pointer (some ⟨g, 0, none⟩), .int .i64 n] u fun e u' => ∃ x : Int, e = .returned (.int .i64 x) ∧ 0 ≤ x ∧ (1 ≤ n → x < n) ∧ AZ B g w k u' ob ol :=
  (below_any g n u z.cur hn).mono fun _ _ ⟨x, he, h0, h1, hc, hg⟩ => ⟨x, he, h0, h1, z.call hc hg⟩
theorem zPickR {B g : Nat} {w : World} {k : Cs} {u : World} {ob : Option Nat} {b : Nat} (z : AZ B g w k u ob (some b)) :
    Calls Tryz.prog 19 #[.pointer (some ⟨g, 0, none⟩), .slice (some ⟨b, 0, none⟩) 6 6] u fun e u' => ∃ x : Int, e = .returned (.int .i64 x) ∧ x ∈ rL ∧ AZ B g w k u' ob (some b) := by
  obtain ⟨h1, h2⟩ := z.ls b rfl
  exact (pickInt_any g b 6 rL u z.cur (by have := z.gl; omega) (fun i hi => h2 i (by simpa [rL] using hi)) (by decide) (by decide)).mono fun _ _ ⟨x, he, hx, hc, hg⟩ => ⟨x, he, hx, z.call hc hg⟩
theorem AZ.now3 {B g : Nat} {w : World} {k : Cs} {u : World} {ob ol : Option Nat} (z : AZ B g w k u ob ol) : u.cell? ⟨w.heap.size, 3, none⟩ = some (.int .i64 k.am) := by have := z.cb.f3; simpa using this
theorem AS.new {B g : Nat} {w : World} {k : Cs} {u : World} {ol : Option Nat} (z : AZ B g w k u none ol) (a : Ac) (t : TypeId) : AS B g w k u.heap.size a (u.alloc (.cells #[.int .i64 a.kind, .int .i64 a.am, .int .i64 a.rsn] t)) := by
  have p := z.call (cursor_alloc z.cur (.cells #[.int .i64 a.kind, .int .i64 a.am, .int .i64 a.rsn] t)) (World.grownBy_alloc u _ _)
  exact ⟨p.cb, p.rb, AB.new u a t, p.cur, p.gr, p.gl, z.rb.lt, p.bl⟩
theorem AS.of {B g : Nat} {w : World} {k : Cs} {u : World} {h : Nat} {ol : Option Nat} (z : AZ B g w k u (some h) ol) (a : Ac) : AS B g w k h a (((u.setCell ⟨h, 0, none⟩ (.int .i64 a.kind)).setCell ⟨h, 1, none⟩ (.int .i64 a.am)).setCell ⟨h, 2, none⟩ (.int .i64 a.rsn)) := by
  obtain ⟨h1, h2⟩ := z.box h rfl
  have q : AS B g w k h ⟨0, 0, 0⟩ u := ⟨z.cb, z.rb, h2, z.cur, z.gr, z.gl, h1, z.bl⟩
  have q0 := q.at 0 _ (q.ab.set0 a.kind)
  have q1 := q0.at 1 _ (q0.ab.set1 a.am)
  exact q1.at 2 _ (q1.ab.set2 a.rsn)
end Go.Proofs.YtjnekdihmchlpaaGreatDoor
