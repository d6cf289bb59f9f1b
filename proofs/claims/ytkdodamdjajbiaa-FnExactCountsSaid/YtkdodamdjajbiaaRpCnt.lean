/- Counts: how many cases are in each state; the program's and the specification's. -/
import Derived.Test.YtkdodamdjajbiaaRpP
import Derived.Test.YtkdodamdjajbiaaBkTo
namespace Go.Proofs.Ytkdodamdjajbiaa
open Go.RowKit
set_option maxRecDepth 100000

/-- how many cases are in a state -/
def cntF (cs : List Cs) (j : Nat) : Int := ((cs.filter fun c => decide (c.st = (j : Int))).length : Int)
theorem cntF_nil : cntF [] = fun _ => 0 := rfl
theorem cntF_bd (cs : List Cs) (j : Nat) : 0 ≤ cntF cs j ∧ cntF cs j ≤ cs.length := by
  have := List.length_filter_le (fun c : Cs => decide (c.st = (j : Int))) cs
  unfold cntF; omega
theorem cntF_in {cs : List Cs} {k : Nat} (h : k < cs.length) (j : Nat) (hs : (csAt cs k).st = (j : Int)) : cntF (cs.take (k + 1)) = fun i => if i = j then cntF (cs.take k) j + 1 else cntF (cs.take k) i := by
  funext i
  unfold cntF
  rw [take_csAt cs k h, List.filter_append, List.length_append]
  by_cases e : i = j
  · subst e
    simp [hs]
  · have : ¬ (csAt cs k).st = (i : Int) := by rw [hs]; omega
    simp [this, e]
theorem cntF_out {cs : List Cs} {k : Nat} (h : k < cs.length) (hs : (csAt cs k).st < 0 ∨ 7 < (csAt cs k).st) (i : Nat) (hi : i ≤ 7) : cntF (cs.take (k + 1)) i = cntF (cs.take k) i := by
  unfold cntF
  rw [take_csAt cs k h, List.filter_append, List.length_append]
  have : ¬ (csAt cs k).st = (i : Int) := by omega
  simp [this]
/-- eight numbers in a block that may be written -/
structure A8 (g : Nat) (f : Nat → Int) (u : World) : Prop where
  c0 : u.cell? ⟨g, 0, none⟩ = some (.int .i64 (f 0))
  c1 : u.cell? ⟨g, 1, none⟩ = some (.int .i64 (f 1))
  c2 : u.cell? ⟨g, 2, none⟩ = some (.int .i64 (f 2))
  c3 : u.cell? ⟨g, 3, none⟩ = some (.int .i64 (f 3))
  c4 : u.cell? ⟨g, 4, none⟩ = some (.int .i64 (f 4))
  c5 : u.cell? ⟨g, 5, none⟩ = some (.int .i64 (f 5))
  c6 : u.cell? ⟨g, 6, none⟩ = some (.int .i64 (f 6))
  c7 : u.cell? ⟨g, 7, none⟩ = some (.int .i64 (f 7))
  z0 : u.frozen? ⟨g, 0, none⟩ = false
  z1 : u.frozen? ⟨g, 1, none⟩ = false
  z2 : u.frozen? ⟨g, 2, none⟩ = false
  z3 : u.frozen? ⟨g, 3, none⟩ = false
  z4 : u.frozen? ⟨g, 4, none⟩ = false
  z5 : u.frozen? ⟨g, 5, none⟩ = false
  z6 : u.frozen? ⟨g, 6, none⟩ = false
  z7 : u.frozen? ⟨g, 7, none⟩ = false
theorem A8.lt {g : Nat} {f : Nat → Int} {u : World} (h : A8 g f u) : g < u.heap.size := World.block_lt_of_cell? u _ h.c0
theorem A8.under {g B : Nat} {f : Nat → Int} {u u' : World} (h : A8 g f u) (hb : Below B u u') (l : g < B) : A8 g f u' :=
  ⟨(hb.cell (p := ⟨g, 0, none⟩) l).trans h.c0, (hb.cell (p := ⟨g, 1, none⟩) l).trans h.c1, (hb.cell (p := ⟨g, 2, none⟩) l).trans h.c2, (hb.cell (p := ⟨g, 3, none⟩) l).trans h.c3, (hb.cell (p := ⟨g, 4, none⟩) l).trans h.c4, (hb.cell (p := ⟨g, 5, none⟩) l).trans h.c5, (hb.cell (p := ⟨g, 6, none⟩) l).trans h.c6, (hb.cell (p := ⟨g, 7, none⟩) l).trans h.c7, (hb.frozen (p := ⟨g, 0, none⟩) l).trans h.z0, (hb.frozen (p := ⟨g, 1, none⟩) l).trans h.z1, (hb.frozen (p := ⟨g, 2, none⟩) l).trans h.z2, (hb.frozen (p := ⟨g, 3, none⟩) l).trans h.z3, (hb.frozen (p := ⟨g, 4, none⟩) l).trans h.z4, (hb.frozen (p := ⟨g, 5, none⟩) l).trans h.z5, (hb.frozen (p := ⟨g, 6, none⟩) l).trans h.z6, (hb.frozen (p := ⟨g, 7, none⟩) l).trans h.z7⟩
theorem A8.below {g : Nat} {f : Nat → Int} {u u' : World} (h : A8 g f u) (hb : Below u.heap.size u u') : A8 g f u' := h.under hb h.lt
theorem A8.same {g : Nat} {f f' : Nat → Int} {u : World} (h : A8 g f u) (e : ∀ i, i ≤ 7 → f' i = f i) : A8 g f' u :=
  ⟨by rw [e 0 (by omega)]; exact h.c0, by rw [e 1 (by omega)]; exact h.c1, by rw [e 2 (by omega)]; exact h.c2, by rw [e 3 (by omega)]; exact h.c3, by rw [e 4 (by omega)]; exact h.c4, by rw [e 5 (by omega)]; exact h.c5, by rw [e 6 (by omega)]; exact h.c6, by rw [e 7 (by omega)]; exact h.c7, h.z0, h.z1, h.z2, h.z3, h.z4, h.z5, h.z6, h.z7⟩
theorem A8.new (w : World) (t : TypeId) : A8 w.heap.size (fun _ => 0) (w.alloc (.cells #[.int .i64 0, .int .i64 0, .int .i64 0, .int .i64 0, .int .i64 0, .int .i64 0, .int .i64 0, .int .i64 0] t)) :=
  ⟨by simp [go_sem], by simp [go_sem], by simp [go_sem], by simp [go_sem], by simp [go_sem], by simp [go_sem], by simp [go_sem], by simp [go_sem], by simp [go_sem], by simp [go_sem], by simp [go_sem], by simp [go_sem], by simp [go_sem], by simp [go_sem], by simp [go_sem], by simp [go_sem]⟩
set_option maxHeartbeats 1600000 in
theorem A8.set {g : Nat} {f : Nat → Int} {u : World} (h : A8 g f u) (j : Nat) (hj : j ≤ 7) (v : Int) : A8 g (fun i => if i = j then v else f i) (u.setCell ⟨g, j, none⟩ (.int .i64 v)) := by
  obtain ⟨c0, c1, c2, c3, c4, c5, c6, c7, z0, z1, z2, z3, z4, z5, z6, z7⟩ := h
  rcases (show j = 0 ∨ j = 1 ∨ j = 2 ∨ j = 3 ∨ j = 4 ∨ j = 5 ∨ j = 6 ∨ j = 7 by omega) with rfl | rfl | rfl | rfl | rfl | rfl | rfl | rfl
  · exact ⟨by simp [go_sem, c0], by simp [go_sem, c1], by simp [go_sem, c2], by simp [go_sem, c3], by simp [go_sem, c4], by simp [go_sem, c5], by simp [go_sem, c6], by simp [go_sem, c7], by simp [go_sem, z0], by simp [go_sem, z1], by simp [go_sem, z2], by simp [go_sem, z3], by simp [go_sem, z4], by simp [go_sem, z5], by simp [go_sem, z6], by simp [go_sem, z7]⟩
  · exact ⟨by simp [go_sem, c0], by simp [go_sem, c1], by simp [go_sem, c2], by simp [go_sem, c3], by simp [go_sem, c4], by simp [go_sem, c5], by simp [go_sem, c6], by simp [go_sem, c7], by simp [go_sem, z0], by simp [go_sem, z1], by simp [go_sem, z2], by simp [go_sem, z3], by simp [go_sem, z4], by simp [go_sem, z5], by simp [go_sem, z6], by simp [go_sem, z7]⟩
  · exact ⟨by simp [go_sem, c0], by simp [go_sem, c1], by simp [go_sem, c2], by simp [go_sem, c3], by simp [go_sem, c4], by simp [go_sem, c5], by simp [go_sem, c6], by simp [go_sem, c7], by simp [go_sem, z0], by simp [go_sem, z1], by simp [go_sem, z2], by simp [go_sem, z3], by simp [go_sem, z4], by simp [go_sem, z5], by simp [go_sem, z6], by simp [go_sem, z7]⟩
  · exact ⟨by simp [go_sem, c0], by simp [go_sem, c1], by simp [go_sem, c2], by simp [go_sem, c3], by simp [go_sem, c4], by simp [go_sem, c5], by simp [go_sem, c6], by simp [go_sem, c7], by simp [go_sem, z0], by simp [go_sem, z1], by simp [go_sem, z2], by simp [go_sem, z3], by simp [go_sem, z4], by simp [go_sem, z5], by simp [go_sem, z6], by simp [go_sem, z7]⟩
  · exact ⟨by simp [go_sem, c0], by simp [go_sem, c1], by simp [go_sem, c2], by simp [go_sem, c3], by simp [go_sem, c4], by simp [go_sem, c5], by simp [go_sem, c6], by simp [go_sem, c7], by simp [go_sem, z0], by simp [go_sem, z1], by simp [go_sem, z2], by simp [go_sem, z3], by simp [go_sem, z4], by simp [go_sem, z5], by simp [go_sem, z6], by simp [go_sem, z7]⟩
  · exact ⟨by simp [go_sem, c0], by simp [go_sem, c1], by simp [go_sem, c2], by simp [go_sem, c3], by simp [go_sem, c4], by simp [go_sem, c5], by simp [go_sem, c6], by simp [go_sem, c7], by simp [go_sem, z0], by simp [go_sem, z1], by simp [go_sem, z2], by simp [go_sem, z3], by simp [go_sem, z4], by simp [go_sem, z5], by simp [go_sem, z6], by simp [go_sem, z7]⟩
  · exact ⟨by simp [go_sem, c0], by simp [go_sem, c1], by simp [go_sem, c2], by simp [go_sem, c3], by simp [go_sem, c4], by simp [go_sem, c5], by simp [go_sem, c6], by simp [go_sem, c7], by simp [go_sem, z0], by simp [go_sem, z1], by simp [go_sem, z2], by simp [go_sem, z3], by simp [go_sem, z4], by simp [go_sem, z5], by simp [go_sem, z6], by simp [go_sem, z7]⟩
  · exact ⟨by simp [go_sem, c0], by simp [go_sem, c1], by simp [go_sem, c2], by simp [go_sem, c3], by simp [go_sem, c4], by simp [go_sem, c5], by simp [go_sem, c6], by simp [go_sem, c7], by simp [go_sem, z0], by simp [go_sem, z1], by simp [go_sem, z2], by simp [go_sem, z3], by simp [go_sem, z4], by simp [go_sem, z5], by simp [go_sem, z6], by simp [go_sem, z7]⟩
theorem A8.at {g : Nat} {f : Nat → Int} {u : World} (h : A8 g f u) (j : Nat) (hj : j ≤ 7) : u.cell? ⟨g, j, none⟩ = some (.int .i64 (f j)) ∧ u.frozen? ⟨g, j, none⟩ = false := by
  rcases (show j = 0 ∨ j = 1 ∨ j = 2 ∨ j = 3 ∨ j = 4 ∨ j = 5 ∨ j = 6 ∨ j = 7 by omega) with rfl | rfl | rfl | rfl | rfl | rfl | rfl | rfl
  · exact ⟨h.c0, h.z0⟩
  · exact ⟨h.c1, h.z1⟩
  · exact ⟨h.c2, h.z2⟩
  · exact ⟨h.c3, h.z3⟩
  · exact ⟨h.c4, h.z4⟩
  · exact ⟨h.c5, h.z5⟩
  · exact ⟨h.c6, h.z6⟩
  · exact ⟨h.c7, h.z7⟩
theorem S6.set {s g j : Nat} {b : Bk} {p : Bp} {u : World} (h : S6 s b p u) (hg : s < g) (v : Value) : S6 s b p (u.setCell ⟨g, j, none⟩ v) :=
  h.under (Below.setCell (p := ⟨g, j, none⟩) (Below.refl g u) (Nat.le_refl g) v) hg
def cnt8 (cs : List Cs) : Value := .agg #[.int .i64 (cntF cs 0), .int .i64 (cntF cs 1), .int .i64 (cntF cs 2), .int .i64 (cntF cs 3), .int .i64 (cntF cs 4), .int .i64 (cntF cs 5), .int .i64 (cntF cs 6), .int .i64 (cntF cs 7)]
def stOk (st : Int) : Bool := decide (0 ≤ st ∧ st ≤ 7)
theorem stOk_any (st : Int) (w : World) : Calls Try.prog 45 #[.int .i64 st] w fun e w' => e = .returned (.bool (stOk st)) ∧ w' = w := by
  by_cases h1 : 0 ≤ st
  · by_cases h2 : st < 8
    · have HV : Hid (stOk st = true) := by simp [Hid, stOk]; omega
      go_enter Try.func45, Try.ntmps45
      go_wp2
      go_ret
      exact ⟨one_bool HV.out.symm, rfl⟩
    · have HV : Hid (stOk st = false) := by simp [Hid, stOk]; omega
      go_enter Try.func45, Try.ntmps45
      go_wp2
      go_ret
      exact ⟨one_bool HV.out.symm, rfl⟩
  · have HV : Hid (stOk st = false) := by simp [Hid, stOk]; omega
    go_enter Try.func45, Try.ntmps45
    go_wp2
    go_ret
    exact ⟨one_bool HV.out.symm, rfl⟩
theorem sIn7_any (st : Int) (w : World) : Calls Try.prog 44 #[.int .i64 st, .int .i64 0, .int .i64 7] w fun e w' => e = .returned (.bool (stOk st)) ∧ w' = w := by
  by_cases h1 : 0 ≤ st
  · by_cases h2 : st ≤ 7
    · have HV : Hid (stOk st = true) := by simp [Hid, stOk]; omega
      go_enter Try.func44, Try.ntmps44
      go_wp2
      go_ret
      exact ⟨one_bool HV.out.symm, rfl⟩
    · have HV : Hid (stOk st = false) := by simp [Hid, stOk]; omega
      go_enter Try.func44, Try.ntmps44
      go_wp2
      go_ret
      exact ⟨one_bool HV.out.symm, rfl⟩
  · have HV : Hid (stOk st = false) := by simp [Hid, stOk]; omega
    go_enter Try.func44, Try.ntmps44
    go_wp2
    go_ret
    exact ⟨one_bool HV.out.symm, rfl⟩
set_option maxHeartbeats 12800000 in
theorem iCounts_any (b : Bk) (p : Bp) (w : World) (hx : BookAt w b p) (hn : bkSm b) :
    Calls Try.prog 15 #[bkv b p] w fun e w' => e = .returned (cnt8 b.cs) ∧ Below w.heap.size w w' := by
  obtain ⟨W, hW⟩ : ∃ W, W = ((w.alloc (.cells #[.int .i64 b.today, .slice p.o b.off.length p.oc, .slice p.a b.az.length p.ac, .slice p.c b.cs.length p.cc, .slice p.l b.ls.length p.lc, .slice p.g b.log.length p.gc] 39)).alloc (.cells #[.int .i64 0, .int .i64 0, .int .i64 0, .int .i64 0, .int .i64 0, .int .i64 0, .int .i64 0, .int .i64 0] 43)).alloc (.cells #[.int .i64 0, .int .i64 0, .int .i64 0, .int .i64 0, .int .i64 0, .int .i64 0, .int .i64 0, .int .i64 0] 43) := ⟨_, rfl⟩
  have hs1 : (w.alloc (.cells #[.int .i64 b.today, .slice p.o b.off.length p.oc, .slice p.a b.az.length p.ac, .slice p.c b.cs.length p.cc, .slice p.l b.ls.length p.lc, .slice p.g b.log.length p.gc] 39)).heap.size = w.heap.size + 1 := by simp
  have hs2 : ((w.alloc (.cells #[.int .i64 b.today, .slice p.o b.off.length p.oc, .slice p.a b.az.length p.ac, .slice p.c b.cs.length p.cc, .slice p.l b.ls.length p.lc, .slice p.g b.log.length p.gc] 39)).alloc (.cells #[.int .i64 0, .int .i64 0, .int .i64 0, .int .i64 0, .int .i64 0, .int .i64 0, .int .i64 0, .int .i64 0] 43)).heap.size = w.heap.size + 1 + 1 := by simp
  have bW : Below w.heap.size w W := by rw [hW]; go_grown
  have HS : Hid (S6 w.heap.size b p W) := by rw [Hid, hW]; exact ((S6.new w b p _).below ((Below.refl _ _).alloc (Nat.le_refl _) _)).below ((Below.refl _ _).alloc (Nat.le_refl _) _)
  have HA1 : Hid (A8 (w.heap.size + 1) (fun _ => 0) W) := by
    rw [Hid, hW, ← hs1]; exact (A8.new _ _).below ((Below.refl _ _).alloc (Nat.le_refl _) _)
  have HA2 : Hid (A8 (w.heap.size + 1 + 1) (fun _ => 0) W) := by
    rw [Hid, hW, ← hs2]; exact A8.new _ _
  have HX : Hid (CasesAt w p.c b.cs) := hx.cs
  have hcn := hn.2.2.1
  have HW : Hid _ := hW
  have HBW : Hid (Below w.heap.size w W) := bW
  clear hx hn hW bW hs1 hs2
  obtain ⟨td, fo, az, cs, ls, lg⟩ := b
  obtain ⟨o, oc, a, ac, c, cc, l, lc, g, gc⟩ := p
  unfold bkv
  simp only at HW HX hcn HS ⊢
  obtain ⟨x0, x1, x2, x3, x4, x5⟩ := HS.out
  simp only at x0 x1 x2 x3 x4 x5
  go_enter Try.func15, Try.ntmps15
  go_upto_region 2 with fail
  rw [← HW.out]
  clear HW
  go_wp2_with fail
  go_loopw [9] (fun i wr => ∃ k : Nat, k ≤ cs.length ∧ i = .int .i64 (k : Int) ∧ S6 w.heap.size ⟨td, fo, az, cs, ls, lg⟩ ⟨o, oc, a, ac, c, cc, l, lc, g, gc⟩ wr ∧ A8 (w.heap.size + 1) (fun _ => 0) wr ∧ A8 (w.heap.size + 1 + 1) (cntF (cs.take k)) wr ∧ Below w.heap.size w wr) (fun i _ => cs.length - (intOf i).toNat)
  case atStart => exact ⟨0, Nat.zero_le _, rfl, HS.out, HA1.out, HA2.out, HBW.out⟩
  case round =>
    obtain ⟨k, hk, rfl, hs6, ha1, ha2, hbr⟩ := hrel
    have HBR : Hid (Below w.heap.size w wr) := hbr
    have HS6 : Hid _ := hs6
    have H1 : Hid _ := ha1
    have H2 : Hid (A8 (w.heap.size + 1 + 1) (cntF (cs.take k)) wr) := ha2
    clear x0 x1 x2 x3 x4 x5
    obtain ⟨x0, x1, x2, x3, x4, x5⟩ := hs6
    simp only at x0 x1 x2 x3 x4 x5
    by_cases hlt : k < cs.length
    · have hki : (k : Int) < (cs.length : Int) := by omega
      obtain ⟨cb, off, rfl, hb2, hcb⟩ := (HX.out.below hbr).at hlt
      have HIN : Hid _ := @cntF_in cs k hlt
      have HOUT : Hid _ := @cntF_out cs k hlt
      obtain ⟨⟨iss, acq, cur, am, st, rsn, cl, bk, fee, cop, sta, due⟩, hc⟩ : ∃ f, csAt cs k = f := ⟨_, rfl⟩
      rw [hc] at hcb HIN HOUT
      obtain ⟨y0, y1, y2, y3, y4, y5, y6, y7, y8, y9, y10, y11⟩ := hcb
      simp only at y0 y1 y2 y3 y4 y5 y6 y7 y8 y9 y10 y11 HIN HOUT
      have hbd : ∀ j, 0 ≤ cntF (cs.take k) j ∧ cntF (cs.take k) j ≤ 1048576 := fun j => by
        have := cntF_bd (cs.take k) j
        have e : (cs.take k).length ≤ 1048576 := by simp; omega
        omega
      clear hc hbr hb2 ha1 ha2
      obtain ⟨U, hU⟩ : ∃ U, U = wr.alloc (.cells #[.int .i64 iss, .int .i64 acq, .int .i64 cur, .int .i64 am, .int .i64 st, .int .i64 rsn, .int .i64 cl, .int .i64 bk, .int .i64 fee, .bool cop, .int .i64 sta, .int .i64 due] 57) := ⟨_, rfl⟩
      have bU : Below wr.heap.size wr U := by rw [hU]; exact (Below.refl _ _).alloc (Nat.le_refl _) _
      have hcU : CB wr.heap.size 0 ⟨iss, acq, cur, am, st, rsn, cl, bk, fee, cop, sta, due⟩ U := by rw [hU]; exact CB.new wr ⟨iss, acq, cur, am, st, rsn, cl, bk, fee, cop, sta, due⟩ _
      go_upto_region 5 with fail
      rw [← hU]
      replace HBR : Hid (Below w.heap.size w U) := next HBR.out bU
      replace HS6 : Hid _ := HS6.out.below bU
      replace H1 : Hid _ := H1.out.below bU
      replace H2 : Hid (A8 (w.heap.size + 1 + 1) (cntF (cs.take k)) U) := H2.out.below bU
      clear hU bU y0 y1 y2 y3 y4 y5 y6 y7 y8 y9 y10 y11 x0 x1 x2 x3 x4 x5
      obtain ⟨z0, z1, z2, z3, z4, z5, z6, z7, z8, z9, z10, z11⟩ := hcU
      simp only [Nat.zero_add] at z0 z1 z2 z3 z4 z5 z6 z7 z8 z9 z10 z11
      by_cases hin : 0 ≤ st ∧ st ≤ 7
      · have hst : st = 0 ∨ st = 1 ∨ st = 2 ∨ st = 3 ∨ st = 4 ∨ st = 5 ∨ st = 6 ∨ st = 7 := by omega
        obtain ⟨t0, t1⟩ := hin
        rcases hst with rfl | rfl | rfl | rfl | rfl | rfl | rfl | rfl
        · have HR : Hid _ := HIN.out 0 rfl
          obtain ⟨n, hn⟩ : ∃ n, cntF (cs.take k) 0 = n := ⟨_, rfl⟩
          have hnb := hbd 0
          rw [hn] at HR hnb
          have hcj := H2.out.c0
          have hzj := H2.out.z0
          rw [hn] at hcj
          have hwr : IntKind.i64.wrap (n + 1) = n + 1 := by rw [IntKind.wrap_i64]; omega
          have HQ2 : Hid (A8 (w.heap.size + 1 + 1) (cntF (cs.take (k + 1))) (U.setCell ⟨w.heap.size + 1 + 1, 0, none⟩ (.int .i64 (n + 1)))) := by
            rw [Hid, HR.out]; exact H2.out.set 0 (by omega) (n + 1)
          have HQ1 : Hid (A8 (w.heap.size + 1) (fun _ => 0) (U.setCell ⟨w.heap.size + 1 + 1, 0, none⟩ (.int .i64 (n + 1)))) := H1.out.under (Below.setCell (p := ⟨w.heap.size + 1 + 1, 0, none⟩) (Below.refl (w.heap.size + 1 + 1) U) (Nat.le_refl _) _) (by omega)
          have HQS : Hid _ := @S6.set _ (w.heap.size + 1 + 1) 0 _ _ _ HS6.out (by omega) (.int .i64 (n + 1))
          have HQB : Hid (Below w.heap.size w (U.setCell ⟨w.heap.size + 1 + 1, 0, none⟩ (.int .i64 (n + 1)))) := Below.setCell (p := ⟨w.heap.size + 1 + 1, 0, none⟩) HBR.out (by simp; omega) _
          clear hn hbd HIN HOUT t0 t1
          go_wp2_with (go_at_call 45; refine (stOk_any _ _).mono ?_; rintro e w' ⟨rfl, rfl⟩)
          go_roundw
          case rel => exact ⟨k + 1, by omega, by go_num, HQS.out, HQ1.out, HQ2.out, HQB.out⟩
          case measure => simp [intOf]; omega
        · have HR : Hid _ := HIN.out 1 rfl
          obtain ⟨n, hn⟩ : ∃ n, cntF (cs.take k) 1 = n := ⟨_, rfl⟩
          have hnb := hbd 1
          rw [hn] at HR hnb
          have hcj := H2.out.c1
          have hzj := H2.out.z1
          rw [hn] at hcj
          have hwr : IntKind.i64.wrap (n + 1) = n + 1 := by rw [IntKind.wrap_i64]; omega
          have HQ2 : Hid (A8 (w.heap.size + 1 + 1) (cntF (cs.take (k + 1))) (U.setCell ⟨w.heap.size + 1 + 1, 1, none⟩ (.int .i64 (n + 1)))) := by
            rw [Hid, HR.out]; exact H2.out.set 1 (by omega) (n + 1)
          have HQ1 : Hid (A8 (w.heap.size + 1) (fun _ => 0) (U.setCell ⟨w.heap.size + 1 + 1, 1, none⟩ (.int .i64 (n + 1)))) := H1.out.under (Below.setCell (p := ⟨w.heap.size + 1 + 1, 1, none⟩) (Below.refl (w.heap.size + 1 + 1) U) (Nat.le_refl _) _) (by omega)
          have HQS : Hid _ := @S6.set _ (w.heap.size + 1 + 1) 1 _ _ _ HS6.out (by omega) (.int .i64 (n + 1))
          have HQB : Hid (Below w.heap.size w (U.setCell ⟨w.heap.size + 1 + 1, 1, none⟩ (.int .i64 (n + 1)))) := Below.setCell (p := ⟨w.heap.size + 1 + 1, 1, none⟩) HBR.out (by simp; omega) _
          clear hn hbd HIN HOUT t0 t1
          go_wp2_with (go_at_call 45; refine (stOk_any _ _).mono ?_; rintro e w' ⟨rfl, rfl⟩)
          go_roundw
          case rel => exact ⟨k + 1, by omega, by go_num, HQS.out, HQ1.out, HQ2.out, HQB.out⟩
          case measure => simp [intOf]; omega
        · have HR : Hid _ := HIN.out 2 rfl
          obtain ⟨n, hn⟩ : ∃ n, cntF (cs.take k) 2 = n := ⟨_, rfl⟩
          have hnb := hbd 2
          rw [hn] at HR hnb
          have hcj := H2.out.c2
          have hzj := H2.out.z2
          rw [hn] at hcj
          have hwr : IntKind.i64.wrap (n + 1) = n + 1 := by rw [IntKind.wrap_i64]; omega
          have HQ2 : Hid (A8 (w.heap.size + 1 + 1) (cntF (cs.take (k + 1))) (U.setCell ⟨w.heap.size + 1 + 1, 2, none⟩ (.int .i64 (n + 1)))) := by
            rw [Hid, HR.out]; exact H2.out.set 2 (by omega) (n + 1)
          have HQ1 : Hid (A8 (w.heap.size + 1) (fun _ => 0) (U.setCell ⟨w.heap.size + 1 + 1, 2, none⟩ (.int .i64 (n + 1)))) := H1.out.under (Below.setCell (p := ⟨w.heap.size + 1 + 1, 2, none⟩) (Below.refl (w.heap.size + 1 + 1) U) (Nat.le_refl _) _) (by omega)
          have HQS : Hid _ := @S6.set _ (w.heap.size + 1 + 1) 2 _ _ _ HS6.out (by omega) (.int .i64 (n + 1))
          have HQB : Hid (Below w.heap.size w (U.setCell ⟨w.heap.size + 1 + 1, 2, none⟩ (.int .i64 (n + 1)))) := Below.setCell (p := ⟨w.heap.size + 1 + 1, 2, none⟩) HBR.out (by simp; omega) _
          clear hn hbd HIN HOUT t0 t1
          go_wp2_with (go_at_call 45; refine (stOk_any _ _).mono ?_; rintro e w' ⟨rfl, rfl⟩)
          go_roundw
          case rel => exact ⟨k + 1, by omega, by go_num, HQS.out, HQ1.out, HQ2.out, HQB.out⟩
          case measure => simp [intOf]; omega
        · have HR : Hid _ := HIN.out 3 rfl
          obtain ⟨n, hn⟩ : ∃ n, cntF (cs.take k) 3 = n := ⟨_, rfl⟩
          have hnb := hbd 3
          rw [hn] at HR hnb
          have hcj := H2.out.c3
          have hzj := H2.out.z3
          rw [hn] at hcj
          have hwr : IntKind.i64.wrap (n + 1) = n + 1 := by rw [IntKind.wrap_i64]; omega
          have HQ2 : Hid (A8 (w.heap.size + 1 + 1) (cntF (cs.take (k + 1))) (U.setCell ⟨w.heap.size + 1 + 1, 3, none⟩ (.int .i64 (n + 1)))) := by
            rw [Hid, HR.out]; exact H2.out.set 3 (by omega) (n + 1)
          have HQ1 : Hid (A8 (w.heap.size + 1) (fun _ => 0) (U.setCell ⟨w.heap.size + 1 + 1, 3, none⟩ (.int .i64 (n + 1)))) := H1.out.under (Below.setCell (p := ⟨w.heap.size + 1 + 1, 3, none⟩) (Below.refl (w.heap.size + 1 + 1) U) (Nat.le_refl _) _) (by omega)
          have HQS : Hid _ := @S6.set _ (w.heap.size + 1 + 1) 3 _ _ _ HS6.out (by omega) (.int .i64 (n + 1))
          have HQB : Hid (Below w.heap.size w (U.setCell ⟨w.heap.size + 1 + 1, 3, none⟩ (.int .i64 (n + 1)))) := Below.setCell (p := ⟨w.heap.size + 1 + 1, 3, none⟩) HBR.out (by simp; omega) _
          clear hn hbd HIN HOUT t0 t1
          go_wp2_with (go_at_call 45; refine (stOk_any _ _).mono ?_; rintro e w' ⟨rfl, rfl⟩)
          go_roundw
          case rel => exact ⟨k + 1, by omega, by go_num, HQS.out, HQ1.out, HQ2.out, HQB.out⟩
          case measure => simp [intOf]; omega
        · have HR : Hid _ := HIN.out 4 rfl
          obtain ⟨n, hn⟩ : ∃ n, cntF (cs.take k) 4 = n := ⟨_, rfl⟩
          have hnb := hbd 4
          rw [hn] at HR hnb
          have hcj := H2.out.c4
          have hzj := H2.out.z4
          rw [hn] at hcj
          have hwr : IntKind.i64.wrap (n + 1) = n + 1 := by rw [IntKind.wrap_i64]; omega
          have HQ2 : Hid (A8 (w.heap.size + 1 + 1) (cntF (cs.take (k + 1))) (U.setCell ⟨w.heap.size + 1 + 1, 4, none⟩ (.int .i64 (n + 1)))) := by
            rw [Hid, HR.out]; exact H2.out.set 4 (by omega) (n + 1)
          have HQ1 : Hid (A8 (w.heap.size + 1) (fun _ => 0) (U.setCell ⟨w.heap.size + 1 + 1, 4, none⟩ (.int .i64 (n + 1)))) := H1.out.under (Below.setCell (p := ⟨w.heap.size + 1 + 1, 4, none⟩) (Below.refl (w.heap.size + 1 + 1) U) (Nat.le_refl _) _) (by omega)
          have HQS : Hid _ := @S6.set _ (w.heap.size + 1 + 1) 4 _ _ _ HS6.out (by omega) (.int .i64 (n + 1))
          have HQB : Hid (Below w.heap.size w (U.setCell ⟨w.heap.size + 1 + 1, 4, none⟩ (.int .i64 (n + 1)))) := Below.setCell (p := ⟨w.heap.size + 1 + 1, 4, none⟩) HBR.out (by simp; omega) _
          clear hn hbd HIN HOUT t0 t1
          go_wp2_with (go_at_call 45; refine (stOk_any _ _).mono ?_; rintro e w' ⟨rfl, rfl⟩)
          go_roundw
          case rel => exact ⟨k + 1, by omega, by go_num, HQS.out, HQ1.out, HQ2.out, HQB.out⟩
          case measure => simp [intOf]; omega
        · have HR : Hid _ := HIN.out 5 rfl
          obtain ⟨n, hn⟩ : ∃ n, cntF (cs.take k) 5 = n := ⟨_, rfl⟩
          have hnb := hbd 5
          rw [hn] at HR hnb
          have hcj := H2.out.c5
          have hzj := H2.out.z5
          rw [hn] at hcj
          have hwr : IntKind.i64.wrap (n + 1) = n + 1 := by rw [IntKind.wrap_i64]; omega
          have HQ2 : Hid (A8 (w.heap.size + 1 + 1) (cntF (cs.take (k + 1))) (U.setCell ⟨w.heap.size + 1 + 1, 5, none⟩ (.int .i64 (n + 1)))) := by
            rw [Hid, HR.out]; exact H2.out.set 5 (by omega) (n + 1)
          have HQ1 : Hid (A8 (w.heap.size + 1) (fun _ => 0) (U.setCell ⟨w.heap.size + 1 + 1, 5, none⟩ (.int .i64 (n + 1)))) := H1.out.under (Below.setCell (p := ⟨w.heap.size + 1 + 1, 5, none⟩) (Below.refl (w.heap.size + 1 + 1) U) (Nat.le_refl _) _) (by omega)
          have HQS : Hid _ := @S6.set _ (w.heap.size + 1 + 1) 5 _ _ _ HS6.out (by omega) (.int .i64 (n + 1))
          have HQB : Hid (Below w.heap.size w (U.setCell ⟨w.heap.size + 1 + 1, 5, none⟩ (.int .i64 (n + 1)))) := Below.setCell (p := ⟨w.heap.size + 1 + 1, 5, none⟩) HBR.out (by simp; omega) _
          clear hn hbd HIN HOUT t0 t1
          go_wp2_with (go_at_call 45; refine (stOk_any _ _).mono ?_; rintro e w' ⟨rfl, rfl⟩)
          go_roundw
          case rel => exact ⟨k + 1, by omega, by go_num, HQS.out, HQ1.out, HQ2.out, HQB.out⟩
          case measure => simp [intOf]; omega
        · have HR : Hid _ := HIN.out 6 rfl
          obtain ⟨n, hn⟩ : ∃ n, cntF (cs.take k) 6 = n := ⟨_, rfl⟩
          have hnb := hbd 6
          rw [hn] at HR hnb
          have hcj := H2.out.c6
          have hzj := H2.out.z6
          rw [hn] at hcj
          have hwr : IntKind.i64.wrap (n + 1) = n + 1 := by rw [IntKind.wrap_i64]; omega
          have HQ2 : Hid (A8 (w.heap.size + 1 + 1) (cntF (cs.take (k + 1))) (U.setCell ⟨w.heap.size + 1 + 1, 6, none⟩ (.int .i64 (n + 1)))) := by
            rw [Hid, HR.out]; exact H2.out.set 6 (by omega) (n + 1)
          have HQ1 : Hid (A8 (w.heap.size + 1) (fun _ => 0) (U.setCell ⟨w.heap.size + 1 + 1, 6, none⟩ (.int .i64 (n + 1)))) := H1.out.under (Below.setCell (p := ⟨w.heap.size + 1 + 1, 6, none⟩) (Below.refl (w.heap.size + 1 + 1) U) (Nat.le_refl _) _) (by omega)
          have HQS : Hid _ := @S6.set _ (w.heap.size + 1 + 1) 6 _ _ _ HS6.out (by omega) (.int .i64 (n + 1))
          have HQB : Hid (Below w.heap.size w (U.setCell ⟨w.heap.size + 1 + 1, 6, none⟩ (.int .i64 (n + 1)))) := Below.setCell (p := ⟨w.heap.size + 1 + 1, 6, none⟩) HBR.out (by simp; omega) _
          clear hn hbd HIN HOUT t0 t1
          go_wp2_with (go_at_call 45; refine (stOk_any _ _).mono ?_; rintro e w' ⟨rfl, rfl⟩)
          go_roundw
          case rel => exact ⟨k + 1, by omega, by go_num, HQS.out, HQ1.out, HQ2.out, HQB.out⟩
          case measure => simp [intOf]; omega
        · have HR : Hid _ := HIN.out 7 rfl
          obtain ⟨n, hn⟩ : ∃ n, cntF (cs.take k) 7 = n := ⟨_, rfl⟩
          have hnb := hbd 7
          rw [hn] at HR hnb
          have hcj := H2.out.c7
          have hzj := H2.out.z7
          rw [hn] at hcj
          have hwr : IntKind.i64.wrap (n + 1) = n + 1 := by rw [IntKind.wrap_i64]; omega
          have HQ2 : Hid (A8 (w.heap.size + 1 + 1) (cntF (cs.take (k + 1))) (U.setCell ⟨w.heap.size + 1 + 1, 7, none⟩ (.int .i64 (n + 1)))) := by
            rw [Hid, HR.out]; exact H2.out.set 7 (by omega) (n + 1)
          have HQ1 : Hid (A8 (w.heap.size + 1) (fun _ => 0) (U.setCell ⟨w.heap.size + 1 + 1, 7, none⟩ (.int .i64 (n + 1)))) := H1.out.under (Below.setCell (p := ⟨w.heap.size + 1 + 1, 7, none⟩) (Below.refl (w.heap.size + 1 + 1) U) (Nat.le_refl _) _) (by omega)
          have HQS : Hid _ := @S6.set _ (w.heap.size + 1 + 1) 7 _ _ _ HS6.out (by omega) (.int .i64 (n + 1))
          have HQB : Hid (Below w.heap.size w (U.setCell ⟨w.heap.size + 1 + 1, 7, none⟩ (.int .i64 (n + 1)))) := Below.setCell (p := ⟨w.heap.size + 1 + 1, 7, none⟩) HBR.out (by simp; omega) _
          clear hn hbd HIN HOUT t0 t1
          go_wp2_with (go_at_call 45; refine (stOk_any _ _).mono ?_; rintro e w' ⟨rfl, rfl⟩)
          go_roundw
          case rel => exact ⟨k + 1, by omega, by go_num, HQS.out, HQ1.out, HQ2.out, HQB.out⟩
          case measure => simp [intOf]; omega
      · have HR : Hid _ := fun i => HOUT.out (by omega) i
        have hok : stOk st = false := by simp [stOk]; omega
        have HQ2 : Hid (A8 (w.heap.size + 1 + 1) (cntF (cs.take (k + 1))) U) := H2.out.same HR.out
        clear hbd HIN HOUT
        go_wp2_with (go_at_call 45; refine (stOk_any _ _).mono ?_; rintro e w' ⟨rfl, rfl⟩; rw [hok])
        go_roundw
        case rel => exact ⟨k + 1, by omega, by go_num, HS6.out, H1.out, HQ2.out, HBR.out⟩
        case measure => simp [intOf]; omega
    · have hke : k = cs.length := by omega
      subst hke
      have hki : ¬ (cs.length : Int) < (cs.length : Int) := by omega
      rw [List.take_length] at ha2
      obtain ⟨a0, a1, a2, a3, a4, a5, a6, a7, q0, q1, q2, q3, q4, q5, q6, q7⟩ := ha1
      obtain ⟨c0, c1, c2, c3, c4, c5, c6, c7, z0, z1, z2, z3, z4, z5, z6, z7⟩ := ha2
      clear hbr H1 H2 HS6
      go_wp2
      refine bodyPost_ret (by simp [results, Try.results15, go_sem, a0, a1, a2, a3, a4, a5, a6, a7]; try rfl) rfl ?_
      exact ⟨rfl, (((((((HBR.out.setCell (by simp) _).setCell (by simp) _).setCell (by simp) _).setCell (by simp) _).setCell (by simp) _).setCell (by simp) _).setCell (by simp) _).setCell (by simp) _⟩

end Go.Proofs.Ytkdodamdjajbiaa
