/- A book with nothing but a day and its holidays, as it lies; the laws' comparison and marks at it. -/
import Derived.Test.YtenbhmmknejcjaaBStart
import Derived.Test.YtenbhmmknejcjaaBkNil
import Derived.Deep.AppendLies
import Derived.Test.YtenbhmmknejcjaaIntsEq
import Derived.Test.YtenbhmmknejcjaaMarkI
namespace Go.Proofs.Ytenbhmmknejcjaa
open Go.RowKit
set_option maxRecDepth 100000

structure SB (B : Nat) (t : Int) (a : Option Addr) (n k : Nat) (u : World) : Prop where
  c0 : u.cell? ⟨B, 0, none⟩ = some (.int .i64 t)
  c1 : u.cell? ⟨B, 1, none⟩ = some (.slice a n k)
  c2 : u.cell? ⟨B, 2, none⟩ = some (.slice none 0 0)
  c3 : u.cell? ⟨B, 3, none⟩ = some (.slice none 0 0)
  c4 : u.cell? ⟨B, 4, none⟩ = some (.slice none 0 0)
  c5 : u.cell? ⟨B, 5, none⟩ = some (.slice none 0 0)
theorem SB.lt {B : Nat} {t : Int} {a : Option Addr} {n k : Nat} {u : World} (h : SB B t a n k u) : B < u.heap.size := World.block_lt_of_cell? u _ h.c0
theorem SB.below {B : Nat} {t : Int} {a : Option Addr} {n k : Nat} {u u' : World} (h : SB B t a n k u) (b : Below u.heap.size u u') : SB B t a n k u' := by
  have l := h.lt
  exact ⟨(b.cell (p := ⟨B, 0, none⟩) l).trans h.c0, (b.cell (p := ⟨B, 1, none⟩) l).trans h.c1, (b.cell (p := ⟨B, 2, none⟩) l).trans h.c2, (b.cell (p := ⟨B, 3, none⟩) l).trans h.c3, (b.cell (p := ⟨B, 4, none⟩) l).trans h.c4, (b.cell (p := ⟨B, 5, none⟩) l).trans h.c5⟩
theorem SB.grown {B : Nat} {t : Int} {a : Option Addr} {n k : Nat} {u u' : World} {row : Option Nat} (h : SB B t a n k u) (g : u.grownBy u' row) (hr : some B ≠ row) : SB B t a n k u' := by
  have l := h.lt
  exact ⟨(g.cell_far ⟨B, 0, none⟩ l hr).trans h.c0, (g.cell_far ⟨B, 1, none⟩ l hr).trans h.c1, (g.cell_far ⟨B, 2, none⟩ l hr).trans h.c2, (g.cell_far ⟨B, 3, none⟩ l hr).trans h.c3, (g.cell_far ⟨B, 4, none⟩ l hr).trans h.c4, (g.cell_far ⟨B, 5, none⟩ l hr).trans h.c5⟩
theorem SB.new (w : World) (t : Int) (a : Option Addr) (n k : Nat) (ty : TypeId) : SB w.heap.size t a n k (w.alloc (.cells #[.int .i64 t, .slice a n k, .slice none 0 0, .slice none 0 0, .slice none 0 0, .slice none 0 0] ty)) := ⟨by simp, by simp, by simp, by simp, by simp, by simp⟩

theorem ints_farB {w u : World} {g : Nat} {ao : Option Addr} {zs : List Int} {row : Option Nat} (h : IntsAt w ao zs) (gr : w.grownBy u row) (ne : ∀ b off, ao = some ⟨b, off, none⟩ → some b ≠ row) (_hg : g = g) : IntsAt u ao zs := by
  rcases h with h | ⟨b, off, h1, h2, h3⟩
  · exact .inl h
  · exact .inr ⟨b, off, h1, Nat.lt_of_lt_of_le h2 gr.size, fun i hi => (gr.cell_far ⟨b, off + i, none⟩ h2 (ne b off h1)).trans (h3 i hi)⟩

set_option maxHeartbeats 3200000 in
theorem eqBook_bs (t : Int) (a b : Option Addr) (k l : Nat) (L : List Int) (w : World) (hx : IntsAt w a L) (hy : IntsAt w b L) (hn : L.length ≤ 1048576) :
    Calls Try.prog 16 #[bk0 t a L.length k, bk0 t b L.length l] w fun e w' => e = .returned (.bool true) ∧ Below w.heap.size w w' := by
  obtain ⟨W, hW⟩ : ∃ W, W = (w.alloc (.cells #[.int .i64 t, .slice a L.length k, .slice none 0 0, .slice none 0 0, .slice none 0 0, .slice none 0 0] 32)).alloc (.cells #[.int .i64 t, .slice b L.length l, .slice none 0 0, .slice none 0 0, .slice none 0 0, .slice none 0 0] 32) := ⟨_, rfl⟩
  have bW : Below w.heap.size w W := by rw [hW]; go_grown
  have s1 : SB w.heap.size t a L.length k W := by rw [hW]; exact (SB.new w t a L.length k _).below ((Below.refl _ _).alloc (Nat.le_refl _) _)
  have s2 : SB (w.heap.size + 1) t b L.length l W := by
    rw [hW]
    have h := SB.new (w.alloc (.cells #[.int .i64 t, .slice a L.length k, .slice none 0 0, .slice none 0 0, .slice none 0 0, .slice none 0 0] 32)) t b L.length l 32
    simpa using h
  have HW : Hid _ := hW
  have HX : Hid (IntsAt W a L) := hx.below bW
  have HY : Hid (IntsAt W b L) := hy.below bW
  have HBW : Hid (Below w.heap.size w W) := bW
  have HS : Hid (SB w.heap.size t a L.length k W ∧ SB (w.heap.size + 1) t b L.length l W) := ⟨s1, s2⟩
  obtain ⟨c0, c1, c2, c3, c4, c5⟩ := s1
  obtain ⟨d0, d1, d2, d3, d4, d5⟩ := s2
  clear hx hy bW hW
  unfold bk0
  go_enter Try.func16, Try.ntmps16
  go_upto_region 1 with fail
  rw [← HW.out]
  clear HW
  go_wp2_with fail
  refine (eqIntS_any _ _ _ _ L L _ HX.out HY.out (by omega) (by omega)).mono ?_
  rintro e w1 ⟨rfl, b1⟩
  clear c0 c1 c2 c3 c4 c5 d0 d1 d2 d3 d4 d5
  obtain ⟨-, -, c2, c3, c4, c5⟩ := HS.out.1.below b1
  obtain ⟨-, -, d2, d3, d4, d5⟩ := HS.out.2.below b1
  have HB1 : Hid (Below w.heap.size w w1) := next HBW.out b1
  have HS1 : Hid (SB w.heap.size t a L.length k w1 ∧ SB (w.heap.size + 1) t b L.length l w1) := ⟨HS.out.1.below b1, HS.out.2.below b1⟩
  clear b1 HX HY HS HBW
  go_wp2_with fail
  refine (eqAuthS_nil _).mono ?_
  rintro e w2 ⟨rfl, hw⟩
  replace hw := hw.symm
  subst hw
  go_wp2_with fail
  refine (eqCaseS_nil _).mono ?_
  rintro e w2 ⟨rfl, hw⟩
  replace hw := hw.symm
  subst hw
  go_wp2_with fail
  refine (eqLedger_nil _).mono ?_
  rintro e w2 ⟨rfl, b2⟩
  clear c2 c3 c4 c5 d2 d3 d4 d5
  obtain ⟨-, -, -, -, -, c5⟩ := HS1.out.1.below b2
  obtain ⟨-, -, -, -, -, d5⟩ := HS1.out.2.below b2
  have HB2 : Hid (Below w.heap.size w w2) := next HB1.out b2
  clear b2 HS1 HB1
  go_wp2_with fail
  refine (eqStringS_nil _).mono ?_
  rintro e w3 ⟨rfl, hw⟩
  replace hw := hw.symm
  subst hw
  go_wp2
  go_ret
  exact ⟨rfl, HB2.out⟩

set_option maxHeartbeats 3200000 in
theorem markBook_bs (t : Int) (a : Option Addr) (n k base : Nat) (xs : List Value) (w : World) (ho : w.ownsRow base 3 1 (.slice a n k) n xs) (hn : n ≤ 1048576) :
    Calls Try.prog 19 #[bk0 t a n k, .int .i64 1] w fun e w' => e = .returned (.int .i64 (1 + n)) ∧ w'.ownsRow base 3 1 (.slice a n k) n ((cnt 1 n).map (Value.int .i64)) ∧ w.grownBy w' (Value.slice a n k).ownBlock := by
  obtain ⟨W, hW⟩ : ∃ W, W = w.alloc (.cells #[.int .i64 t, .slice a n k, .slice none 0 0, .slice none 0 0, .slice none 0 0, .slice none 0 0] 32) := ⟨_, rfl⟩
  have s1 : SB w.heap.size t a n k W := by rw [hW]; exact SB.new w t a n k _
  have HO : Hid (W.ownsRow base 3 1 (.slice a n k) n xs) := by rw [Hid, hW]; exact ho.alloc _
  have HG : Hid (w.grownBy W (Value.slice a n k).ownBlock) := by rw [Hid, hW]; exact World.grownBy_alloc w _ _
  have HNE : Hid (some w.heap.size ≠ (Value.slice a n k).ownBlock) := fun h => by have := (ho.lt _ h.symm).2; omega
  have HW : Hid _ := hW
  have HS : Hid (SB w.heap.size t a n k W) := s1
  obtain ⟨c0, c1, c2, c3, c4, c5⟩ := s1
  clear hW ho
  unfold bk0
  go_enter Try.func19, Try.ntmps19
  go_upto_region 1 with fail
  rw [← HW.out]
  clear HW
  go_wp2_with fail
  refine (markIntS_any _ _ _ _ _ _ _ HO.out (by omega) (by omega) (by omega)).mono ?_
  rintro e w1 ⟨rfl, o1, g1⟩
  clear c0 c1 c2 c3 c4 c5
  obtain ⟨-, -, c2, c3, c4, c5⟩ := HS.out.grown g1 HNE.out
  have HS1 : Hid (SB w.heap.size t a n k w1) := HS.out.grown g1 HNE.out
  have HO1 : Hid (w1.ownsRow base 3 1 (.slice a n k) n ((cnt 1 n).map (Value.int .i64))) := o1
  have HG1 : Hid (w.grownBy w1 (Value.slice a n k).ownBlock) := HG.out.trans g1
  clear o1 g1 HS HO HG
  go_wp2_with fail
  refine (markAuthS_nil _ _).mono ?_
  rintro e w2 ⟨rfl, hw⟩
  replace hw := hw.symm
  subst hw
  go_wp2_with fail
  refine (markCaseS_nil _ _).mono ?_
  rintro e w2 ⟨rfl, hw⟩
  replace hw := hw.symm
  subst hw
  go_wp2_with fail
  refine (markLedger_nil _ _).mono ?_
  rintro e w2 ⟨rfl, b2⟩
  clear c2 c3 c4 c5
  obtain ⟨-, -, -, -, -, c5⟩ := HS1.out.below b2
  have HO2 : Hid (w2.ownsRow base 3 1 (.slice a n k) n ((cnt 1 n).map (Value.int .i64))) := own_below HO1.out b2
  have HG2 : Hid (w.grownBy w2 (Value.slice a n k).ownBlock) := HG1.out.trans ⟨b2.os, b2.tape, b2.output, b2.size, fun j hj _ => b2.block j hj⟩
  clear b2 HS1 HO1 HG1
  go_wp2_with fail
  refine (markStringS_nil _ _).mono ?_
  rintro e w3 ⟨rfl, hw⟩
  replace hw := hw.symm
  subst hw
  go_wp2
  go_ret
  exact ⟨rfl, HO2.out, HG2.out⟩

set_option maxHeartbeats 3200000 in
theorem heldBook_bs (t : Int) (a : Option Addr) (n k : Nat) (w : World) (hz : IntsAt w a (cnt 1 n)) (hn : n ≤ 1048576) :
    Calls Try.prog 20 #[bk0 t a n k, .int .i64 1] w fun e w' => e = .returned (.int .i64 (1 + n)) ∧ Below w.heap.size w w' := by
  obtain ⟨W, hW⟩ : ∃ W, W = w.alloc (.cells #[.int .i64 t, .slice a n k, .slice none 0 0, .slice none 0 0, .slice none 0 0, .slice none 0 0] 32) := ⟨_, rfl⟩
  have bW : Below w.heap.size w W := by rw [hW]; go_grown
  have s1 : SB w.heap.size t a n k W := by rw [hW]; exact SB.new w t a n k _
  have HZ : Hid (IntsAt W a (cnt 1 n)) := hz.below bW
  have HBW : Hid (Below w.heap.size w W) := bW
  have HW : Hid _ := hW
  have HS : Hid (SB w.heap.size t a n k W) := s1
  obtain ⟨c0, c1, c2, c3, c4, c5⟩ := s1
  have hk : ¬ (1 + (n : Int)) < 0 := by omega
  clear hW hz bW
  unfold bk0
  go_enter Try.func20, Try.ntmps20
  go_upto_region 1 with fail
  rw [← HW.out]
  clear HW
  go_wp2_with fail
  refine (heldIntS_any _ _ _ _ _ HZ.out (by omega) (by omega) (by omega)).mono ?_
  rintro e w1 ⟨rfl, hw⟩
  replace hw := hw.symm
  subst hw
  go_wp2_with fail
  refine (heldAuthS_nil _ _).mono ?_
  rintro e w2 ⟨rfl, hw⟩
  replace hw := hw.symm
  subst hw
  go_wp2_with fail
  refine (heldCaseS_nil _ _).mono ?_
  rintro e w2 ⟨rfl, hw⟩
  replace hw := hw.symm
  subst hw
  go_wp2_with fail
  refine (heldLedger_nil _ (by omega) _).mono ?_
  rintro e w2 ⟨rfl, b2⟩
  clear c0 c1 c2 c3 c4 c5
  obtain ⟨-, -, -, -, -, c5⟩ := HS.out.below b2
  have HB2 : Hid (Below w.heap.size w w2) := next HBW.out b2
  clear b2 HS HBW HZ
  go_wp2_with fail
  refine (heldStringS_nil _ _).mono ?_
  rintro e w3 ⟨rfl, hw⟩
  replace hw := hw.symm
  subst hw
  go_wp2
  go_ret
  exact ⟨rfl, HB2.out⟩

end Go.Proofs.Ytenbhmmknejcjaa
