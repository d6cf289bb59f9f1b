/- How much of a book the laws let through. -/
import Derived.Test.YtkdodamdjajbiaaBkIn
namespace Go.Proofs.Ytkdodamdjajbiaa
open Go.RowKit
set_option maxRecDepth 100000

theorem leftL_fact {n : Nat} {left : Int} (h : 0 ≤ leftL n left) : (n : Int) ≤ left ∧ leftL n left ≤ left := by
  unfold leftL at h ⊢
  split at h
  · omega
  · rename_i hh
    rw [if_neg hh]
    omega
set_option maxHeartbeats 800000 in
theorem szIntS_any (ao : Option Addr) (cap n : Nat) (left : Int) (w : World) (h0 : 0 ≤ left) (h1 : left ≤ 1048576) (hn : n ≤ 9223372036854775807) :
    Calls Try.prog 25 #[.slice ao n cap, .int .i64 left] w fun e w' => e = .returned (.int .i64 (leftL n left)) ∧ w' = w := by
  have hw : wrap64 (left - (n : Int)) = left - (n : Int) := by unfold wrap64; omega
  by_cases h : left - (n : Int) < 0
  · have e : leftL n left = -1 := if_pos h
    rw [e]
    go_enter Try.func25, Try.ntmps25
    go_wp2
    go_ret
    exact ⟨rfl, rfl⟩
  · have e : leftL n left = left - (n : Int) := if_neg h
    rw [e]
    go_enter Try.func25, Try.ntmps25
    go_wp2
    go_ret
    exact ⟨rfl, rfl⟩
/-- what the laws let through: small lists, and a log of no more bytes -/
def bkLg (b : Bk) : Prop := bkSm b ∧ (b.log.length : Int) + sumT b.log ≤ 1048576

set_option maxHeartbeats 12800000 in
theorem szBook_any (b : Bk) (p : Bp) (w : World) (hx : BookAt w b p) (hd : BkBd b) :
    Calls Try.prog 9 #[bkv b p, .int .i64 1048576] w fun e w' => ∃ n : Int, e = .returned (.int .i64 n) ∧ (0 ≤ n → bkLg b) ∧ Below w.heap.size w w' := by
  obtain ⟨W, hW⟩ : ∃ W, W = w.alloc (.cells #[.int .i64 b.today, .slice p.o b.off.length p.oc, .slice p.a b.az.length p.ac, .slice p.c b.cs.length p.cc, .slice p.l b.ls.length p.lc, .slice p.g b.log.length p.gc] 30) := ⟨_, rfl⟩
  have bW : Below w.heap.size w W := by rw [hW]; exact (Below.refl _ _).alloc (Nat.le_refl _) _
  have s1 : S6 w.heap.size b p W := by rw [hW]; exact S6.new w b p _
  have HX : Hid (BookAt W b p) := hx.below bW
  have HBW : Hid (Below w.heap.size w W) := bW
  have HS : Hid (S6 w.heap.size b p W) := s1
  have HW : Hid _ := hW
  have m1 : b.off.length ≤ 9223372036854775807 := by have := hd.off.1; unfold maxLen at this; omega
  have m3 : b.cs.length ≤ 9223372036854775807 := by have := hd.cs.1; unfold maxLen at this; omega
  have m4 : b.ls.length ≤ 9223372036854775807 := by have := hd.ls.1; unfold maxLen at this; omega
  have HDA : Hid (AuthsBd b.az) := hd.az
  have HDG : Hid (TxtsBd b.log) := hd.log
  obtain ⟨G, hG⟩ : ∃ G, G = bkLg b := ⟨_, rfl⟩
  have HG : Hid (b.off.length ≤ 1048576 → b.az.length ≤ 1048576 → b.cs.length ≤ 1048576 → b.ls.length ≤ 1048576 → (b.log.length : Int) + sumT b.log ≤ 1048576 → G) := by
    intro h1 h2 h3 h4 h5
    rw [hG]
    exact ⟨⟨h1, h2, h3, h4, by omega⟩, h5⟩
  rw [← hG]
  clear hx bW hW s1 hd hG
  obtain ⟨td, fo, az, cs, ls, lg⟩ := b
  obtain ⟨o, oc, a, ac, c, cc, l, lc, g, gc⟩ := p
  unfold bkv
  simp only at HW HDA HDG HG m1 m3 m4 ⊢
  obtain ⟨c0, c1, c2, c3, c4, c5⟩ := HS.out
  simp only at c0 c1 c2 c3 c4 c5
  go_enter Try.func9, Try.ntmps9
  go_upto_region 1 with fail
  rw [← HW.out]
  clear HW
  go_wp2_with fail
  refine (szIntS_any _ _ _ _ _ (by omega) (by omega) m1).mono ?_
  rintro e w1 ⟨rfl, hw⟩
  replace hw := hw.symm
  subst hw
  have f1 := @leftL_fact fo.length 1048576
  generalize leftL fo.length 1048576 = n1 at f1 ⊢
  by_cases h1 : n1 < 0
  · go_wp2
    go_ret
    exact ⟨_, rfl, fun h => absurd h (by decide), HBW.out⟩
  replace f1 := f1 (by omega)
  go_wp2_with fail
  refine (szAuthS_gen _ _ _ _ _ HX.out.az HDA.out (by omega) (by omega)).mono ?_
  rintro e w2 ⟨rfl, b2⟩
  have HX2 : Hid _ := HX.out.below b2
  have HS2 : Hid _ := HS.out.below b2
  have HB2 : Hid (Below w.heap.size w w2) := next HBW.out b2
  clear c0 c1 c2 c3 c4 c5 b2 HX HS HBW
  obtain ⟨c0, c1, c2, c3, c4, c5⟩ := HS2.out
  simp only at c0 c1 c2 c3 c4 c5
  have f2 := @leftAL_sum az n1
  generalize leftAL az n1 = n2 at f2 ⊢
  by_cases h2 : n2 < 0
  · go_wp2
    go_ret
    exact ⟨_, rfl, fun h => absurd h (by decide), HB2.out⟩
  replace f2 := f2 (by omega)
  have g2 : az.length ≤ 1048576 ∧ n2 ≤ 1048576 := by omega
  have g1 : fo.length ≤ 1048576 := by omega
  clear f1 f2
  go_wp2_with fail
  refine (szCaseS_any _ _ _ _ _ (by omega) (by omega) m3).mono ?_
  rintro e w3 ⟨rfl, hw⟩
  replace hw := hw.symm
  subst hw
  have f3 := @leftL_fact cs.length n2
  generalize leftL cs.length n2 = n3 at f3 ⊢
  by_cases h3 : n3 < 0
  · go_wp2
    go_ret
    exact ⟨_, rfl, fun h => absurd h (by decide), HB2.out⟩
  replace f3 := f3 (by omega)
  have g3 : cs.length ≤ 1048576 ∧ n3 ≤ 1048576 := by omega
  clear f3 h2
  go_wp2_with fail
  refine (szLedger_any _ _ _ _ _ (by omega) (by omega) m4).mono ?_
  rintro e w4 ⟨rfl, b4⟩
  have HX4 : Hid _ := HX2.out.below b4
  have HS4 : Hid _ := HS2.out.below b4
  have HB4 : Hid (Below w.heap.size w w4) := next HB2.out b4
  clear c0 c1 c2 c3 c4 c5 b4 HX2 HS2 HB2
  obtain ⟨c0, c1, c2, c3, c4, c5⟩ := HS4.out
  simp only at c0 c1 c2 c3 c4 c5
  have f4 := @leftL_fact ls.length n3
  generalize leftL ls.length n3 = n4 at f4 ⊢
  by_cases h4 : n4 < 0
  · go_wp2
    go_ret
    exact ⟨_, rfl, fun h => absurd h (by decide), HB4.out⟩
  replace f4 := f4 (by omega)
  have g4 : ls.length ≤ 1048576 ∧ n4 ≤ 1048576 := by omega
  clear f4 h3
  go_wp2_with fail
  refine (szStringS_gen _ _ _ _ _ HX4.out.log HDG.out (by omega) (by omega)).mono ?_
  rintro e w5 ⟨rfl, b5⟩
  have HB5 : Hid (Below w.heap.size w w5) := next HB4.out b5
  clear c0 c1 c2 c3 c4 c5 b5
  have f5 := @leftT_sum lg n4
  generalize leftT lg n4 = n5 at f5 ⊢
  by_cases h5 : n5 < 0
  · go_wp2
    go_ret
    exact ⟨_, rfl, fun h => absurd h (by decide), HB5.out⟩
  · replace f5 := f5 (by omega)
    go_wp2
    go_ret
    exact ⟨_, rfl, fun _ => HG.out g1 g2.1 g3.1 g4.1 (by omega), HB5.out⟩

end Go.Proofs.Ytkdodamdjajbiaa
