/- The law's own comparison of two messages. -/
import Derived.Test.YtggaadbcifbdeaaMsgOwn
import Derived.Test.YtggaadbcifbdeaaOver
import Derived.Test.YtggaadbcifbdeaaBox3
namespace Go.Proofs.Ytggaadbcifbdeaa
open Go.RowKit

def sameM (k1 k2 : Int) (xs ys : List Fld) : Bool := decide (k1 = k2 ∧ xs = ys)
theorem sameM_self (k : Int) (xs : List Fld) : sameM k k xs xs = true := decide_eq_true ⟨rfl, rfl⟩

set_option maxRecDepth 100000 in
set_option maxHeartbeats 3200000 in
theorem sameMessage_any (k1 k2 : Int) (ao bo : Option Addr) (c1 c2 : Nat) (xs ys : List Fld) (w : World) (hx : FldsAt w ao xs) (hy : FldsAt w bo ys) (h1 : xs.length ≤ 1099511627776) (_h2 : ys.length ≤ 1099511627776) :
    Calls Try.prog 8 #[.agg #[.int .i64 k1, .slice ao xs.length c1], .agg #[.int .i64 k2, .slice bo ys.length c2]] w fun e w' => e = .returned (.bool (sameM k1 k2 xs ys)) ∧ Below w.heap.size w w' := by
  by_cases hk : k1 = k2
  · have hk' : (k1 != k2) = false := by simpa using hk
    have HM : Hid (sameM k1 k2 xs ys = decide (xs = ys)) := by rw [Hid, sameM]; by_cases h : xs = ys <;> simp [h, hk]
    by_cases hl : xs.length = ys.length
    · obtain ⟨n, hn⟩ : ∃ n, xs.length = n := ⟨_, rfl⟩
      have hn2 : ys.length = n := by omega
      have HX : Hid (xs.length = n) := hn
      have HY : Hid (ys.length = n) := hn2
      have hn0 : n ≤ 1099511627776 := by omega
      have HCX : Hid (∀ i, i < n → ∃ b off, ao = some ⟨b, off, none⟩ ∧ b < w.heap.size ∧ w.cell? ⟨b, off + i * 2, none⟩ = some (.int .i64 (at0 xs i).1) ∧ w.cell? ⟨b, off + i * 2 + 1, none⟩ = some (.string ⟨(at0 xs i).2.toArray⟩)) := by
        intro i hi
        rcases hx with h | ⟨b, off, e, hb, hc⟩
        · rw [h] at hn; simp at hn; omega
        · exact ⟨b, off, e, hb, hc i (by omega)⟩
      have HCY : Hid (∀ i, i < n → ∃ b off, bo = some ⟨b, off, none⟩ ∧ b < w.heap.size ∧ w.cell? ⟨b, off + i * 2, none⟩ = some (.int .i64 (at0 ys i).1) ∧ w.cell? ⟨b, off + i * 2 + 1, none⟩ = some (.string ⟨(at0 ys i).2.toArray⟩)) := by
        intro i hi
        rcases hy with h | ⟨b, off, e, hb, hc⟩
        · rw [h] at hn2; simp at hn2; omega
        · exact ⟨b, off, e, hb, hc i (by omega)⟩
      rw [hn, hn2]
      clear hl hn hn2 hx hy h1 hk
      go_enter Try.func8, Try.ntmps8
      go_wp2
      go_loopw [5] (fun i wr => ∃ k : Nat, k ≤ n ∧ i = .int .i64 k ∧ (∀ j, j < k → at0 xs j = at0 ys j) ∧ wr.cell? ⟨w.heap.size, 1, none⟩ = some (.slice ao n c1) ∧ wr.cell? ⟨w.heap.size + 1, 1, none⟩ = some (.slice bo n c2) ∧ Below w.heap.size w wr) (fun i _ => n - (intOf i).toNat)
      case atStart => exact ⟨0, Nat.zero_le _, rfl, fun j hj => by omega, by simp [go_sem], by simp [go_sem], by go_grown⟩
      case round =>
        obtain ⟨k, hkn, rfl, hsame, x1, y1, hbr⟩ := hrel
        have HS : Hid (∀ j, j < k → at0 xs j = at0 ys j) := hsame
        clear hsame
        by_cases hlt : k < n
        · obtain ⟨b, off, rfl, hb, hcx1, hcx2⟩ := HCX.out k hlt
          obtain ⟨d, off2, rfl, hd, hcy1, hcy2⟩ := HCY.out k hlt
          have e1 : wr.cell? ⟨b, off + k * 2, none⟩ = some (.int .i64 (at0 xs k).1) := (hbr.cell (p := ⟨b, off + k * 2, none⟩) hb).trans hcx1
          have e2 : wr.cell? ⟨b, off + k * 2 + 1, none⟩ = some (.string ⟨(at0 xs k).2.toArray⟩) := (hbr.cell (p := ⟨b, off + k * 2 + 1, none⟩) hb).trans hcx2
          have e3 : wr.cell? ⟨d, off2 + k * 2, none⟩ = some (.int .i64 (at0 ys k).1) := (hbr.cell (p := ⟨d, off2 + k * 2, none⟩) hd).trans hcy1
          have e4 : wr.cell? ⟨d, off2 + k * 2 + 1, none⟩ = some (.string ⟨(at0 ys k).2.toArray⟩) := (hbr.cell (p := ⟨d, off2 + k * 2 + 1, none⟩) hd).trans hcy2
          have hki : (k : Int) < (n : Int) := by omega
          have HNE : Hid (at0 xs k ≠ at0 ys k → ¬ xs = ys) := fun h e => h (by rw [e])
          obtain ⟨⟨x, s⟩, hxk⟩ : ∃ x, at0 xs k = x := ⟨_, rfl⟩
          obtain ⟨⟨y, t⟩, hyk⟩ : ∃ y, at0 ys k = y := ⟨_, rfl⟩
          rw [hxk] at e1 e2
          rw [hyk] at e3 e4
          simp only at e1 e2 e3 e4
          have HXK : Hid (at0 xs k = (x, s)) := hxk
          have HYK : Hid (at0 ys k = (y, t)) := hyk
          have hne := over_ne wr
          have g1 := over_cell e1
          have g2 := over_cell e2
          have g3 := over_cell e3
          have g4 := over_cell e4
          have g5 := over_cell x1
          have g6 := over_cell y1
          have hx0 : w.heap.size < wr.heap.size := World.block_lt_of_cell? wr _ x1
          have hy0 : w.heap.size + 1 < wr.heap.size := World.block_lt_of_cell? wr _ y1
          clear hxk hyk hcx1 hcx2 hcy1 hcy2
          by_cases hx1 : x = y
          · subst hx1
            by_cases hs1 : s = t
            · subst hs1
              have HY2 : Hid (at0 xs k = at0 ys k) := by rw [Hid, HXK.out, HYK.out]
              clear HNE
              go_wp2
              refine wp_region_over (by kernel_rfl) (by kernel_rfl) ?_
              repeat (go_big_quiet_step (fail))
              refine wpQuiet_nil ?_
              rintro _ ⟨⟨w2, b2⟩, hw2⟩
              subst hw2
              go_wp2
              go_roundw
              case rel => exact ⟨k + 1, by omega, by go_num, (fun j hj => by rcases (show j < k ∨ j = k from by omega) with h | rfl; exact HS.out j h; exact HY2.out), (b2.cell (p := ⟨w.heap.size, 1, none⟩) hx0).trans x1, (b2.cell (p := ⟨w.heap.size + 1, 1, none⟩) hy0).trans y1, hbr.trans (b2.mono hbr.size)⟩
              case measure => simp [intOf]; omega
            · have hs2 : (s == t) = false := by simpa using hs1
              have HN : Hid (¬ xs = ys) := HNE.out (by rw [HXK.out, HYK.out]; intro h; exact hs1 (Prod.mk.inj h).2)
              clear HNE hs1
              go_wp2
              refine wp_region_over (by kernel_rfl) (by kernel_rfl) ?_
              repeat (go_big_quiet_step (fail))
              refine wpQuiet_nil ?_
              rintro _ ⟨⟨w2, b2⟩, hw2⟩
              subst hw2
              go_wp2
              go_ret
              exact ⟨one_bool (by rw [HM.out, decide_eq_false HN.out]), hbr.trans (b2.mono hbr.size)⟩
          · have hx2 : (x == y) = false := by simpa using hx1
            have HN : Hid (¬ xs = ys) := HNE.out (by rw [HXK.out, HYK.out]; intro h; exact hx1 (Prod.mk.inj h).1)
            clear HNE hx1
            go_wp2
            refine wp_region_over (by kernel_rfl) (by kernel_rfl) ?_
            repeat (go_big_quiet_step (fail))
            refine wpQuiet_nil ?_
            rintro _ ⟨⟨w2, b2⟩, hw2⟩
            subst hw2
            go_wp2
            go_ret
            exact ⟨one_bool (by rw [HM.out, decide_eq_false HN.out]), hbr.trans (b2.mono hbr.size)⟩
        · have HE : Hid (xs = ys) := by
            apply List.ext_getElem (by rw [HX.out, HY.out])
            intro i g1 g2
            have := HS.out i (by rw [HX.out] at g1; omega)
            simpa [at0, List.getD_eq_getElem?_getD, g1, g2] using this
          go_wp2
          go_ret
          exact ⟨one_bool (by rw [HM.out, decide_eq_true HE.out]), hbr⟩
    · have hne : ((xs.length : Int) != (ys.length : Int)) = true := by simp; omega
      have HE : Hid (¬ xs = ys) := fun e => hl (by rw [e])
      clear hk
      go_enter Try.func8, Try.ntmps8
      go_wp2
      go_ret
      exact ⟨one_bool (by rw [HM.out, decide_eq_false HE.out]), by go_grown⟩
  · have hk' : (k1 != k2) = true := by simpa using hk
    have HM : Hid (sameM k1 k2 xs ys = false) := decide_eq_false (fun e => hk e.1)
    clear hk
    go_enter Try.func8, Try.ntmps8
    go_wp2
    go_ret
    exact ⟨one_bool HM.out.symm, by go_grown⟩

end Go.Proofs.Ytggaadbcifbdeaa
