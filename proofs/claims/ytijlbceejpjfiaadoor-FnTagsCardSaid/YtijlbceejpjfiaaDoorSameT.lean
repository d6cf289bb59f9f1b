/- The law's own comparison of two lists of tags. -/
import Derived.Test.YtijlbceejpjfiaaDoorTagOwn
import Derived.Test.YtijlbceejpjfiaaDoorOver
namespace Go.Proofs.YtijlbceejpjfiaaDoor
open Go.RowKit

set_option maxRecDepth 100000 in
set_option maxHeartbeats 1600000 in
theorem sameTags_any (ao bo : Option Addr) (c1 c2 : Nat) (xs ys : List Fld) (w : World) (hx : FldsAt w ao xs) (hy : FldsAt w bo ys) (h1 : xs.length ≤ 1099511627776) (h2 : ys.length ≤ 1099511627776) :
    Calls Tryd.prog 13 #[.slice ao xs.length c1, .slice bo ys.length c2] w fun e w' => e = .returned (.bool (decide (xs = ys))) ∧ Below w.heap.size w w' := by
  by_cases hl : xs.length = ys.length
  · rcases hx with rfl | ⟨b, off, rfl, hb, hcx⟩
    · have hy0 : ys = [] := List.eq_nil_of_length_eq_zero hl.symm
      subst hy0
      go_enter Tryd.func13, Tryd.ntmps13
      go_wp2
      refine wp_loop_rounds 1 ?_
      rw [rounds_succ]
      go_wp2
      go_ret
      exact ⟨rfl, Below.refl _ _⟩
    · rcases hy with rfl | ⟨d, off2, rfl, hd, hcy⟩
      · have hx0 : xs = [] := List.eq_nil_of_length_eq_zero hl
        subst hx0
        go_enter Tryd.func13, Tryd.ntmps13
        go_wp2
        refine wp_loop_rounds 1 ?_
        rw [rounds_succ]
        go_wp2
        go_ret
        exact ⟨rfl, Below.refl _ _⟩
      · obtain ⟨n, hn⟩ : ∃ n, xs.length = n := ⟨_, rfl⟩
        have hn2 : ys.length = n := by omega
        rw [hn] at hcx h1 ⊢
        rw [hn2] at hcy ⊢
        have HX : Hid (xs.length = n) := hn
        have HY : Hid (ys.length = n) := hn2
        have HCX : Hid (∀ i, i < n → w.cell? ⟨b, off + i * 2, none⟩ = some (.int .i64 (at0 xs i).1) ∧ w.cell? ⟨b, off + i * 2 + 1, none⟩ = some (.string ⟨(at0 xs i).2.toArray⟩)) := hcx
        have HCY : Hid (∀ i, i < n → w.cell? ⟨d, off2 + i * 2, none⟩ = some (.int .i64 (at0 ys i).1) ∧ w.cell? ⟨d, off2 + i * 2 + 1, none⟩ = some (.string ⟨(at0 ys i).2.toArray⟩)) := hcy
        clear hl hn hn2 hcx hcy
        go_enter Tryd.func13, Tryd.ntmps13
        go_wp2
        go_loopw [5] (fun i wr => ∃ k : Nat, k ≤ n ∧ i = .int .i64 k ∧ (∀ j, j < k → at0 xs j = at0 ys j) ∧ Below w.heap.size w wr) (fun i _ => n - (intOf i).toNat)
        case atStart => exact ⟨0, Nat.zero_le _, rfl, fun j hj => by omega, Below.refl _ _⟩
        case round =>
          obtain ⟨k, hk, rfl, hsame, hbr⟩ := hrel
          have HS : Hid (∀ j, j < k → at0 xs j = at0 ys j) := hsame
          clear hsame
          by_cases hlt : k < n
          · have e1 : wr.cell? ⟨b, off + k * 2, none⟩ = some (.int .i64 (at0 xs k).1) := (hbr.cell (p := ⟨b, off + k * 2, none⟩) hb).trans (HCX.out k hlt).1
            have e2 : wr.cell? ⟨b, off + k * 2 + 1, none⟩ = some (.string ⟨(at0 xs k).2.toArray⟩) := (hbr.cell (p := ⟨b, off + k * 2 + 1, none⟩) hb).trans (HCX.out k hlt).2
            have e3 : wr.cell? ⟨d, off2 + k * 2, none⟩ = some (.int .i64 (at0 ys k).1) := (hbr.cell (p := ⟨d, off2 + k * 2, none⟩) hd).trans (HCY.out k hlt).1
            have e4 : wr.cell? ⟨d, off2 + k * 2 + 1, none⟩ = some (.string ⟨(at0 ys k).2.toArray⟩) := (hbr.cell (p := ⟨d, off2 + k * 2 + 1, none⟩) hd).trans (HCY.out k hlt).2
            have hki : (k : Int) < (n : Int) := by omega
            have HNE : Hid (at0 xs k ≠ at0 ys k → ¬ xs = ys) := fun h e => h (by rw [e])
            obtain ⟨⟨x, s⟩, hxk⟩ : ∃ x, at0 xs k = x := ⟨_, rfl⟩
            obtain ⟨⟨y, t⟩, hyk⟩ : ∃ y, at0 ys k = y := ⟨_, rfl⟩
            rw [hxk] at e1 e2
            rw [hyk] at e3 e4
            simp only at e1 e2 e3 e4
            have HXK : Hid (at0 xs k = (x, s)) := hxk
            have HYK : Hid (at0 ys k = (y, t)) := hyk
            clear hxk hyk
            have hne := over_ne wr
            have g1 := over_cell e1
            have g2 := over_cell e2
            have g3 := over_cell e3
            have g4 := over_cell e4
            by_cases hx1 : x = y
            · subst hx1
              by_cases hs1 : s = t
              · subst hs1
                have HY2 : Hid (at0 xs k = at0 ys k) := by rw [Hid, HXK.out, HYK.out]
                clear HNE
                go_wp2
                refine wp_region_over (by kernel_rfl) (by kernel_rfl) ?_
                repeat (go_big_quiet_step (fail))
                refine wpQuiet_nil ?_
                rintro _ ⟨⟨w2, b2⟩, hw2⟩
                subst hw2
                go_wp2
                go_roundw
                case rel => exact ⟨k + 1, by omega, by go_num, fun j hj => by rcases (show j < k ∨ j = k from by omega) with h | rfl; exact HS.out j h; exact HY2.out, hbr.trans (b2.mono hbr.size)⟩
                case measure => simp [intOf]; omega
              · have hs2 : (s == t) = false := by simpa using hs1
                have HN : Hid (¬ xs = ys) := HNE.out (by rw [HXK.out, HYK.out]; intro h; exact hs1 (Prod.mk.inj h).2)
                clear HNE hs1
                go_wp2
                refine wp_region_over (by kernel_rfl) (by kernel_rfl) ?_
                repeat (go_big_quiet_step (fail))
                refine wpQuiet_nil ?_
                rintro _ ⟨⟨w2, b2⟩, hw2⟩
                subst hw2
                go_wp2
                go_ret
                exact ⟨one_bool (by rw [decide_eq_false HN.out]), hbr.trans (b2.mono hbr.size)⟩
            · have hx2 : (x == y) = false := by simpa using hx1
              have HN : Hid (¬ xs = ys) := HNE.out (by rw [HXK.out, HYK.out]; intro h; exact hx1 (Prod.mk.inj h).1)
              clear HNE hx1
              go_wp2
              refine wp_region_over (by kernel_rfl) (by kernel_rfl) ?_
              repeat (go_big_quiet_step (fail))
              refine wpQuiet_nil ?_
              rintro _ ⟨⟨w2, b2⟩, hw2⟩
              subst hw2
              go_wp2
              go_ret
              exact ⟨one_bool (by rw [decide_eq_false HN.out]), hbr.trans (b2.mono hbr.size)⟩
          · have HE : Hid (xs = ys) := by
              apply List.ext_getElem (by rw [HX.out, HY.out])
              intro i g1 g2
              have := HS.out i (by rw [HX.out] at g1; omega)
              simpa [at0, List.getD_eq_getElem?_getD, g1, g2] using this
            go_wp2
            go_ret
            exact ⟨one_bool (by rw [decide_eq_true HE.out]), hbr⟩
  · have hne : ((xs.length : Int) != (ys.length : Int)) = true := by simp; omega
    have HE : Hid (¬ xs = ys) := fun e => hl (by rw [e])
    go_enter Tryd.func13, Tryd.ntmps13
    go_wp2
    go_ret
    exact ⟨one_bool (by rw [decide_eq_false HE.out]), Below.refl _ _⟩

end Go.Proofs.YtijlbceejpjfiaaDoor
