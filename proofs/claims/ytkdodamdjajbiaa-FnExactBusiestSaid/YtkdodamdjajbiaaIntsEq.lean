/- Slices of ints held against each other. -/
import Derived.Test.YtkdodamdjajbiaaInts
namespace Go.Proofs.Ytkdodamdjajbiaa
open Go.RowKit

theorem eq_of_getD {xs ys : List Int} (hl : xs.length = ys.length) (h : ∀ j, j < xs.length → xs.getD j 0 = ys.getD j 0) : xs = ys := by
  apply List.ext_getElem hl
  intro i h1 h2
  have := h i h1
  simpa [List.getD_eq_getElem?_getD, h1, h2] using this

set_option maxHeartbeats 800000 in
theorem eqIntS_any (ao bo : Option Addr) (c1 c2 : Nat) (xs ys : List Int) (w : World) (hx : IntsAt w ao xs) (hy : IntsAt w bo ys) (h1 : xs.length ≤ 1099511627776) (h2 : ys.length ≤ 1099511627776) :
    Calls Try.prog 39 #[.slice ao xs.length c1, .slice bo ys.length c2] w fun e w' => e = .returned (.bool (decide (xs = ys))) ∧ Below w.heap.size w w' := by
  by_cases hl : xs.length = ys.length
  · rcases hx with rfl | ⟨b, off, rfl, hb, hcx⟩
    · have hy0 : ys = [] := List.eq_nil_of_length_eq_zero hl.symm
      subst hy0
      go_enter Try.func39, Try.ntmps39
      go_wp2
      refine wp_loop_rounds 1 ?_
      rw [rounds_succ]
      go_wp2
      go_ret
      exact ⟨rfl, Below.refl _ _⟩
    · rcases hy with rfl | ⟨d, off2, rfl, hd, hcy⟩
      · have hx0 : xs = [] := List.eq_nil_of_length_eq_zero hl
        subst hx0
        go_enter Try.func39, Try.ntmps39
        go_wp2
        refine wp_loop_rounds 1 ?_
        rw [rounds_succ]
        go_wp2
        go_ret
        exact ⟨rfl, Below.refl _ _⟩
      · obtain ⟨n, hn⟩ : ∃ n, xs.length = n := ⟨_, rfl⟩
        have hn2 : ys.length = n := by omega
        rw [hn] at hcx h1 ⊢
        rw [hn2] at hcy ⊢
        have HX : Hid (xs.length = n) := hn
        have HY : Hid (ys.length = n) := hn2
        clear hl hn hn2
        go_enter Try.func39, Try.ntmps39
        go_wp2
        go_loopw [5] (fun i wr => ∃ k : Nat, k ≤ n ∧ i = .int .i64 k ∧ (∀ j, j < k → xs.getD j 0 = ys.getD j 0) ∧ Below w.heap.size w wr) (fun i _ => n - (intOf i).toNat)
        case atStart => exact ⟨0, Nat.zero_le _, rfl, fun j hj => by omega, Below.refl _ _⟩
        case round =>
          obtain ⟨k, hk, rfl, hsame, hbr⟩ := hrel
          have HS : Hid (∀ j, j < k → xs.getD j 0 = ys.getD j 0) := hsame
          clear hsame
          by_cases hlt : k < n
          · have e1 : wr.cell? ⟨b, off + k, none⟩ = some (.int .i64 (xs.getD k 0)) := (hbr.cell (p := ⟨b, off + k, none⟩) hb).trans (hcx k hlt)
            have e2 : wr.cell? ⟨d, off2 + k, none⟩ = some (.int .i64 (ys.getD k 0)) := (hbr.cell (p := ⟨d, off2 + k, none⟩) hd).trans (hcy k hlt)
            have hki : (k : Int) < (n : Int) := by omega
            obtain ⟨x, hxk⟩ : ∃ x, xs.getD k 0 = x := ⟨_, rfl⟩
            obtain ⟨y, hyk⟩ : ∃ y, ys.getD k 0 = y := ⟨_, rfl⟩
            rw [hxk] at e1
            rw [hyk] at e2
            have HXK : Hid (xs.getD k 0 = x) := hxk
            have HYK : Hid (ys.getD k 0 = y) := hyk
            clear hxk hyk hcx hcy
            cases hne : (x != y)
            · have HE : Hid (xs.getD k 0 = ys.getD k 0) := by rw [Hid, HXK.out, HYK.out]; simpa using hne
              go_wp2
              go_quiet (fail)
              go_wp2
              go_roundw
              case rel => exact ⟨k + 1, by omega, by go_num, fun j hj => by rcases (show j < k ∨ j = k from by omega) with h | rfl; exact HS.out j h; exact HE.out, below_drewN hbr _⟩
              case measure => simp [intOf]; omega
            · have HE : Hid (¬ xs = ys) := fun e => by subst e; rw [← HXK.out, ← HYK.out] at hne; simp at hne
              go_wp2
              go_quiet (fail)
              go_wp2
              go_ret
              exact ⟨one_bool (by simpa using HE.out), below_drewN hbr _⟩
          · have HE : Hid (xs = ys) := eq_of_getD (by rw [HX.out, HY.out]) (fun j hj => HS.out j (by rw [HX.out] at hj; omega))
            clear hcx hcy
            go_wp2
            go_ret
            exact ⟨one_bool (by simpa using HE.out), hbr⟩
  · have hne : ((xs.length : Int) != (ys.length : Int)) = true := by simp; omega
    have HE : Hid (¬ xs = ys) := fun e => hl (by rw [e])
    go_enter Try.func39, Try.ntmps39
    go_wp2
    go_ret
    exact ⟨one_bool (by simpa using HE.out), Below.refl _ _⟩

end Go.Proofs.Ytkdodamdjajbiaa
