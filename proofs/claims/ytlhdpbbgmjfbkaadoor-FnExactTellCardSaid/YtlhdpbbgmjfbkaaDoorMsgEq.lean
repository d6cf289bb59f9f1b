/- The laws' own functions over messages: a message's copy; whether two are the same. -/
import Derived.Test.YtlhdpbbgmjfbkaaDoorMsgOwn
import Derived.Deep.RegionWith
namespace Go.Proofs.YtlhdpbbgmjfbkaaDoor
open Go.RowKit

def fldEq (f g : Fld) : Bool := decide (f = g)
theorem fldEq_yes {f g : Fld} (h : fldEq f g = true) : f = g := of_decide_eq_true h
theorem fldEq_no {f g : Fld} (h : fldEq f g = false) : f ≠ g := of_decide_eq_false h

set_option maxHeartbeats 800000 in
theorem eqField_any (n m : Int) (s t : List UInt8) (w : World) :
    Calls Tryd.prog 45 #[.agg #[.int .i64 n, .string ⟨s.toArray⟩], .agg #[.int .i64 m, .string ⟨t.toArray⟩]] w fun e w' => e = .returned (.bool (fldEq (n, s) (m, t))) ∧ Below w.heap.size w w' := by
  cases h1 : (n != m)
  · cases h2 : (s == t)
    · have HE : Hid (¬ (n, s) = (m, t)) := by
        intro e; rw [Prod.mk.injEq] at e; rw [e.2] at h2; simp at h2
      go_enter Tryd.func45, Tryd.ntmps45
      go_wp2
      go_ret
      exact ⟨one_bool (by rw [fldEq, decide_eq_false HE.out]), by go_grown⟩
    · have HE : Hid ((n, s) = (m, t)) := by
        have e1 : n = m := by simpa using h1
        have e2 : s = t := by simpa using h2
        rw [Hid, e1, e2]
      go_enter Tryd.func45, Tryd.ntmps45
      go_wp2
      go_ret
      exact ⟨one_bool (by rw [fldEq, decide_eq_true HE.out]), by go_grown⟩
  · have HE : Hid (¬ (n, s) = (m, t)) := by
      intro e; rw [Prod.mk.injEq] at e; rw [e.1] at h1; simp at h1
    go_enter Tryd.func45, Tryd.ntmps45
    go_wp2
    go_ret
    exact ⟨one_bool (by rw [fldEq, decide_eq_false HE.out]), by go_grown⟩

set_option maxHeartbeats 800000 in
theorem eqFieldS_any (ao bo : Option Addr) (c1 c2 : Nat) (xs ys : List Fld) (w : World) (hx : FldsAt w ao xs) (hy : FldsAt w bo ys) (h1 : xs.length ≤ 1099511627776) (h2 : ys.length ≤ 1099511627776) :
    Calls Tryd.prog 23 #[.slice ao xs.length c1, .slice bo ys.length c2] w fun e w' => e = .returned (.bool (decide (xs = ys))) ∧ Below w.heap.size w w' := by
  by_cases hl : xs.length = ys.length
  · rcases hx with rfl | ⟨b, off, rfl, hb, hcx⟩
    · have hy0 : ys = [] := List.eq_nil_of_length_eq_zero hl.symm
      subst hy0
      go_enter Tryd.func23, Tryd.ntmps23
      go_wp2
      refine wp_loop_rounds 1 ?_
      rw [rounds_succ]
      go_wp2
      go_ret
      exact ⟨rfl, Below.refl _ _⟩
    · rcases hy with rfl | ⟨d, off2, rfl, hd, hcy⟩
      · have hx0 : xs = [] := List.eq_nil_of_length_eq_zero hl
        subst hx0
        go_enter Tryd.func23, Tryd.ntmps23
        go_wp2
        refine wp_loop_rounds 1 ?_
        rw [rounds_succ]
        go_wp2
        go_ret
        exact ⟨rfl, Below.refl _ _⟩
      · obtain ⟨n, hn⟩ : ∃ n, xs.length = n := ⟨_, rfl⟩
        have hn2 : ys.length = n := by omega
        rw [hn] at hcx h1 ⊢
        rw [hn2] at hcy ⊢
        have HX : Hid (xs.length = n) := hn
        have HY : Hid (ys.length = n) := hn2
        have HCX : Hid (∀ i, i < n → w.cell? ⟨b, off + i * 2, none⟩ = some (.int .i64 (at0 xs i).1) ∧ w.cell? ⟨b, off + i * 2 + 1, none⟩ = some (.string ⟨(at0 xs i).2.toArray⟩)) := hcx
        have HCY : Hid (∀ i, i < n → w.cell? ⟨d, off2 + i * 2, none⟩ = some (.int .i64 (at0 ys i).1) ∧ w.cell? ⟨d, off2 + i * 2 + 1, none⟩ = some (.string ⟨(at0 ys i).2.toArray⟩)) := hcy
        clear hl hn hn2 hcx hcy
        go_enter Tryd.func23, Tryd.ntmps23
        go_wp2
        go_loopw [5] (fun i wr => ∃ k : Nat, k ≤ n ∧ i = .int .i64 k ∧ (∀ j, j < k → at0 xs j = at0 ys j) ∧ Below w.heap.size w wr) (fun i _ => n - (intOf i).toNat)
        case atStart => exact ⟨0, Nat.zero_le _, rfl, fun j hj => by omega, Below.refl _ _⟩
        case round =>
          obtain ⟨k, hk, rfl, hsame, hbr⟩ := hrel
          have HS : Hid (∀ j, j < k → at0 xs j = at0 ys j) := hsame
          clear hsame
          by_cases hlt : k < n
          · have e1 : wr.cell? ⟨b, off + k * 2, none⟩ = some (.int .i64 (at0 xs k).1) := (hbr.cell (p := ⟨b, off + k * 2, none⟩) hb).trans (HCX.out k hlt).1
            have e2 : wr.cell? ⟨b, off + k * 2 + 1, none⟩ = some (.string ⟨(at0 xs k).2.toArray⟩) := (hbr.cell (p := ⟨b, off + k * 2 + 1, none⟩) hb).trans (HCX.out k hlt).2
            have e3 : wr.cell? ⟨d, off2 + k * 2, none⟩ = some (.int .i64 (at0 ys k).1) := (hbr.cell (p := ⟨d, off2 + k * 2, none⟩) hd).trans (HCY.out k hlt).1
            have e4 : wr.cell? ⟨d, off2 + k * 2 + 1, none⟩ = some (.string ⟨(at0 ys k).2.toArray⟩) := (hbr.cell (p := ⟨d, off2 + k * 2 + 1, none⟩) hd).trans (HCY.out k hlt).2
            have hki : (k : Int) < (n : Int) := by omega
            have HNE : Hid (at0 xs k ≠ at0 ys k → ¬ xs = ys) := fun h e => h (by rw [e])
            obtain ⟨⟨x, s⟩, hxk⟩ : ∃ x, at0 xs k = x := ⟨_, rfl⟩
            obtain ⟨⟨y, t⟩, hyk⟩ : ∃ y, at0 ys k = y := ⟨_, rfl⟩
            rw [hxk] at e1 e2
            rw [hyk] at e3 e4
            simp only at e1 e2 e3 e4
            have HXK : Hid (at0 xs k = (x, s)) := hxk
            have HYK : Hid (at0 ys k = (y, t)) := hyk
            clear hxk hyk
            cases hq : fldEq (x, s) (y, t)
            · have HN : Hid (¬ xs = ys) := HNE.out (by rw [HXK.out, HYK.out]; exact fldEq_no hq)
              have HQ : Hid _ := hq
              clear hq HNE
              go_wp2
              go_region_with (refine (eqField_any _ _ _ _ _).mono ?_; rintro e w2 ⟨rfl, b2⟩; rw [HQ.out])
              all_goals
                go_wp2
                go_ret
                exact ⟨one_bool (by rw [decide_eq_false HN.out]), (below_drewN hbr _).trans (b2.mono hbr.size)⟩
            · have HY2 : Hid (at0 xs k = at0 ys k) := by rw [Hid, HXK.out, HYK.out]; exact fldEq_yes hq
              have HQ : Hid _ := hq
              clear hq HNE
              go_wp2
              go_region_with (refine (eqField_any _ _ _ _ _).mono ?_; rintro e w2 ⟨rfl, b2⟩; rw [HQ.out])
              all_goals
                go_wp2
                go_roundw
                case rel => exact ⟨k + 1, by omega, by go_num, fun j hj => by rcases (show j < k ∨ j = k from by omega) with h | rfl; exact HS.out j h; exact HY2.out, (below_drewN hbr _).trans (b2.mono hbr.size)⟩
                case measure => simp [intOf]; omega
          · have HE : Hid (xs = ys) := by
              apply List.ext_getElem (by rw [HX.out, HY.out])
              intro i g1 g2
              have := HS.out i (by rw [HX.out] at g1; omega)
              simpa [at0, List.getD_eq_getElem?_getD, g1, g2] using this
            go_wp2
            go_ret
            exact ⟨one_bool (by rw [decide_eq_true HE.out]), hbr⟩
  · have hne : ((xs.length : Int) != (ys.length : Int)) = true := by simp; omega
    have HE : Hid (¬ xs = ys) := fun e => hl (by rw [e])
    go_enter Tryd.func23, Tryd.ntmps23
    go_wp2
    go_ret
    exact ⟨one_bool (by rw [decide_eq_false HE.out]), Below.refl _ _⟩

def msgEq (k1 : Int) (xs : List Fld) (k2 : Int) (ys : List Fld) : Bool := decide (k1 = k2 ∧ xs = ys)
theorem msgEq_self (k : Int) (xs : List Fld) : msgEq k xs k xs = true := decide_eq_true ⟨rfl, rfl⟩

set_option maxHeartbeats 800000 in
theorem eqMessage_any (k1 k2 : Int) (ao bo : Option Addr) (c1 c2 : Nat) (xs ys : List Fld) (w : World) (hx : FldsAt w ao xs) (hy : FldsAt w bo ys) (h1 : xs.length ≤ 1099511627776) (h2 : ys.length ≤ 1099511627776) :
    Calls Tryd.prog 7 #[.agg #[.int .i64 k1, .slice ao xs.length c1], .agg #[.int .i64 k2, .slice bo ys.length c2]] w fun e w' => e = .returned (.bool (msgEq k1 xs k2 ys)) ∧ Below w.heap.size w w' := by
  cases hk : (k1 != k2)
  · have hke : k1 = k2 := by simpa using hk
    have bel : Below w.heap.size w ((w.alloc (.cells #[.int .i64 k1, .slice ao xs.length c1] 26)).alloc (.cells #[.int .i64 k2, .slice bo ys.length c2] 26)) := by go_grown
    have hx1 := hx.below bel
    have hy1 := hy.below bel
    have HM : Hid (msgEq k1 xs k2 ys = decide (xs = ys)) := by
      rw [Hid, msgEq]; by_cases h : xs = ys <;> simp [h, hke]
    have HB : Hid _ := bel
    clear hke bel hx hy
    go_enter Tryd.func7, Tryd.ntmps7
    go_wp2_with fail
    refine (eqFieldS_any _ _ _ _ _ _ _ hx1 hy1 h1 h2).mono ?_
    rintro e w1 ⟨rfl, b1⟩
    have bb := HB.out.trans (b1.mono (by have := HB.out.size; exact this))
    rw [← HM.out]
    obtain ⟨r, hr⟩ : ∃ r, msgEq k1 xs k2 ys = r := ⟨_, rfl⟩
    rw [hr]
    have HR : Hid _ := hr
    clear b1 hx1 hy1 HM HB hr
    cases r
    · go_wp2
      go_ret
      exact ⟨one_bool HR.out.symm, bb⟩
    · go_wp2
      go_ret
      exact ⟨one_bool HR.out.symm, bb⟩
  · have HM : Hid (msgEq k1 xs k2 ys = false) := decide_eq_false (fun e => by rw [e.1] at hk; simp at hk)
    go_enter Tryd.func7, Tryd.ntmps7
    go_wp2
    go_ret
    exact ⟨one_bool HM.out.symm, by go_grown⟩

end Go.Proofs.YtlhdpbbgmjfbkaaDoor
