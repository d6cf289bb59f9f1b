/- Contracts over slices of ints: equality, Total. -/
import Derived.Test.YtkhohbkdfgnmnaaInts
namespace Go.Proofs.Ytkhohbkdfgnmnaa
open Go.RowKit

theorem one_bool {a b : Bool} (h : a = b) : Ending.returned (.bool a) = .returned (.bool b) := by rw [h]
theorem eq_of_getD {xs ys : List Int} (hl : xs.length = ys.length) (h : ∀ j, j < xs.length → xs.getD j 0 = ys.getD j 0) : xs = ys := by
  apply List.ext_getElem hl
  intro i h1 h2
  have := h i h1
  simpa [List.getD_eq_getElem?_getD, h1, h2] using this

/-- the sum from s on, none where a sum on the way is no amount -/
def totGo (s : Int) : List Int → Option Int
  | [] => some s
  | z :: r => if plusOk s z then totGo (plusV s z) r else none
theorem tot_step (zs : List Int) (k : Nat) (s : Int) (h : k < zs.length) : totGo s (zs.drop k) = if plusOk s (zs.getD k 0) then totGo (plusV s (zs.getD k 0)) (zs.drop (k + 1)) else none := by
  rw [List.drop_eq_getElem_cons h, totGo]
  simp [List.getD_eq_getElem?_getD, h]

set_option maxHeartbeats 800000 in
theorem eqIntS_any (ao bo : Option Addr) (c1 c2 : Nat) (xs ys : List Int) (w : World) (hx : IntsAt w ao xs) (hy : IntsAt w bo ys) (h1 : xs.length ≤ 1099511627776) (h2 : ys.length ≤ 1099511627776) :
    Calls Try.prog 36 #[.slice ao xs.length c1, .slice bo ys.length c2] w fun e w' => e = .returned (.bool (decide (xs = ys))) ∧ Below w.heap.size w w' := by
  by_cases hl : xs.length = ys.length
  · rcases hx with rfl | ⟨b, off, rfl, hb, hcx⟩
    · have hy0 : ys = [] := List.eq_nil_of_length_eq_zero hl.symm
      subst hy0
      go_enter Try.func36, Try.ntmps36
      go_wp2
      refine wp_loop_rounds 1 ?_
      rw [rounds_succ]
      go_wp2
      go_ret
      exact ⟨rfl, Below.refl _ _⟩
    · rcases hy with rfl | ⟨d, off2, rfl, hd, hcy⟩
      · have hx0 : xs = [] := List.eq_nil_of_length_eq_zero hl
        subst hx0
        go_enter Try.func36, Try.ntmps36
        go_wp2
        refine wp_loop_rounds 1 ?_
        rw [rounds_succ]
        go_wp2
        go_ret
        exact ⟨rfl, Below.refl _ _⟩
      · obtain ⟨n, hn⟩ : ∃ n, xs.length = n := ⟨_, rfl⟩
        have hn2 : ys.length = n := by omega
        rw [hn] at hcx h1 ⊢
        rw [hn2] at hcy ⊢
        have HX : Hid (xs.length = n) := hn
        have HY : Hid (ys.length = n) := hn2
        clear hl hn hn2
        go_enter Try.func36, Try.ntmps36
        go_wp2
        go_loopw [5] (fun i wr => ∃ k : Nat, k ≤ n ∧ i = .int .i64 k ∧ (∀ j, j < k → xs.getD j 0 = ys.getD j 0) ∧ Below w.heap.size w wr) (fun i _ => n - (intOf i).toNat)
        case atStart => exact ⟨0, Nat.zero_le _, rfl, fun j hj => by omega, Below.refl _ _⟩
        case round =>
          obtain ⟨k, hk, rfl, hsame, hbr⟩ := hrel
          have HS : Hid (∀ j, j < k → xs.getD j 0 = ys.getD j 0) := hsame
          clear hsame
          by_cases hlt : k < n
          · have e1 : wr.cell? ⟨b, off + k, none⟩ = some (.int .i64 (xs.getD k 0)) := (hbr.cell (p := ⟨b, off + k, none⟩) hb).trans (hcx k hlt)
            have e2 : wr.cell? ⟨d, off2 + k, none⟩ = some (.int .i64 (ys.getD k 0)) := (hbr.cell (p := ⟨d, off2 + k, none⟩) hd).trans (hcy k hlt)
            have hki : (k : Int) < (n : Int) := by omega
            obtain ⟨x, hxk⟩ : ∃ x, xs.getD k 0 = x := ⟨_, rfl⟩
            obtain ⟨y, hyk⟩ : ∃ y, ys.getD k 0 = y := ⟨_, rfl⟩
            rw [hxk] at e1
            rw [hyk] at e2
            have HXK : Hid (xs.getD k 0 = x) := hxk
            have HYK : Hid (ys.getD k 0 = y) := hyk
            clear hxk hyk hcx hcy
            cases hne : (x != y)
            · have HE : Hid (xs.getD k 0 = ys.getD k 0) := by rw [Hid, HXK.out, HYK.out]; simpa using hne
              go_wp2
              go_quiet (fail)
              go_wp2
              go_roundw
              case rel => exact ⟨k + 1, by omega, by go_num, fun j hj => by rcases (show j < k ∨ j = k from by omega) with h | rfl; exact HS.out j h; exact HE.out, below_drewN hbr _⟩
              case measure => simp [intOf]; omega
            · have HE : Hid (¬ xs = ys) := fun e => by subst e; rw [← HXK.out, ← HYK.out] at hne; simp at hne
              go_wp2
              go_quiet (fail)
              go_wp2
              go_ret
              exact ⟨one_bool (by simpa using HE.out), below_drewN hbr _⟩
          · have HE : Hid (xs = ys) := eq_of_getD (by rw [HX.out, HY.out]) (fun j hj => HS.out j (by rw [HX.out] at hj; omega))
            clear hcx hcy
            go_wp2
            go_ret
            exact ⟨one_bool (by simpa using HE.out), hbr⟩
  · have hne : ((xs.length : Int) != (ys.length : Int)) = true := by simp; omega
    have HE : Hid (¬ xs = ys) := fun e => hl (by rw [e])
    go_enter Try.func36, Try.ntmps36
    go_wp2
    go_ret
    exact ⟨one_bool (by simpa using HE.out), Below.refl _ _⟩

set_option maxHeartbeats 800000 in
theorem sameInts_any (ao bo : Option Addr) (c1 c2 : Nat) (xs ys : List Int) (w : World) (hx : IntsAt w ao xs) (hy : IntsAt w bo ys) (h1 : xs.length ≤ 1099511627776) (h2 : ys.length ≤ 1099511627776) :
    Calls Try.prog 28 #[.slice ao xs.length c1, .slice bo ys.length c2] w fun e w' => e = .returned (.bool (decide (xs = ys))) ∧ Below w.heap.size w w' := by
  by_cases hl : xs.length = ys.length
  · rcases hx with rfl | ⟨b, off, rfl, hb, hcx⟩
    · have hy0 : ys = [] := List.eq_nil_of_length_eq_zero hl.symm
      subst hy0
      go_enter Try.func28, Try.ntmps28
      go_wp2
      refine wp_loop_rounds 1 ?_
      rw [rounds_succ]
      go_wp2
      go_ret
      exact ⟨rfl, Below.refl _ _⟩
    · rcases hy with rfl | ⟨d, off2, rfl, hd, hcy⟩
      · have hx0 : xs = [] := List.eq_nil_of_length_eq_zero hl
        subst hx0
        go_enter Try.func28, Try.ntmps28
        go_wp2
        refine wp_loop_rounds 1 ?_
        rw [rounds_succ]
        go_wp2
        go_ret
        exact ⟨rfl, Below.refl _ _⟩
      · obtain ⟨n, hn⟩ : ∃ n, xs.length = n := ⟨_, rfl⟩
        have hn2 : ys.length = n := by omega
        rw [hn] at hcx h1 ⊢
        rw [hn2] at hcy ⊢
        have HX : Hid (xs.length = n) := hn
        have HY : Hid (ys.length = n) := hn2
        clear hl hn hn2
        go_enter Try.func28, Try.ntmps28
        go_wp2
        go_loopw [5] (fun i wr => ∃ k : Nat, k ≤ n ∧ i = .int .i64 k ∧ (∀ j, j < k → xs.getD j 0 = ys.getD j 0) ∧ Below w.heap.size w wr) (fun i _ => n - (intOf i).toNat)
        case atStart => exact ⟨0, Nat.zero_le _, rfl, fun j hj => by omega, Below.refl _ _⟩
        case round =>
          obtain ⟨k, hk, rfl, hsame, hbr⟩ := hrel
          have HS : Hid (∀ j, j < k → xs.getD j 0 = ys.getD j 0) := hsame
          clear hsame
          by_cases hlt : k < n
          · have e1 : wr.cell? ⟨b, off + k, none⟩ = some (.int .i64 (xs.getD k 0)) := (hbr.cell (p := ⟨b, off + k, none⟩) hb).trans (hcx k hlt)
            have e2 : wr.cell? ⟨d, off2 + k, none⟩ = some (.int .i64 (ys.getD k 0)) := (hbr.cell (p := ⟨d, off2 + k, none⟩) hd).trans (hcy k hlt)
            have hki : (k : Int) < (n : Int) := by omega
            obtain ⟨x, hxk⟩ : ∃ x, xs.getD k 0 = x := ⟨_, rfl⟩
            obtain ⟨y, hyk⟩ : ∃ y, ys.getD k 0 = y := ⟨_, rfl⟩
            rw [hxk] at e1
            rw [hyk] at e2
            have HXK : Hid (xs.getD k 0 = x) := hxk
            have HYK : Hid (ys.getD k 0 = y) := hyk
            clear hxk hyk hcx hcy
            cases hne : (x != y)
            · have HE : Hid (xs.getD k 0 = ys.getD k 0) := by rw [Hid, HXK.out, HYK.out]; simpa using hne
              go_wp2
              go_quiet (fail)
              go_wp2
              go_roundw
              case rel => exact ⟨k + 1, by omega, by go_num, fun j hj => by rcases (show j < k ∨ j = k from by omega) with h | rfl; exact HS.out j h; exact HE.out, below_drewN hbr _⟩
              case measure => simp [intOf]; omega
            · have HE : Hid (¬ xs = ys) := fun e => by subst e; rw [← HXK.out, ← HYK.out] at hne; simp at hne
              go_wp2
              go_quiet (fail)
              go_wp2
              go_ret
              exact ⟨one_bool (by simpa using HE.out), below_drewN hbr _⟩
          · have HE : Hid (xs = ys) := eq_of_getD (by rw [HX.out, HY.out]) (fun j hj => HS.out j (by rw [HX.out] at hj; omega))
            clear hcx hcy
            go_wp2
            go_ret
            exact ⟨one_bool (by simpa using HE.out), hbr⟩
  · have hne : ((xs.length : Int) != (ys.length : Int)) = true := by simp; omega
    have HE : Hid (¬ xs = ys) := fun e => hl (by rw [e])
    go_enter Try.func28, Try.ntmps28
    go_wp2
    go_ret
    exact ⟨one_bool (by simpa using HE.out), Below.refl _ _⟩

set_option maxHeartbeats 800000 in
theorem sTotal_any (ao : Option Addr) (c : Nat) (zs : List Int) (w : World) (hx : IntsAt w ao zs) (h1 : zs.length ≤ 1099511627776) :
    Calls Try.prog 20 #[.slice ao zs.length c] w fun e w' => e = .returned (.tuple #[.int .i64 ((totGo 0 zs).getD 0), .bool (totGo 0 zs).isSome]) ∧ Below w.heap.size w w' := by
  rcases hx with rfl | ⟨b, off, rfl, hb, hcx⟩
  · go_enter Try.func20, Try.ntmps20
    go_wp2
    refine wp_loop_rounds 1 ?_
    rw [rounds_succ]
    go_wp2
    go_ret2
    exact ⟨rfl, Below.refl _ _⟩
  · go_enter Try.func20, Try.ntmps20
    go_wp2
    go_loop [4, 5] (fun t i => ∃ k : Nat, ∃ s : Int, k ≤ zs.length ∧ i = .int .i64 k ∧ t = .int .i64 s ∧ totGo 0 zs = totGo s (zs.drop k)) (fun _ i => zs.length - (intOf i).toNat)
    case atStart => exact ⟨0, 0, Nat.zero_le _, rfl, rfl, rfl⟩
    case round =>
      obtain ⟨k, s, hk, rfl, rfl, ht⟩ := hrel
      have HT : Hid (totGo 0 zs = totGo s (zs.drop k)) := ht
      clear ht
      by_cases hlt : k < zs.length
      · have e1 := hcx k hlt
        obtain ⟨x, hxk⟩ : ∃ x, zs.getD k 0 = x := ⟨_, rfl⟩
        rw [hxk] at e1
        have HK : Hid (totGo 0 zs = if plusOk s x then totGo (plusV s x) (zs.drop (k + 1)) else none) := by rw [Hid, HT.out, tot_step zs k s hlt, hxk]
        clear hcx hxk
        cases hp : plusOk s x
        · have HN : Hid (totGo 0 zs = none) := by rw [Hid, HK.out, hp]; rfl
          go_wp2_with (go_at_call 17; refine (sPlus_any _ _ _).mono ?_; rintro e w' ⟨rfl, rfl⟩)
          go_ret2
          exact ⟨by rw [HN.out]; rfl, Below.refl _ _⟩
        · have HY : Hid (totGo 0 zs = totGo (plusV s x) (zs.drop (k + 1))) := by rw [Hid, HK.out, hp]; rfl
          go_wp2_with (go_at_call 17; refine (sPlus_any _ _ _).mono ?_; rintro e w' ⟨rfl, rfl⟩)
          go_round
          case rel => exact ⟨k + 1, plusV s x, by omega, by go_num, rfl, HY.out⟩
          case measure => simp [intOf]; omega
      · have HE : Hid (totGo 0 zs = some s) := by rw [Hid, HT.out, List.drop_of_length_le (by omega)]; rfl
        clear hcx
        go_wp2
        go_ret2
        exact ⟨by rw [HE.out]; rfl, Below.refl _ _⟩

set_option maxHeartbeats 800000 in
theorem iTotal_any (ao : Option Addr) (c : Nat) (zs : List Int) (w : World) (hx : IntsAt w ao zs) (h1 : zs.length ≤ 1099511627776) :
    Calls Try.prog 19 #[.slice ao zs.length c] w fun e w' => e = .returned (.tuple #[.int .i64 ((totGo 0 zs).getD 0), .bool (totGo 0 zs).isSome]) ∧ Below w.heap.size w w' := by
  rcases hx with rfl | ⟨b, off, rfl, hb, hcx⟩
  · go_enter Try.func19, Try.ntmps19
    go_wp2
    refine wp_loop_rounds 1 ?_
    rw [rounds_succ]
    go_wp2
    go_ret2
    exact ⟨rfl, Below.refl _ _⟩
  · go_enter Try.func19, Try.ntmps19
    go_wp2
    go_loop [4, 5, 10] (fun t ok i => ∃ k : Nat, ∃ s : Int, k ≤ zs.length ∧ i = .int .i64 k ∧ t = .int .i64 s ∧ totGo 0 zs = totGo s (zs.drop k)) (fun _ _ i => zs.length - (intOf i).toNat)
    case atStart => exact ⟨0, 0, Nat.zero_le _, rfl, rfl, rfl⟩
    case round =>
      obtain ⟨k, s, hk, rfl, rfl, ht⟩ := hrel
      have HT : Hid (totGo 0 zs = totGo s (zs.drop k)) := ht
      clear ht
      by_cases hlt : k < zs.length
      · have e1 := hcx k hlt
        obtain ⟨x, hxk⟩ : ∃ x, zs.getD k 0 = x := ⟨_, rfl⟩
        rw [hxk] at e1
        have HK : Hid (totGo 0 zs = if plusOk s x then totGo (plusV s x) (zs.drop (k + 1)) else none) := by rw [Hid, HT.out, tot_step zs k s hlt, hxk]
        clear hcx hxk
        cases hp : plusOk s x
        · have HN : Hid (totGo 0 zs = none) := by rw [Hid, HK.out, hp]; rfl
          go_wp2_with (go_at_call 41; refine (aPlus_any _ _ _).mono ?_; rintro e w' ⟨rfl, rfl⟩)
          go_ret2
          exact ⟨by rw [HN.out]; rfl, Below.refl _ _⟩
        · have HY : Hid (totGo 0 zs = totGo (plusV s x) (zs.drop (k + 1))) := by rw [Hid, HK.out, hp]; rfl
          go_wp2_with (go_at_call 41; refine (aPlus_any _ _ _).mono ?_; rintro e w' ⟨rfl, rfl⟩)
          go_round
          case rel => exact ⟨k + 1, plusV s x, by omega, by go_num, rfl, HY.out⟩
          case measure => simp [intOf]; omega
      · have HE : Hid (totGo 0 zs = some s) := by rw [Hid, HT.out, List.drop_of_length_le (by omega)]; rfl
        clear hcx
        go_wp2
        go_ret2
        exact ⟨by rw [HE.out]; rfl, Below.refl _ _⟩

end Go.Proofs.Ytkhohbkdfgnmnaa
