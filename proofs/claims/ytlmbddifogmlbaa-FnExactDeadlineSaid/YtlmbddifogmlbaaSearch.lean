/- The search by halves, and what is told by it: whether a day is a holiday; Works. -/
import Derived.Test.YtlmbddifogmlbaaOff
namespace Go.Proofs.Ytlmbddifogmlbaa
open Go.RowKit

set_option maxHeartbeats 400000 in
theorem nan1_any (x : Int) (w : World) : Calls Try.prog 27 #[.int .i64 x] w fun e w' => e = .returned (.bool false) ∧ w' = w := by
  have h : (x != x) = false := by simp
  go_enter Try.func27, Try.ntmps27
  go_wp2
  go_ret
  exact ⟨one_bool (by simp), rfl⟩
set_option maxHeartbeats 400000 in
theorem nan2_any (x : Int) (w : World) : Calls Try.prog 28 #[.int .i64 x] w fun e w' => e = .returned (.bool false) ∧ w' = w := by
  go_enter Try.func28, Try.ntmps28
  go_wp2
  go_ret
  exact ⟨one_bool (by simp), rfl⟩
set_option maxHeartbeats 400000 in
theorem less_any (x y : Int) (w : World) : Calls Try.prog 26 #[.int .i64 x, .int .i64 y] w fun e w' => e = .returned (.bool (decide (x < y))) ∧ w' = w := by
  go_enter Try.func26, Try.ntmps26
  go_wp2_with (go_at_call 28; refine (nan2_any _ _).mono ?_; rintro e w' ⟨rfl, rfl⟩)
  go_ret
  exact ⟨rfl, rfl⟩

set_option maxHeartbeats 1600000 in
theorem search_any (t : Int) (b off c : Nat) (zs : List Int) (w : World) (hcx : ∀ i, i < zs.length → w.cell? ⟨b, off + i, none⟩ = some (.int .i64 (zs.getD i 0))) (h1 : zs.length ≤ 400) (ha : ascB (-1) zs = true) :
    Calls Try.prog 25 #[.slice (some ⟨b, off, none⟩) zs.length c, .int .i64 t] w fun e w' => (∃ i : Int, e = .returned (.tuple #[.int .i64 i, .bool (decide (t ∈ zs))])) ∧ w' = w := by
  have HA : Hid _ := ha
  clear ha
  go_enter Try.func25, Try.ntmps25
  go_wp2
  go_loop [7, 8, 9] (fun i j _ => ∃ (m n : Nat), m ≤ n ∧ n ≤ zs.length ∧ i = .int .i64 m ∧ j = .int .i64 n ∧ (∀ k, k < m → zs.getD k 0 < t) ∧ (∀ k, n ≤ k → k < zs.length → t ≤ zs.getD k 0)) (fun i j _ => (intOf j - intOf i).toNat)
  case atStart => exact ⟨0, zs.length, Nat.zero_le _, Nat.le_refl _, rfl, rfl, fun k hk => by omega, fun k h1 h2 => by omega⟩
  case round =>
    obtain ⟨m, n, hmn, hn, rfl, rfl, hlo, hhi⟩ := hrel
    have HL : Hid _ := hlo
    have HH : Hid _ := hhi
    clear hlo hhi
    by_cases hlt : m < n
    · have hlti : (m : Int) < (n : Int) := by omega
      have e1 := hcx ((m + n) / 2) (by omega)
      obtain ⟨x, hxk⟩ : ∃ x, zs.getD ((m + n) / 2) 0 = x := ⟨_, rfl⟩
      rw [hxk] at e1
      have HX : Hid _ := hxk
      clear hxk hcx
      by_cases hxt : x < t
      · have HL2 : Hid (∀ k, k < (m + n) / 2 + 1 → zs.getD k 0 < t) := fun k hk => by
          rcases (show k < (m + n) / 2 ∨ k = (m + n) / 2 from by omega) with h | h
          · have := asc_lt zs _ HA.out k ((m + n) / 2) h (by omega)
            rw [HX.out] at this; omega
          · rw [h, HX.out]; exact hxt
        go_wp2_with (go_at_call 26; refine (less_any _ _ _).mono ?_; rintro e w' ⟨rfl, rfl⟩)
        go_round
        case rel => exact ⟨(m + n) / 2 + 1, n, by omega, hn, by go_num, rfl, HL2.out, HH.out⟩
        case measure => simp [intOf]; omega
      · have hxt' : t ≤ x := by omega
        have HH2 : Hid (∀ k, (m + n) / 2 ≤ k → k < zs.length → t ≤ zs.getD k 0) := fun k hk hkl => by
          rcases (show (m + n) / 2 < k ∨ k = (m + n) / 2 from by omega) with h | h
          · have := asc_lt zs _ HA.out ((m + n) / 2) k h hkl
            rw [HX.out] at this; omega
          · rw [h, HX.out]; exact hxt'
        go_wp2_with (go_at_call 26; refine (less_any _ _ _).mono ?_; rintro e w' ⟨rfl, rfl⟩)
        go_round
        case rel => exact ⟨m, (m + n) / 2, by omega, by omega, rfl, by go_num, HL.out, HH2.out⟩
        case measure => simp [intOf]; omega
    · have hmn' : m = n := by omega
      subst hmn'
      have HE : Hid _ := search_end HA.out HL.out HH.out
      by_cases hml : m < zs.length
      · have hmli : (m : Int) < (zs.length : Int) := by omega
        have e1 := hcx m hml
        obtain ⟨x, hxk⟩ : ∃ x, zs.getD m 0 = x := ⟨_, rfl⟩
        rw [hxk] at e1
        have HX : Hid _ := hxk
        clear hxk hcx
        cases he : (x == t)
        · have HR : Hid (decide (t ∈ zs) = false) := decide_eq_false (fun hm => by
            have := (HE.out.1 hm).2
            rw [HX.out] at this; subst this; simp at he)
          go_wp2_with (go_at_call 27; refine (nan1_any _ _).mono ?_; rintro e w' ⟨rfl, rfl⟩)
          go_ret2
          exact ⟨⟨m, two_eq rfl HR.out.symm⟩, rfl⟩
        · have HR : Hid (decide (t ∈ zs) = true) := decide_eq_true (HE.out.2 ⟨hml, by rw [HX.out]; simpa using he⟩)
          go_wp2_with (go_at_call 27; refine (nan1_any _ _).mono ?_; rintro e w' ⟨rfl, rfl⟩)
          go_ret2
          exact ⟨⟨m, two_eq rfl HR.out.symm⟩, rfl⟩
      · have hmli : ¬ (m : Int) < (zs.length : Int) := by omega
        have HR : Hid (decide (t ∈ zs) = false) := decide_eq_false (fun hm => hml (HE.out.1 hm).1)
        clear hcx
        go_wp2_with fail
        go_ret2
        exact ⟨⟨m, two_eq rfl HR.out.symm⟩, rfl⟩

set_option maxHeartbeats 800000 in
theorem search_nil (t : Int) (ao : Option Addr) (c : Nat) (w : World) :
    Calls Try.prog 25 #[.slice ao 0 c, .int .i64 t] w fun e w' => (∃ i : Int, e = .returned (.tuple #[.int .i64 i, .bool false])) ∧ w' = w := by
  go_enter Try.func25, Try.ntmps25
  go_wp2
  refine wp_loop_rounds 1 ?_
  rw [rounds_succ]
  go_wp2
  go_ret2
  exact ⟨⟨0, two_eq rfl rfl⟩, rfl⟩

set_option maxHeartbeats 800000 in
theorem has_any (d : Int) (ao : Option Addr) (c : Nat) (zs : List Int) (w : World) (hx : IntsAt w ao zs) (h1 : zs.length ≤ 400) (ha : ascB (-1) zs = true) :
    Calls Try.prog 23 #[.slice ao zs.length c, .int .i64 d] w fun e w' => e = .returned (.bool (decide (d ∈ zs))) ∧ w' = w := by
  rcases hx with rfl | ⟨b, off, rfl, hb, hcx⟩
  · go_enter Try.func23, Try.ntmps23
    go_wp2_with fail
    refine (search_nil _ _ _ _).mono ?_
    rintro e w' ⟨⟨i, rfl⟩, hw⟩
    subst hw
    go_wp2
    go_ret
    exact ⟨one_bool (by simp), rfl⟩
  · go_enter Try.func23, Try.ntmps23
    go_wp2_with fail
    refine (search_any _ _ _ _ zs _ hcx h1 ha).mono ?_
    rintro e w' ⟨⟨i, rfl⟩, hw⟩
    subst hw
    go_wp2
    go_ret
    exact ⟨rfl, rfl⟩

set_option maxHeartbeats 400000 in
theorem weekend_any (x : Int) (w : World) (hd : dOk x = true) :
    Calls Try.prog 22 #[.int .i64 x] w fun e w' => e = .returned (.bool (!decide ((x + 5) % 7 < 5))) ∧ w' = w := by
  have hv := wdV_yes hd
  have HB : Hid (decide (4 < (x + 5) % 7) = !decide ((x + 5) % 7 < 5)) := by
    by_cases h : (x + 5) % 7 < 5
    · rw [Hid, decide_eq_true h, decide_eq_false (by omega)]; rfl
    · rw [Hid, decide_eq_false h, decide_eq_true (by omega)]; rfl
  clear hd
  go_enter Try.func22, Try.ntmps22
  go_wp2_with (go_at_call 24; refine (iWeekDay_any _ _).mono ?_; rintro e w' ⟨rfl, rfl⟩; rw [hv])
  go_ret
  exact ⟨one_bool HB.out, rfl⟩

theorem worksV_no1 {d : Int} {zs : List Int} (h : dOk d = false) : worksV d zs = false := by simp [worksV, h]
theorem worksV_no2 {d : Int} {zs : List Int} (h : offOk zs = false) : worksV d zs = false := by simp [worksV, h]
theorem worksV_is {d : Int} {zs : List Int} (h : dOk d = true) (g : offOk zs = true) : worksV d zs = wk zs d := by simp [worksV, h, g]

end Go.Proofs.Ytlmbddifogmlbaa
