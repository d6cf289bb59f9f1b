/- Joined: Search, IterWork, EnMark. -/
import Derived.Test.YtpjfigjgamlcdaaDoorKFnExactCaseDoOff
import Derived.RangeFuncNested
import Derived.RangeFuncBound
import Derived.RangeFuncCalls
import Derived.RangeFuncLeaves
import Derived.Shelf.Abstract
import Derived.Shelf.RegionOpen
import Derived.WalkKit
import Derived.OwnWalkIn
import Derived.TacticsInMore
import Derived.LoopNIn
import Derived.LoopIn
import Derived.Test.YtpjfigjgamlcdaaDoorKFnExactCaseDoEnLaw
/- The search by halves, and what is told by it: whether a day is a holiday; Works. -/
namespace Go.Proofs.YtpjfigjgamlcdaaDoor
open Go.RowKit

set_option maxHeartbeats 400000 in
theorem nan1_any (x : Int) (w : World) : Calls Tryd.prog 148 #[.int .i64 x] w fun e w' => e = .returned (.bool false) ∧ w' = w := by
  have h : (x != x) = false := by simp
  go_enter Tryd.func148, Tryd.ntmps148
  go_wp2
  go_ret
  exact ⟨one_bool (by simp), rfl⟩
set_option maxHeartbeats 400000 in
theorem nan2_any (x : Int) (w : World) : Calls Tryd.prog 162 #[.int .i64 x] w fun e w' => e = .returned (.bool false) ∧ w' = w := by
  go_enter Tryd.func162, Tryd.ntmps162
  go_wp2
  go_ret
  exact ⟨one_bool (by simp), rfl⟩
set_option maxHeartbeats 400000 in
theorem less_any (x y : Int) (w : World) : Calls Tryd.prog 147 #[.int .i64 x, .int .i64 y] w fun e w' => e = .returned (.bool (decide (x < y))) ∧ w' = w := by
  go_enter Tryd.func147, Tryd.ntmps147
  go_wp2_with (go_at_call 162; refine (nan2_any _ _).mono ?_; rintro e w' ⟨rfl, rfl⟩)
  go_ret
  exact ⟨rfl, rfl⟩

set_option maxHeartbeats 1600000 in
theorem search_any (t : Int) (b off c : Nat) (zs : List Int) (w : World) (hcx : ∀ i, i < zs.length → w.cell? ⟨b, off + i, none⟩ = some (.int .i64 (zs.getD i 0))) (h1 : zs.length ≤ 400) (ha : ascB (-1) zs = true) :
    Calls Tryd.prog 130 #[.slice (some ⟨b, off, none⟩) zs.length c, .int .i64 t] w fun e w' => (∃ i : Int, e = .returned (.tuple #[.int .i64 i, .bool (decide (t ∈ zs))])) ∧ w' = w := by
  have HA : Hid _ := ha
  clear ha
  go_enter Tryd.func130, Tryd.ntmps130
  go_wp2
  go_loop [7, 8, 9] (fun i j _ => ∃ (m n : Nat), m ≤ n ∧ n ≤ zs.length ∧ i = .int .i64 m ∧ j = .int .i64 n ∧ (∀ k, k < m → zs.getD k 0 < t) ∧ (∀ k, n ≤ k → k < zs.length → t ≤ zs.getD k 0)) (fun i j _ => (intOf j - intOf i).toNat)
  case atStart => exact ⟨0, zs.length, Nat.zero_le _, Nat.le_refl _, rfl, rfl, fun k hk => by omega, fun k h1 h2 => by omega⟩
  case round =>
    obtain ⟨m, n, hmn, hn, rfl, rfl, hlo, hhi⟩ := hrel
    have HL : Hid _ := hlo
    have HH : Hid _ := hhi
    clear hlo hhi
    by_cases hlt : m < n
    · have hlti : (m : Int) < (n : Int) := by omega
      have e1 := hcx ((m + n) / 2) (by omega)
      obtain ⟨x, hxk⟩ : ∃ x, zs.getD ((m + n) / 2) 0 = x := ⟨_, rfl⟩
      rw [hxk] at e1
      have HX : Hid _ := hxk
      clear hxk hcx
      by_cases hxt : x < t
      · have HL2 : Hid (∀ k, k < (m + n) / 2 + 1 → zs.getD k 0 < t) := fun k hk => by
          rcases (show k < (m + n) / 2 ∨ k = (m + n) / 2 from by omega) with h | h
          · have := asc_lt zs _ HA.out k ((m + n) / 2) h (by omega)
            rw [HX.out] at this; omega
          · rw [h, HX.out]; exact hxt
        go_wp2_with (go_at_call 147; refine (less_any _ _ _).mono ?_; rintro e w' ⟨rfl, rfl⟩)
        go_round
        case rel => exact ⟨(m + n) / 2 + 1, n, by omega, hn, by go_num, rfl, HL2.out, HH.out⟩
        case measure => simp [intOf]; omega
      · have hxt' : t ≤ x := by omega
        have HH2 : Hid (∀ k, (m + n) / 2 ≤ k → k < zs.length → t ≤ zs.getD k 0) := fun k hk hkl => by
          rcases (show (m + n) / 2 < k ∨ k = (m + n) / 2 from by omega) with h | h
          · have := asc_lt zs _ HA.out ((m + n) / 2) k h hkl
            rw [HX.out] at this; omega
          · rw [h, HX.out]; exact hxt'
        go_wp2_with (go_at_call 147; refine (less_any _ _ _).mono ?_; rintro e w' ⟨rfl, rfl⟩)
        go_round
        case rel => exact ⟨m, (m + n) / 2, by omega, by omega, rfl, by go_num, HL.out, HH2.out⟩
        case measure => simp [intOf]; omega
    · have hmn' : m = n := by omega
      subst hmn'
      have HE : Hid _ := search_end HA.out HL.out HH.out
      by_cases hml : m < zs.length
      · have hmli : (m : Int) < (zs.length : Int) := by omega
        have e1 := hcx m hml
        obtain ⟨x, hxk⟩ : ∃ x, zs.getD m 0 = x := ⟨_, rfl⟩
        rw [hxk] at e1
        have HX : Hid _ := hxk
        clear hxk hcx
        cases he : (x == t)
        · have HR : Hid (decide (t ∈ zs) = false) := decide_eq_false (fun hm => by
            have := (HE.out.1 hm).2
            rw [HX.out] at this; subst this; simp at he)
          go_wp2_with (go_at_call 148; refine (nan1_any _ _).mono ?_; rintro e w' ⟨rfl, rfl⟩)
          go_ret2
          exact ⟨⟨m, two_eq rfl HR.out.symm⟩, rfl⟩
        · have HR : Hid (decide (t ∈ zs) = true) := decide_eq_true (HE.out.2 ⟨hml, by rw [HX.out]; simpa using he⟩)
          go_wp2_with (go_at_call 148; refine (nan1_any _ _).mono ?_; rintro e w' ⟨rfl, rfl⟩)
          go_ret2
          exact ⟨⟨m, two_eq rfl HR.out.symm⟩, rfl⟩
      · have hmli : ¬ (m : Int) < (zs.length : Int) := by omega
        have HR : Hid (decide (t ∈ zs) = false) := decide_eq_false (fun hm => hml (HE.out.1 hm).1)
        clear hcx
        go_wp2_with fail
        go_ret2
        exact ⟨⟨m, two_eq rfl HR.out.symm⟩, rfl⟩

set_option maxHeartbeats 800000 in
theorem search_nil (t : Int) (ao : Option Addr) (c : Nat) (w : World) :
    Calls Tryd.prog 130 #[.slice ao 0 c, .int .i64 t] w fun e w' => (∃ i : Int, e = .returned (.tuple #[.int .i64 i, .bool false])) ∧ w' = w := by
  go_enter Tryd.func130, Tryd.ntmps130
  go_wp2
  refine wp_loop_rounds 1 ?_
  rw [rounds_succ]
  go_wp2
  go_ret2
  exact ⟨⟨0, two_eq rfl rfl⟩, rfl⟩

set_option maxHeartbeats 800000 in
theorem has_any (d : Int) (ao : Option Addr) (c : Nat) (zs : List Int) (w : World) (hx : IntsAt w ao zs) (h1 : zs.length ≤ 400) (ha : ascB (-1) zs = true) :
    Calls Tryd.prog 104 #[.slice ao zs.length c, .int .i64 d] w fun e w' => e = .returned (.bool (decide (d ∈ zs))) ∧ w' = w := by
  rcases hx with rfl | ⟨b, off, rfl, hb, hcx⟩
  · go_enter Tryd.func104, Tryd.ntmps104
    go_wp2_with fail
    refine (search_nil _ _ _ _).mono ?_
    rintro e w' ⟨⟨i, rfl⟩, hw⟩
    subst hw
    go_wp2
    go_ret
    exact ⟨one_bool (by simp), rfl⟩
  · go_enter Tryd.func104, Tryd.ntmps104
    go_wp2_with fail
    refine (search_any _ _ _ _ zs _ hcx h1 ha).mono ?_
    rintro e w' ⟨⟨i, rfl⟩, hw⟩
    subst hw
    go_wp2
    go_ret
    exact ⟨rfl, rfl⟩

set_option maxHeartbeats 400000 in
theorem weekend_any (x : Int) (w : World) (hd : dOk x = true) :
    Calls Tryd.prog 103 #[.int .i64 x] w fun e w' => e = .returned (.bool (!decide ((x + 5) % 7 < 5))) ∧ w' = w := by
  have hv := wdV_yes hd
  have HB : Hid (decide (4 < (x + 5) % 7) = !decide ((x + 5) % 7 < 5)) := by
    by_cases h : (x + 5) % 7 < 5
    · rw [Hid, decide_eq_true h, decide_eq_false (by omega)]; rfl
    · rw [Hid, decide_eq_false h, decide_eq_true (by omega)]; rfl
  clear hd
  go_enter Tryd.func103, Tryd.ntmps103
  go_wp2_with (go_at_call 129; refine (iWeekDay_any _ _).mono ?_; rintro e w' ⟨rfl, rfl⟩; rw [hv])
  go_ret
  exact ⟨one_bool HB.out, rfl⟩

theorem worksV_no1 {d : Int} {zs : List Int} (h : dOk d = false) : worksV d zs = false := by simp [worksV, h]
theorem worksV_no2 {d : Int} {zs : List Int} (h : offOk zs = false) : worksV d zs = false := by simp [worksV, h]
theorem worksV_is {d : Int} {zs : List Int} (h : dOk d = true) (g : offOk zs = true) : worksV d zs = wk zs d := by simp [worksV, h, g]

end Go.Proofs.YtpjfigjgamlcdaaDoor

/- The iterator over the working days behind a day: what it hands to whoever ranges over it. -/
namespace Go.Proofs.YtpjfigjgamlcdaaDoor
open Go.RowKit Go.Shelf

/-- The slice at 'ao' reads as 'zs' in w, and lies below block N. -/
def IntsIn (N : Nat) (w : World) (ao : Option Addr) (zs : List Int) : Prop :=
  zs = [] ∨ ∃ b off, ao = some ⟨b, off, none⟩ ∧ b < N ∧ ∀ i, i < zs.length → w.cell? ⟨b, off + i, none⟩ = some (.int .i64 (zs.getD i 0))
theorem IntsIn.keep {N : Nat} {w w' : World} {ao : Option Addr} {zs : List Int} (h : IntsIn N w ao zs) (hb : Below N w w') : IntsIn N w' ao zs := by
  rcases h with h | ⟨b, off, h1, h2, h3⟩
  · exact .inl h
  · exact .inr ⟨b, off, h1, h2, fun i hi => (hb.cell (p := ⟨b, off + i, none⟩) h2).trans (h3 i hi)⟩
theorem IntsIn.at {N : Nat} {w : World} {ao : Option Addr} {zs : List Int} (h : IntsIn N w ao zs) (hN : N ≤ w.heap.size) : IntsAt w ao zs := by
  rcases h with h | ⟨b, off, h1, h2, h3⟩
  · exact .inl h
  · exact .inr ⟨b, off, h1, by omega, h3⟩
theorem IntsAt.in {w : World} {ao : Option Addr} {zs : List Int} (h : IntsAt w ao zs) : IntsIn w.heap.size w ao zs := h

/-- what a round leaves as it was: all below block N, and the box Bo -/
def Keep (N Bo : Nat) (W W' : World) : Prop := Below N W W' ∧ ∀ v, W.cell? ⟨Bo, 0, none⟩ = some v → W'.cell? ⟨Bo, 0, none⟩ = some v
theorem keep_t {N Bo : Nat} {A B C : World} (h : Keep N Bo A B) (k : Keep N Bo B C) : Keep N Bo A C := ⟨h.1.trans k.1, fun v hv => k.2 v (h.2 v hv)⟩
theorem keep_b {N Bo : Nat} {w : World} (hn : N ≤ w.heap.size) (W : World) (l : Nat) (o o' : Obj) (hl : w.heap.size ≤ l) (h : W.heap[l]? = some o) (hc : o.isCells = false) (hw : o.isWalk = false) : Keep N Bo W (W.putObj l o') :=
  ⟨belowK_b hn W l o o' hl h hc hw, fun _ hv => cell_kept hv (grownBy_putObj' W l o') (fun r e => by cases e; exact ⟨o, h, hc⟩)⟩

theorem val_int {k : IntKind} {a b : Int} (h : a = b) : Value.int k a = Value.int k b := by rw [h]
theorem wk_of (zs : List Int) (y : Int) : wk zs y = (decide ((y + 5) % 7 < 5) && !decide (y ∈ zs)) := rfl

set_option maxRecDepth 100000 in
set_option maxHeartbeats 2000000 in
theorem behind_in (n : Nat) (hn : 1 ≤ n) (l Bd Bo N c : Nat) (ao : Option Addr) (zs : List Int) (d : Int) (hd : dOk d = true) (ho : offOk zs = true) (J Jx : List Int → World → Prop)
    (hY : ∀ pre x W, J pre W → pre.length < (wd zs (80000 - d).toNat).length → YieldAt Fence.wide (n - 1) Tryd.prog l #[.int .i64 x] W fun e W' =>
      (e = .returned (.bool true) ∧ J (pre ++ [x]) W' ∧ Keep N Bo W W') ∨ (e = .returned (.bool false) ∧ Jx (pre ++ [x]) W'))
    (W : World) (hN : N ≤ W.heap.size) (cd : W.cell? ⟨Bd, 0, none⟩ = some (.int .i64 d)) (co : W.cell? ⟨Bo, 0, none⟩ = some (.slice ao zs.length c)) (hz : IntsIn N W ao zs) (h0 : J [] W) :
    CallsIn Fence.wide n Tryd.prog 102 #[.func (.yield l) #[] #[], .pointer (some ⟨Bd, 0, none⟩), .pointer (some ⟨Bo, 0, none⟩)] W fun e W' => (∃ v, e = .returned v) ∧
      ((∃ ys, ys = wd zs (80000 - d).toNat ∧ J ys W') ∨ (∃ pre, pre <+: wd zs (80000 - d).toNat ∧ Jx pre W')) := by
  have hb := dOk_bd hd
  have HL : Hid _ := off_len ho
  have HA : Hid _ := off_asc ho
  clear hd ho
  refine callsIn_of_wp Tryd.func102 rfl trivial ?_ rfl
  simp only [Tryd.ntmps102, List.size_toArray, List.length_cons, List.length_nil, Nat.reduceAdd, Nat.reduceSub, Array.replicate_succ, Array.replicate_zero, List.push_toArray, List.append_toArray, List.nil_append, List.cons_append]
  gi_wp2
  gi_loopw [4] (fun p wr => ∃ (f : Nat) (pre : List Int), f ≤ 80000 ∧ p = .int .i64 (80001 - f) ∧ pre ++ wd zs f = wd zs (80000 - d).toNat ∧ J pre wr ∧ Keep N Bo W wr) (fun p _ => (80001 - intOf p).toNat)
  case atStart => exact ⟨(80000 - d).toNat, [], by omega, val_int (by omega), rfl, h0, Below.refl _ _, fun _ h => h⟩
  case round =>
    obtain ⟨f, pre, hf, rfl, hx, hJs, hk⟩ := hrel
    have HX : Hid _ := hx
    clear hx
    obtain ⟨y, hy⟩ : ∃ y : Int, 80001 - (f : Int) = y := ⟨_, rfl⟩
    rw [hy]
    have HY : Hid _ := hy
    by_cases hyl : y ≤ 80000
    · obtain ⟨g, rfl⟩ : ∃ g, f = g + 1 := ⟨f - 1, by omega⟩
      have hyg : 80000 - (g : Int) = y := by omega
      have hyd : dOk y = true := dOk_pos (by omega) hyl
      have HG : Hid _ := hyg
      have hy0 : 0 ≤ y := by omega
      clear hy hyg
      have hwe := wk_of zs y
      have HW : Hid _ := hwe
      clear hwe
      have co' : wr.cell? ⟨Bo, 0, none⟩ = some (.slice ao zs.length c) := hk.2 _ co
      have HZ : Hid (IntsAt wr ao zs) := (hz.keep hk.1).at (Nat.le_trans hN hk.1.size)
      have hn' : 1 ≤ n := hn
      by_cases h5 : (y + 5) % 7 < 5
      · have hdec : decide ((y + 5) % 7 < 5) = true := decide_eq_true h5
        by_cases hin : y ∈ zs
        · have hdin : decide (y ∈ zs) = true := decide_eq_true hin
          have HN : Hid (wk zs y = false) := by rw [Hid, HW.out, hdec, hdin]; rfl
          clear h5 hin
          gi_wp2_with fail
          refine ⟨trivial, (callsIn_wide.2 (weekend_any _ _ hyd)).mono ?_⟩
          rintro e w1 ⟨rfl, hw1⟩
          subst hw1
          rw [hdec]
          gi_wp2_with fail
          refine ⟨trivial, (callsIn_wide.2 (has_any _ _ _ zs _ HZ.out HL.out HA.out)).mono ?_⟩
          rintro e w1 ⟨rfl, hw1⟩
          subst hw1
          rw [hdin]
          gi_wp2
          go_roundw
          case rel => exact ⟨g, pre, by omega, val_int (by have := HG.out; omega), by rw [← HX.out, wd_no (by rw [HG.out]; exact HN.out)], hJs, hk⟩
          case measure => simp [intOf]; have := HG.out; omega
        · have hdin : decide (y ∈ zs) = false := decide_eq_false hin
          have HN : Hid (wk zs y = true) := by rw [Hid, HW.out, hdec, hdin]; rfl
          have HX2 : Hid (wd zs (80000 - d).toNat = (pre ++ [y]) ++ wd zs g) := by rw [Hid, ← HX.out, wd_yes (by rw [HG.out]; exact HN.out), HG.out]; simp
          clear h5 hin
          obtain ⟨fn, tmps, assign, body, hyy, hR⟩ := hY pre y wr hJs (by rw [HX2.out]; simp)
          gi_wp2_with fail
          refine ⟨trivial, (callsIn_wide.2 (weekend_any _ _ hyd)).mono ?_⟩
          rintro e w1 ⟨rfl, hw1⟩
          subst hw1
          rw [hdec]
          gi_wp2_with fail
          refine ⟨trivial, (callsIn_wide.2 (has_any _ _ _ zs _ HZ.out HL.out HA.out)).mono ?_⟩
          rintro e w1 ⟨rfl, hw1⟩
          subst hw1
          rw [hdin]
          gi_wp2
          refine hR.mono ?_
          rintro e W3 (⟨rfl, hJ3, hk3⟩ | ⟨rfl, hJx3⟩)
          · gi_wp2
            go_roundw
            case rel => exact ⟨g, pre ++ [y], by omega, val_int (by have := HG.out; omega), HX2.out.symm, hJ3, keep_t hk hk3⟩
            case measure => simp [intOf]; have := HG.out; omega
          · gi_wp2
            refine bodyPost_ret (results_none rfl _ _ _) rfl ?_
            exact ⟨⟨_, rfl⟩, .inr ⟨pre ++ [y], ⟨wd zs g, HX2.out.symm⟩, hJx3⟩⟩
      · have hdec : decide ((y + 5) % 7 < 5) = false := decide_eq_false h5
        have HN : Hid (wk zs y = false) := by rw [Hid, HW.out, hdec]; rfl
        clear h5
        gi_wp2_with fail
        refine ⟨trivial, (callsIn_wide.2 (weekend_any _ _ hyd)).mono ?_⟩
        rintro e w1 ⟨rfl, hw1⟩
        subst hw1
        rw [hdec]
        gi_wp2
        refine ⟨trivial, ?_⟩
        gi_wp2
        go_roundw
        case rel => exact ⟨g, pre, by omega, val_int (by have := HG.out; omega), by rw [← HX.out, wd_no (by rw [HG.out]; exact HN.out)], hJs, hk⟩
        case measure => simp [intOf]; have := HG.out; omega
    · have hf0 : f = 0 := by omega
      subst hf0
      clear hy
      gi_wp2
      go_end0
      exact ⟨⟨_, rfl⟩, .inl (by rw [← HX.out]; simpa [wd] using hJs)⟩

theorem behind_stops (n : Nat) (hn : 1 ≤ n) (Bd Bo N c : Nat) (ao : Option Addr) (zs : List Int) (d : Int) (w : World) (hd : dOk d = true) (ho : offOk zs = true) (hBd : Bd < w.heap.size) (hBo : Bo < w.heap.size) (hN : N ≤ w.heap.size)
    (cd : w.cell? ⟨Bd, 0, none⟩ = some (.int .i64 d)) (co : w.cell? ⟨Bo, 0, none⟩ = some (.slice ao zs.length c)) (hz : IntsIn N w ao zs) :
    SeqStopsK Fence.wide n Tryd.prog 102 #[.pointer (some ⟨Bd, 0, none⟩), .pointer (some ⟨Bo, 0, none⟩)] (fun x : Int => #[Value.int .i64 x]) (Keep N Bo)
      (fun ys => ys = wd zs (80000 - d).toNat) (fun pre => pre <+: wd zs (80000 - d).toNat) (wd zs (80000 - d).toNat).length w := fun l J Jx W hW _ _ hY h0 =>
  behind_in n hn l Bd Bo N c ao zs d hd ho J Jx hY W (Nat.le_trans hN hW.size) ((hW.cell (p := ⟨Bd, 0, none⟩) hBd).trans cd) ((hW.cell (p := ⟨Bo, 0, none⟩) hBo).trans co) (hz.keep (hW.mono hN)) h0

set_option maxHeartbeats 400000 in
theorem workBehind_any (ao : Option Addr) (m c : Nat) (d : Int) (w : World) :
    Calls Tryd.prog 71 #[.slice ao m c, .int .i64 d] w fun e w' =>
      e = .returned (.func (.func 102) #[] #[.pointer (some ⟨w.heap.size + 1, 0, none⟩), .pointer (some ⟨w.heap.size, 0, none⟩)]) ∧
      w' = (w.alloc (.cells #[.slice ao m c] 70)).alloc (.cells #[.int .i64 d] 3) := by
  go_enter Tryd.func71, Tryd.ntmps71
  go_wp2
  go_ret
  exact ⟨rfl, rfl⟩

end Go.Proofs.YtpjfigjgamlcdaaDoor

/- Marks in one's own entries, found again. -/
namespace Go.Proofs.YtpjfigjgamlcdaaDoor
open Go.RowKit
set_option maxRecDepth 100000

/-- the marks of n entries, from k on -/
def mkE (k n : Nat) : List En := (List.range n).map fun i => (((k + 4 * i : Nat) : Int), ((k + 4 * i + 1 : Nat) : Int), ((k + 4 * i + 2 : Nat) : Int), ((k + 4 * i + 3 : Nat) : Int))
theorem mkE_len (k n : Nat) : (mkE k n).length = n := by simp [mkE]
theorem mkE_at (k n i : Nat) (h : i < n) : enAt (mkE k n) i = (((k + 4 * i : Nat) : Int), ((k + 4 * i + 1 : Nat) : Int), ((k + 4 * i + 2 : Nat) : Int), ((k + 4 * i + 3 : Nat) : Int)) := by simp [enAt, mkE, List.getD_eq_getElem?_getD, h]
def fillE (es : List En) (k j : Nat) : List En := mkE k j ++ es.drop j
theorem fillE_len (es : List En) (k j : Nat) (h : j ≤ es.length) : (fillE es k j).length = es.length := by simp [fillE, mkE_len]; omega
theorem fillE_zero (es : List En) (k : Nat) : fillE es k 0 = es := by simp [fillE, mkE]
theorem fillE_all (es : List En) (k : Nat) : fillE es k es.length = mkE k es.length := by simp [fillE]
theorem fillE_succ (es : List En) (k j : Nat) (h : j < es.length) : (fillE es k j).set j (((k + 4 * j : Nat) : Int), ((k + 4 * j + 1 : Nat) : Int), ((k + 4 * j + 2 : Nat) : Int), ((k + 4 * j + 3 : Nat) : Int)) = fillE es k (j + 1) := by
  unfold fillE
  rw [List.set_append, if_neg (by rw [mkE_len]; omega), mkE_len, Nat.sub_self, List.drop_eq_getElem_cons h, List.set_cons_zero]
  simp [mkE, List.range_succ]

set_option maxHeartbeats 1600000 in
theorem markE_any (ao : Option Addr) (cap base k : Nat) (es : List En) (w : World) (ho : w.ownsRow base 36 4 (.slice ao es.length cap) es.length (ecells es)) (hn : es.length ≤ 1099511627) (k2 : k ≤ 1099511627) :
    Calls Tryd.prog 33 #[.slice ao es.length cap, .int .i64 k] w fun e w' => e = .returned (.int .i64 (k + 4 * es.length : Nat)) ∧
      w'.ownsRow base 36 4 (.slice ao es.length cap) es.length (ecells (mkE k es.length)) ∧ w.grownBy w' (Value.slice ao es.length cap).ownBlock := by
  rcases ho.2 with ⟨hv, h0⟩ | ⟨g, cap', cur, hv, hrest⟩
  · obtain rfl : es = [] := List.eq_nil_of_length_eq_zero h0
    obtain ⟨rfl, rfl⟩ : ao = none ∧ cap = 0 := by simpa using hv
    clear hv h0
    go_enter Tryd.func33, Tryd.ntmps33
    go_wp2
    refine wp_loop_rounds 1 ?_
    rw [rounds_succ]
    go_wp2
    go_ret
    exact ⟨one_int (by simp), World.ownsRow_nil _ _ _ _, World.grownBy.refl _ _⟩
  · obtain ⟨rfl, rfl⟩ : ao = some ⟨g, 0, none⟩ ∧ cap = cap' := by simpa using hv
    clear hv hrest
    go_enter Tryd.func33, Tryd.ntmps33
    go_wp2
    go_loopw [1, 5] (fun c i wr => ∃ j : Nat, j ≤ es.length ∧ i = .int .i64 j ∧ c = .int .i64 (k + 4 * j : Nat) ∧ wr.ownsRow base 36 4 (.slice (some ⟨g, 0, none⟩) es.length cap) es.length (ecells (fillE es k j)) ∧ w.grownBy wr (some g)) (fun _ i _ => es.length - (intOf i).toNat)
    case atStart => exact ⟨0, Nat.zero_le _, rfl, rfl, by rw [fillE_zero]; exact ho, World.grownBy.refl _ _⟩
    case round =>
      obtain ⟨j, hj, rfl, rfl, hor, hgr⟩ := hrel
      clear ho
      by_cases hlt : j < es.length
      · have hji : (j : Int) < (es.length : Int) := by omega
        have hat := ecells_at (fillE es k j) j (by rw [fillE_len es k j hj]; exact hlt)
        have c1 : wr.cell? ⟨g, j * 4, none⟩ = some (.int .i64 (enAt (fillE es k j) j).1) := by rw [hor.cellAt (j * 4) (by omega)]; exact hat.1
        have c2 : wr.cell? ⟨g, j * 4 + 1, none⟩ = some (.int .i64 (enAt (fillE es k j) j).2.1) := by rw [hor.cellAt (j * 4 + 1) (by omega)]; exact hat.2.1
        have c3 : wr.cell? ⟨g, j * 4 + 2, none⟩ = some (.int .i64 (enAt (fillE es k j) j).2.2.1) := by rw [hor.cellAt (j * 4 + 2) (by omega)]; exact hat.2.2.1
        have c4 : wr.cell? ⟨g, j * 4 + 3, none⟩ = some (.int .i64 (enAt (fillE es k j) j).2.2.2) := by rw [hor.cellAt (j * 4 + 3) (by omega)]; exact hat.2.2.2
        have d1 : wr.frozen? ⟨g, j * 4, none⟩ = false := hor.frozenAt _
        have d2 : wr.frozen? ⟨g, j * 4 + 1, none⟩ = false := hor.frozenAt _
        have d3 : wr.frozen? ⟨g, j * 4 + 2, none⟩ = false := hor.frozenAt _
        have d4 : wr.frozen? ⟨g, j * 4 + 3, none⟩ = false := hor.frozenAt _
        have R1 := hor.stored (j * 4) (.int .i64 (k + 4 * j : Nat))
        have R2 := R1.1.stored (j * 4 + 1) (.int .i64 (k + 4 * j + 1 : Nat))
        have R3 := R2.1.stored (j * 4 + 2) (.int .i64 (k + 4 * j + 2 : Nat))
        have R4 := R3.1.stored (j * 4 + 3) (.int .i64 (k + 4 * j + 3 : Nat))
        have HS := ecells_set (fillE es k j) (((k + 4 * j : Nat) : Int), ((k + 4 * j + 1 : Nat) : Int), ((k + 4 * j + 2 : Nat) : Int), ((k + 4 * j + 3 : Nat) : Int)) j (by rw [fillE_len es k j hj]; exact hlt)
        simp only at HS
        have R := R4.1
        rw [HS, fillE_succ es k j hlt] at R
        have G := (((hgr.trans R1.2).trans R2.2).trans R3.2).trans R4.2
        obtain ⟨m, hm⟩ : ∃ m : Nat, k + 4 * j = m := ⟨_, rfl⟩
        obtain ⟨o1, h1⟩ : ∃ x, (enAt (fillE es k j) j).1 = x := ⟨_, rfl⟩
        obtain ⟨o2, h2⟩ : ∃ x, (enAt (fillE es k j) j).2.1 = x := ⟨_, rfl⟩
        obtain ⟨o3, h3⟩ : ∃ x, (enAt (fillE es k j) j).2.2.1 = x := ⟨_, rfl⟩
        obtain ⟨o4, h4⟩ : ∃ x, (enAt (fillE es k j) j).2.2.2 = x := ⟨_, rfl⟩
        rw [hm] at R G ⊢
        rw [h1] at c1
        rw [h2] at c2
        rw [h3] at c3
        rw [h4] at c4
        have e1 : ((m + 1 : Nat) : Int) = (m : Int) + 1 := by omega
        have e2 : ((m + 2 : Nat) : Int) = (m : Int) + 1 + 1 := by omega
        have e3 : ((m + 3 : Nat) : Int) = (m : Int) + 1 + 1 + 1 := by omega
        rw [e1, e2, e3] at R G
        have HR : Hid _ := R
        have HG : Hid _ := G
        have hmb : m ≤ 6000000000 := by omega
        have HM : Hid (k + 4 * (j + 1) = m + 1 + 1 + 1 + 1) := by rw [Hid]; omega
        clear R1 R2 R3 R4 R G hor hgr hat hm h1 h2 h3 h4 HS e1 e2 e3
        go_wp2
        go_roundw
        case rel => exact ⟨j + 1, by omega, by go_num, by rw [HM.out]; go_num, HR.out, HG.out⟩
        case measure => simp [intOf]; omega
      · have hjn : j = es.length := by omega
        subst hjn
        rw [fillE_all] at hor
        have HO : Hid _ := hor
        clear hor
        go_wp2
        go_ret
        exact ⟨rfl, HO.out, hgr⟩

set_option maxHeartbeats 800000 in
theorem heldE_any (ao : Option Addr) (cap n k : Nat) (w : World) (hz : EntsAt w ao (mkE k n)) (hn : n ≤ 1099511627) (k2 : k ≤ 1099511627) :
    Calls Tryd.prog 34 #[.slice ao n cap, .int .i64 k] w fun e w' => e = .returned (.int .i64 (k + 4 * n : Nat)) ∧ Below w.heap.size w w' := by
  have HZ : Hid (EntsAt w ao (mkE k n)) := hz
  clear hz
  go_enter Tryd.func34, Tryd.ntmps34
  go_wp2
  go_loopw [1, 5] (fun c i wr => ∃ j : Nat, j ≤ n ∧ i = .int .i64 j ∧ c = .int .i64 (k + 4 * j : Nat) ∧ wr = w) (fun _ i _ => n - (intOf i).toNat)
  case atStart => exact ⟨0, Nat.zero_le _, rfl, rfl, rfl⟩
  case round =>
    obtain ⟨j, hj, rfl, rfl, hwr⟩ := hrel
    subst hwr
    by_cases hlt : j < n
    · have hji : (j : Int) < (n : Int) := by omega
      obtain ⟨b, off, rfl, hb, c1, c2, c3, c4⟩ := HZ.out.at (k := j) (by rw [mkE_len]; exact hlt)
      rw [mkE_at k n j hlt] at c1 c2 c3 c4
      simp only at c1 c2 c3 c4
      obtain ⟨m, hm⟩ : ∃ m : Nat, k + 4 * j = m := ⟨_, rfl⟩
      rw [hm] at c1 c2 c3 c4 ⊢
      rw [show ((m + 1 : Nat) : Int) = (m : Int) + 1 by omega] at c2
      rw [show ((m + 2 : Nat) : Int) = (m : Int) + 1 + 1 by omega] at c3
      rw [show ((m + 3 : Nat) : Int) = (m : Int) + 1 + 1 + 1 by omega] at c4
      have hmb : m ≤ 6000000000 := by omega
      have HM : Hid (k + 4 * (j + 1) = m + 1 + 1 + 1 + 1) := by rw [Hid]; omega
      have n1 : ((m : Int) != (m : Int)) = false := by simp
      have n2 : ((m : Int) + 1 != (m : Int) + 1) = false := by simp
      have n3 : ((m : Int) + 1 + 1 != (m : Int) + 1 + 1) = false := by simp
      have n4 : ((m : Int) + 1 + 1 + 1 != (m : Int) + 1 + 1 + 1) = false := by simp
      clear hm
      go_wp2
      go_roundw
      case rel => exact ⟨j + 1, by omega, by go_num, by rw [HM.out]; go_num, trivial⟩
      case measure => simp [intOf]; omega
    · have hjn : j = n := by omega
      subst hjn
      go_wp2
      go_ret
      exact ⟨rfl, Below.refl _ _⟩
theorem keepE {w w' : World} {base n size : Nat} {t : TypeId} {v : Value} {xs : List Value} {row : Option Nat} (h : w.ownsRow base t size v n xs) (hg : w.grownBy w' row) (hne : ∀ g, v.ownBlock = some g → some g ≠ row) : w'.ownsRow base t size v n xs := by
  obtain ⟨h1, h2⟩ := h
  refine ⟨h1, ?_⟩
  rcases h2 with h | ⟨g, cap, cur, hv, hg', hh, a1, a2, a3, a4⟩
  · exact .inl h
  · have hlt : g < w.heap.size := (Array.getElem?_eq_some_iff.1 hh).1
    exact .inr ⟨g, cap, cur, hv, hg', (hg.block g hlt (hne g (by rw [hv]; rfl))).trans hh, a1, a2, a3, a4⟩
/-- what stood ahead of a row stands behind marks in it -/
theorem below_mark {w u u' : World} {row : Option Nat} (b : Below w.heap.size w u) (g : u.grownBy u' row) (hr : ∀ x, row = some x → w.heap.size ≤ x) : Below w.heap.size w u' := b.grown g b.size hr
theorem ents_mark {w : World} {base n : Nat} {t : TypeId} {ao : Option Addr} {cap : Nat} (h : w.ownsRow base t 4 (.slice ao n cap) n (ecells (mkE 1 n))) : EntsAt w ao (mkE 1 n) := by
  obtain ⟨ao', cap', hv, hf, _⟩ := ents_of_own h
  obtain ⟨rfl, _⟩ : ao = ao' ∧ n = (mkE 1 n).length ∧ cap = cap' := by simpa using hv
  exact hf

end Go.Proofs.YtpjfigjgamlcdaaDoor
