/- The iterator over the working days behind a day: what it hands to whoever ranges over it. -/
import Derived.RangeFuncNested
import Derived.RangeFuncBound
import Derived.RangeFuncCalls
import Derived.RangeFuncLeaves
import Derived.Shelf.Abstract
import Derived.Shelf.RegionOpen
import Derived.WalkKit
import Derived.OwnWalkIn
import Derived.TacticsInMore
import Derived.LoopNIn
import Derived.LoopIn
import Derived.Test.YtlmbddifogmlbaaSearch
namespace Go.Proofs.Ytlmbddifogmlbaa
open Go.RowKit Go.Shelf

/-- The slice at 'ao' reads as 'zs' in w, and lies below block N. -/
def IntsIn (N : Nat) (w : World) (ao : Option Addr) (zs : List Int) : Prop :=
  zs = [] ∨ ∃ b off, ao = some ⟨b, off, none⟩ ∧ b < N ∧ ∀ i, i < zs.length → w.cell? ⟨b, off + i, none⟩ = some (.int .i64 (zs.getD i 0))
theorem IntsIn.keep {N : Nat} {w w' : World} {ao : Option Addr} {zs : List Int} (h : IntsIn N w ao zs) (hb : Below N w w') : IntsIn N w' ao zs := by
  rcases h with h | ⟨b, off, h1, h2, h3⟩
  · exact .inl h
  · exact .inr ⟨b, off, h1, h2, fun i hi => (hb.cell (p := ⟨b, off + i, none⟩) h2).trans (h3 i hi)⟩
theorem IntsIn.at {N : Nat} {w : World} {ao : Option Addr} {zs : List Int} (h : IntsIn N w ao zs) (hN : N ≤ w.heap.size) : IntsAt w ao zs := by
  rcases h with h | ⟨b, off, h1, h2, h3⟩
  · exact .inl h
  · exact .inr ⟨b, off, h1, by omega, h3⟩
theorem IntsAt.in {w : World} {ao : Option Addr} {zs : List Int} (h : IntsAt w ao zs) : IntsIn w.heap.size w ao zs := h

/-- what a round leaves as it was: all below block N, and the box Bo -/
def Keep (N Bo : Nat) (W W' : World) : Prop := Below N W W' ∧ ∀ v, W.cell? ⟨Bo, 0, none⟩ = some v → W'.cell? ⟨Bo, 0, none⟩ = some v
theorem keep_t {N Bo : Nat} {A B C : World} (h : Keep N Bo A B) (k : Keep N Bo B C) : Keep N Bo A C := ⟨h.1.trans k.1, fun v hv => k.2 v (h.2 v hv)⟩
theorem keep_b {N Bo : Nat} {w : World} (hn : N ≤ w.heap.size) (W : World) (l : Nat) (o o' : Obj) (hl : w.heap.size ≤ l) (h : W.heap[l]? = some o) (hc : o.isCells = false) (hw : o.isWalk = false) : Keep N Bo W (W.putObj l o') :=
  ⟨belowK_b hn W l o o' hl h hc hw, fun _ hv => cell_kept hv (grownBy_putObj' W l o') (fun r e => by cases e; exact ⟨o, h, hc⟩)⟩

theorem val_int {k : IntKind} {a b : Int} (h : a = b) : Value.int k a = Value.int k b := by rw [h]
theorem wk_of (zs : List Int) (y : Int) : wk zs y = (decide ((y + 5) % 7 < 5) && !decide (y ∈ zs)) := rfl

set_option maxRecDepth 100000 in
set_option maxHeartbeats 2000000 in
theorem behind_in (n : Nat) (hn : 1 ≤ n) (l Bd Bo N c : Nat) (ao : Option Addr) (zs : List Int) (d : Int) (hd : dOk d = true) (ho : offOk zs = true) (J Jx : List Int → World → Prop)
    (hY : ∀ pre x W, J pre W → pre.length < (wd zs (80000 - d).toNat).length → YieldAt Fence.wide (n - 1) Try.prog l #[.int .i64 x] W fun e W' =>
      (e = .returned (.bool true) ∧ J (pre ++ [x]) W' ∧ Keep N Bo W W') ∨ (e = .returned (.bool false) ∧ Jx (pre ++ [x]) W'))
    (W : World) (hN : N ≤ W.heap.size) (cd : W.cell? ⟨Bd, 0, none⟩ = some (.int .i64 d)) (co : W.cell? ⟨Bo, 0, none⟩ = some (.slice ao zs.length c)) (hz : IntsIn N W ao zs) (h0 : J [] W) :
    CallsIn Fence.wide n Try.prog 21 #[.func (.yield l) #[] #[], .pointer (some ⟨Bd, 0, none⟩), .pointer (some ⟨Bo, 0, none⟩)] W fun e W' => (∃ v, e = .returned v) ∧
      ((∃ ys, ys = wd zs (80000 - d).toNat ∧ J ys W') ∨ (∃ pre, pre <+: wd zs (80000 - d).toNat ∧ Jx pre W')) := by
  have hb := dOk_bd hd
  have HL : Hid _ := off_len ho
  have HA : Hid _ := off_asc ho
  clear hd ho
  refine callsIn_of_wp Try.func21 rfl trivial ?_ rfl
  simp only [Try.ntmps21, List.size_toArray, List.length_cons, List.length_nil, Nat.reduceAdd, Nat.reduceSub, Array.replicate_succ, Array.replicate_zero, List.push_toArray, List.append_toArray, List.nil_append, List.cons_append]
  gi_wp2
  gi_loopw [4] (fun p wr => ∃ (f : Nat) (pre : List Int), f ≤ 80000 ∧ p = .int .i64 (80001 - f) ∧ pre ++ wd zs f = wd zs (80000 - d).toNat ∧ J pre wr ∧ Keep N Bo W wr) (fun p _ => (80001 - intOf p).toNat)
  case atStart => exact ⟨(80000 - d).toNat, [], by omega, val_int (by omega), rfl, h0, Below.refl _ _, fun _ h => h⟩
  case round =>
    obtain ⟨f, pre, hf, rfl, hx, hJs, hk⟩ := hrel
    have HX : Hid _ := hx
    clear hx
    obtain ⟨y, hy⟩ : ∃ y : Int, 80001 - (f : Int) = y := ⟨_, rfl⟩
    rw [hy]
    have HY : Hid _ := hy
    by_cases hyl : y ≤ 80000
    · obtain ⟨g, rfl⟩ : ∃ g, f = g + 1 := ⟨f - 1, by omega⟩
      have hyg : 80000 - (g : Int) = y := by omega
      have hyd : dOk y = true := dOk_pos (by omega) hyl
      have HG : Hid _ := hyg
      have hy0 : 0 ≤ y := by omega
      clear hy hyg
      have hwe := wk_of zs y
      have HW : Hid _ := hwe
      clear hwe
      have co' : wr.cell? ⟨Bo, 0, none⟩ = some (.slice ao zs.length c) := hk.2 _ co
      have HZ : Hid (IntsAt wr ao zs) := (hz.keep hk.1).at (Nat.le_trans hN hk.1.size)
      have hn' : 1 ≤ n := hn
      by_cases h5 : (y + 5) % 7 < 5
      · have hdec : decide ((y + 5) % 7 < 5) = true := decide_eq_true h5
        by_cases hin : y ∈ zs
        · have hdin : decide (y ∈ zs) = true := decide_eq_true hin
          have HN : Hid (wk zs y = false) := by rw [Hid, HW.out, hdec, hdin]; rfl
          clear h5 hin
          gi_wp2_with fail
          refine ⟨trivial, (callsIn_wide.2 (weekend_any _ _ hyd)).mono ?_⟩
          rintro e w1 ⟨rfl, hw1⟩
          subst hw1
          rw [hdec]
          gi_wp2_with fail
          refine ⟨trivial, (callsIn_wide.2 (has_any _ _ _ zs _ HZ.out HL.out HA.out)).mono ?_⟩
          rintro e w1 ⟨rfl, hw1⟩
          subst hw1
          rw [hdin]
          gi_wp2
          go_roundw
          case rel => exact ⟨g, pre, by omega, val_int (by have := HG.out; omega), by rw [← HX.out, wd_no (by rw [HG.out]; exact HN.out)], hJs, hk⟩
          case measure => simp [intOf]; have := HG.out; omega
        · have hdin : decide (y ∈ zs) = false := decide_eq_false hin
          have HN : Hid (wk zs y = true) := by rw [Hid, HW.out, hdec, hdin]; rfl
          have HX2 : Hid (wd zs (80000 - d).toNat = (pre ++ [y]) ++ wd zs g) := by rw [Hid, ← HX.out, wd_yes (by rw [HG.out]; exact HN.out), HG.out]; simp
          clear h5 hin
          obtain ⟨fn, tmps, assign, body, hyy, hR⟩ := hY pre y wr hJs (by rw [HX2.out]; simp)
          gi_wp2_with fail
          refine ⟨trivial, (callsIn_wide.2 (weekend_any _ _ hyd)).mono ?_⟩
          rintro e w1 ⟨rfl, hw1⟩
          subst hw1
          rw [hdec]
          gi_wp2_with fail
          refine ⟨trivial, (callsIn_wide.2 (has_any _ _ _ zs _ HZ.out HL.out HA.out)).mono ?_⟩
          rintro e w1 ⟨rfl, hw1⟩
          subst hw1
          rw [hdin]
          gi_wp2
          refine hR.mono ?_
          rintro e W3 (⟨rfl, hJ3, hk3⟩ | ⟨rfl, hJx3⟩)
          · gi_wp2
            go_roundw
            case rel => exact ⟨g, pre ++ [y], by omega, val_int (by have := HG.out; omega), HX2.out.symm, hJ3, keep_t hk hk3⟩
            case measure => simp [intOf]; have := HG.out; omega
          · gi_wp2
            refine bodyPost_ret (results_none rfl _ _ _) rfl ?_
            exact ⟨⟨_, rfl⟩, .inr ⟨pre ++ [y], ⟨wd zs g, HX2.out.symm⟩, hJx3⟩⟩
      · have hdec : decide ((y + 5) % 7 < 5) = false := decide_eq_false h5
        have HN : Hid (wk zs y = false) := by rw [Hid, HW.out, hdec]; rfl
        clear h5
        gi_wp2_with fail
        refine ⟨trivial, (callsIn_wide.2 (weekend_any _ _ hyd)).mono ?_⟩
        rintro e w1 ⟨rfl, hw1⟩
        subst hw1
        rw [hdec]
        gi_wp2
        refine ⟨trivial, ?_⟩
        gi_wp2
        go_roundw
        case rel => exact ⟨g, pre, by omega, val_int (by have := HG.out; omega), by rw [← HX.out, wd_no (by rw [HG.out]; exact HN.out)], hJs, hk⟩
        case measure => simp [intOf]; have := HG.out; omega
    · have hf0 : f = 0 := by omega
      subst hf0
      clear hy
      gi_wp2
      go_end0
      exact ⟨⟨_, rfl⟩, .inl (by rw [← HX.out]; simpa [wd] using hJs)⟩

theorem behind_stops (n : Nat) (hn : 1 ≤ n) (Bd Bo N c : Nat) (ao : Option Addr) (zs : List Int) (d : Int) (w : World) (hd : dOk d = true) (ho : offOk zs = true) (hBd : Bd < w.heap.size) (hBo : Bo < w.heap.size) (hN : N ≤ w.heap.size)
    (cd : w.cell? ⟨Bd, 0, none⟩ = some (.int .i64 d)) (co : w.cell? ⟨Bo, 0, none⟩ = some (.slice ao zs.length c)) (hz : IntsIn N w ao zs) :
    SeqStopsK Fence.wide n Try.prog 21 #[.pointer (some ⟨Bd, 0, none⟩), .pointer (some ⟨Bo, 0, none⟩)] (fun x : Int => #[Value.int .i64 x]) (Keep N Bo)
      (fun ys => ys = wd zs (80000 - d).toNat) (fun pre => pre <+: wd zs (80000 - d).toNat) (wd zs (80000 - d).toNat).length w := fun l J Jx W hW _ _ hY h0 =>
  behind_in n hn l Bd Bo N c ao zs d hd ho J Jx hY W (Nat.le_trans hN hW.size) ((hW.cell (p := ⟨Bd, 0, none⟩) hBd).trans cd) ((hW.cell (p := ⟨Bo, 0, none⟩) hBo).trans co) (hz.keep (hW.mono hN)) h0

set_option maxHeartbeats 400000 in
theorem workBehind_any (ao : Option Addr) (m c : Nat) (d : Int) (w : World) :
    Calls Try.prog 19 #[.slice ao m c, .int .i64 d] w fun e w' =>
      e = .returned (.func (.func 21) #[] #[.pointer (some ⟨w.heap.size + 1, 0, none⟩), .pointer (some ⟨w.heap.size, 0, none⟩)]) ∧
      w' = (w.alloc (.cells #[.slice ao m c] 34)).alloc (.cells #[.int .i64 d] 3) := by
  go_enter Try.func19, Try.ntmps19
  go_wp2
  go_ret
  exact ⟨rfl, rfl⟩

end Go.Proofs.Ytlmbddifogmlbaa
