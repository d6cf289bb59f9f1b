/- Joined: SAcc. -/
import Derived.Test.YtfeegkdkljkgpaaKNNFAcc
/- The contract of the specification's Accounts. -/
namespace Go.Proofs.Ytfeegkdkljkgpaa
open Go.RowKit
set_option maxRecDepth 100000

/-- the accounts up to k that have a line -/
def acTo (ls : List Ln) (k : Nat) : List Int := ((List.range k).map fun i : Nat => ((i : Int) + 1)).filter fun a => ls.any fun x => decide (x.1 = a)
theorem acTo_all (ls : List Ln) : acTo ls 9999 = acctsL ls := rfl
theorem acTo_in (ls : List Ln) (k : Nat) (h : ∃ x ∈ ls, x.1 = (k : Int) + 1) : acTo ls (k + 1) = acTo ls k ++ [(k : Int) + 1] := by
  have h1 : (ls.any fun x => decide (x.1 = (k : Int) + 1)) = true := by
    obtain ⟨x, hx, e⟩ := h
    exact List.any_eq_true.2 ⟨x, hx, by simpa using e⟩
  rw [acTo, List.range_succ, List.map_append, List.filter_append, List.map_singleton]
  simp only [acTo, List.filter_cons, List.filter_nil, h1]
  rfl
theorem acTo_out (ls : List Ln) (k : Nat) (h : ∀ x ∈ ls, x.1 ≠ (k : Int) + 1) : acTo ls (k + 1) = acTo ls k := by
  have h1 : (ls.any fun x => decide (x.1 = (k : Int) + 1)) = false := by
    rw [List.any_eq_false]
    intro x hx
    simpa using h x hx
  rw [acTo, List.range_succ, List.map_append, List.filter_append, List.map_singleton]
  simp [acTo, h1]
theorem acTo_le (ls : List Ln) (k : Nat) : (acTo ls k).length ≤ k := by
  refine Nat.le_trans (List.length_filter_le _ _) ?_
  simp
theorem none_next {ls : List Ln} {k : Nat} {a : Int} (h : k < ls.length) (hb : ∀ x ∈ ls.take k, x.1 ≠ a) (hx : (lnAt ls k).1 ≠ a) : ∀ x ∈ ls.take (k + 1), x.1 ≠ a := by
  rw [take_lnAt ls k h]
  intro x hm
  rcases List.mem_append.1 hm with hm | hm
  · exact hb x hm
  · rw [List.mem_singleton.1 hm]; exact hx

set_option maxHeartbeats 1600000 in
theorem sAccounts_own (ao : Option Addr) (cap : Nat) (ls : List Ln) (w : World) (hz : LinesAt w ao ls) (hn : ls.length ≤ 1048576) :
    Calls Try.prog 11 #[.agg #[.slice ao ls.length cap]] w (AcR w (acctsL ls)) := by
  obtain ⟨i0, hi, hz0, hz1, hz2⟩ := info_parts infoN
  obtain ⟨W, hW⟩ : ∃ W, W = (w.alloc (.cells #[.slice ao ls.length cap] 29)).alloc (.cells #[] 3) := ⟨_, rfl⟩
  have bW : Below w.heap.size w W := by rw [hW]; go_grown
  have hWs : W.heap.size = w.heap.size + 2 := by rw [hW]; simp
  have k0 : W.cell? ⟨w.heap.size, 0, none⟩ = some (.slice ao ls.length cap) := by rw [hW]; simp [go_sem]
  have HO0 : Hid (W.ownsRow (w.heap.size + 1) 3 1 (.slice (some ⟨w.heap.size + 1, 0, none⟩) 0 0) 0 (ncells [])) := by
    have h := World.ownsRow_lit (base := w.heap.size + 1) (e := 3) (size := 1) (w.alloc (.cells #[.slice ao ls.length cap] 29)) #[] 0 (by simp) (by unfold maxLen; omega) rfl
    rw [Hid, hW]; simpa [ncells] using h
  have HZ : Hid (LinesAt w ao ls) := hz
  have HBW : Hid (Below w.heap.size w W) := bW
  have HWS : Hid (W.heap.size = w.heap.size + 2) := hWs
  have HK0 : Hid (W.cell? ⟨w.heap.size, 0, none⟩ = some (.slice ao ls.length cap)) := k0
  have HQ : Hid (∀ u, Below (w.heap.size + 1) W u → Below w.heap.size w u) := fun u h => bW.trans (h.mono (by omega))
  clear hz bW hWs
  go_enter Try.func11, Try.ntmps11
  go_wp2
  rw [← hW]
  clear hW k0
  go_loopw [3, 4] (fun s i wr => ∃ (v : Value) (k : Nat), v = s ∧ k ≤ 9999 ∧ i = .int .i64 ((k : Int) + 1) ∧ wr.ownsRow (w.heap.size + 1) 3 1 v (acTo ls k).length (ncells (acTo ls k)) ∧ Below (w.heap.size + 1) W wr) (fun _ i _ => 10000 - (intOf i).toNat)
  case atStart => exact ⟨_, 0, rfl, Nat.zero_le _, rfl, HO0.out, Below.refl _ _⟩
  case round =>
    obtain ⟨v, k, hvs, hk, rfl, hown, hbr⟩ := hrel
    subst hvs
    have HBR : Hid (Below (w.heap.size + 1) W wr) := hbr
    by_cases hlt : k < 9999
    · have hki : (k : Int) + 1 ≤ 9999 := by omega
      have hm := acTo_le ls k
      obtain ⟨m, hme⟩ : ∃ m, (acTo ls k).length = m := ⟨_, rfl⟩
      rw [hme] at hown hm
      have HME : Hid _ := hme
      have HIN : Hid _ := acTo_in ls k
      have HOUT : Hid _ := acTo_out ls k
      have HO : Hid (wr.ownsRow (w.heap.size + 1) 3 1 v m (ncells (acTo ls k))) := hown
      obtain ⟨X, hX⟩ : ∃ X, X = wr := ⟨_, rfl⟩
      subst hX
      clear hown hbr hme HO0
      go_wp2
      go_loopw [3, 5] (fun s i wr => ∃ j : Nat, v = s ∧ j ≤ ls.length ∧ i = .int .i64 j ∧ (∀ x ∈ ls.take j, x.1 ≠ (k : Int) + 1) ∧ wr.ownsRow (w.heap.size + 1) 3 1 v m (ncells (acTo ls k)) ∧ Below (w.heap.size + 1) W wr) (fun _ i _ => ls.length - (intOf i).toNat)
      case atStart => exact ⟨0, rfl, Nat.zero_le _, rfl, fun x hx => by simp at hx, HO.out, HBR.out⟩
      case round =>
        obtain ⟨j, hsv, hj, rfl, hno, hown, hbr⟩ := hrel
        subst hsv
        have HNO : Hid (∀ x ∈ ls.take j, x.1 ≠ (k : Int) + 1) := hno
        have HO2 : Hid (wr.ownsRow (w.heap.size + 1) 3 1 v m (ncells (acTo ls k))) := hown
        have HB2 : Hid (Below (w.heap.size + 1) W wr) := hbr
        have k0 : wr.cell? ⟨w.heap.size, 0, none⟩ = some (.slice ao ls.length cap) := (hbr.cell (p := ⟨w.heap.size, 0, none⟩) (by show w.heap.size < w.heap.size + 1; omega)).trans HK0.out
        have HSZ : Hid (W.heap.size ≤ wr.heap.size) := hbr.size
        clear hno
        by_cases hjl : j < ls.length
        · have hji : (j : Int) < (ls.length : Int) := by omega
          obtain ⟨b, off, rfl, hb2, c1, c2, c3⟩ := (HZ.out.below (HQ.out _ hbr)).at hjl
          have HNX : Hid _ := none_next hjl HNO.out
          have HMM : Hid _ := lnAt_mem hjl
          obtain ⟨⟨x, y, z⟩, hx⟩ : ∃ x, lnAt ls j = x := ⟨_, rfl⟩
          rw [hx] at c1 c2 c3 HNX HMM
          simp only at c1 c2 c3 HNX
          clear hx
          by_cases he : x = (k : Int) + 1
          · subst he
            have HA : Hid (acTo ls (k + 1) = acTo ls k ++ [(k : Int) + 1]) := HIN.out ⟨_, HMM.out, rfl⟩
            have HLT : Hid (∀ j, v.ownBlock = some j → w.heap.size + 1 ≤ j) := fun j hj => (hown.lt j hj).1
            clear hown hbr HNX
            go_wp2_with (at_builtin; refine wpList_append_own _ rfl (.tmp 26) (.tmp 28) 24 rfl (w.heap.size + 1) 3 i0 (.int .i64 0) 1 8 Try.underlying24 hi hz0 hz1 hz2 rfl (by decide) _ _ _ rfl (HO2.out.alloc _) ⟨wr.heap.size, 0, none⟩ 1 1 [.int .i64 ((k : Int) + 1)] rfl rfl (World.news_of_block (heap_alloc_new wr _)) (one_num _) (by unfold maxLen; omega) (by omega) (by simp; have := HSZ.out; have := HWS.out; omega) ?_; intro v5 w5 o5 g5 _)
            have hws := HWS.out
            have hsz := HSZ.out
            have q5 : Below (w.heap.size + 1) W w5 := (HB2.out.alloc (by omega) _).grown g5 (by simp; omega) HLT.out
            have HR5 : Hid (w5.ownsRow (w.heap.size + 1) 3 1 v5 (acTo ls (k + 1)).length (ncells (acTo ls (k + 1)))) := by
              rw [Hid, HA.out, List.length_append, HME.out, ncells, List.map_append]; exact o5
            clear o5 g5 HO HO2 c1 c2 c3 k0 hws hsz
            go_wp2
            go_roundw
            case rel => exact ⟨_, k + 1, rfl, by omega, by go_num, HR5.out, q5⟩
            case measure => simp [intOf]; omega
          · have heb : (x == (k : Int) + 1) = false := by simpa using he
            have HN2 : Hid (∀ x ∈ ls.take (j + 1), x.1 ≠ (k : Int) + 1) := HNX.out he
            clear hown hbr HNX
            go_wp2
            go_roundw
            case rel => exact ⟨j + 1, rfl, by omega, by go_num, HN2.out, HO2.out, HB2.out⟩
            case measure => simp [intOf]; omega
        · have hje : j = ls.length := by omega
          subst hje
          have hji : ¬ (ls.length : Int) < (ls.length : Int) := by omega
          have HA : Hid (acTo ls (k + 1) = acTo ls k) := HOUT.out (by have := HNO.out; rwa [List.take_length] at this)
          clear hown hbr
          go_wp2
          go_roundw
          case rel => exact ⟨_, k + 1, rfl, by omega, by go_num, by rw [HA.out, HME.out]; exact HO2.out, HB2.out⟩
          case measure => simp [intOf]; omega
    · have hke : k = 9999 := by omega
      subst hke
      rw [acTo_all] at hown
      have HO : Hid (wr.ownsRow (w.heap.size + 1) 3 1 v (acctsL ls).length (ncells (acctsL ls))) := hown
      obtain ⟨bo, c, hv⟩ : ∃ bo c, v = .slice bo (acctsL ls).length c := by
        rcases hown.2 with ⟨h1, h2⟩ | ⟨g, c, cur, h1, _⟩
        · exact ⟨none, 0, by rw [h1, h2]⟩
        · exact ⟨_, c, h1⟩
      subst hv
      clear hown hbr
      go_wp2
      go_ret
      exact ⟨bo, c, rfl, lowerL HO.out (by omega), HQ.out _ HBR.out⟩

end Go.Proofs.Ytfeegkdkljkgpaa
