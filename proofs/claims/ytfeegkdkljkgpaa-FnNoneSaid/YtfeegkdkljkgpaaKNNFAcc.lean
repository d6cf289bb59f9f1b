/- The contract of the program's Accounts. -/
import Derived.Test.YtfeegkdkljkgpaaJNN0b
import Derived.Test.YtfeegkdkljkgpaaJNN0a
import Derived.Lib.RowBridge
import Derived.Lib.OwnBridge
namespace Go.Proofs.Ytfeegkdkljkgpaa
open Go.RowKit
set_option maxRecDepth 100000

/-- The slice of numbers at 'ao' reads as 'zs' in w. -/
def NumsAt (w : World) (ao : Option Addr) (zs : List Int) : Prop :=
  zs = [] ∨ ∃ b off, ao = some ⟨b, off, none⟩ ∧ b < w.heap.size ∧ ∀ i, i < zs.length → w.cell? ⟨b, off + i, none⟩ = some (.int .i64 (zs.getD i 0))
theorem NumsAt.below {w w' : World} {ao : Option Addr} {zs : List Int} (h : NumsAt w ao zs) (hb : Below w.heap.size w w') : NumsAt w' ao zs := by
  rcases h with h | ⟨b, off, h1, h2, h3⟩
  · exact .inl h
  · exact .inr ⟨b, off, h1, Nat.lt_of_lt_of_le h2 hb.size, fun i hi => (hb.cell (p := ⟨b, off + i, none⟩) h2).trans (h3 i hi)⟩
def ncells (zs : List Int) : List Value := zs.map (Value.int .i64)
theorem ncells_len (zs : List Int) : (ncells zs).length = zs.length := by simp [ncells]
theorem one_num (x : Int) : ∀ u ∈ [Value.int .i64 x], u.oneCell' = true := by
  intro u hu
  simp at hu
  subst hu; rfl
theorem infoN : (Try.prog.info? 3).map (fun i => (i.zero, i.size, i.bytes)) = some (some (.int .i64 0), 1, 8) := by kernel_rfl
/-- the accounts by which lines stand, in the lines' order -/
def acs (ls : List Ln) : List Int := (ls.map (·.1)).filter acctOk
theorem acs_in (ls : List Ln) (k : Nat) (h : k < ls.length) (ho : acctOk (lnAt ls k).1 = true) : acs (ls.take (k + 1)) = acs (ls.take k) ++ [(lnAt ls k).1] := by
  rw [take_lnAt ls k h]; simp [acs, ho]
theorem acs_out (ls : List Ln) (k : Nat) (h : k < ls.length) (ho : acctOk (lnAt ls k).1 = false) : acs (ls.take (k + 1)) = acs (ls.take k) := by
  rw [take_lnAt ls k h]; simp [acs, ho]
theorem acs_le (ls : List Ln) : (acs ls).length ≤ ls.length := by
  refine Nat.le_trans (List.length_filter_le _ _) ?_
  simp
theorem acs_is (ls : List Ln) : Lib.compact (sortI (acs ls)) = acctsL ls := by
  refine accts_sorted fun a => ?_
  simp only [acs, List.mem_filter, List.mem_map, acctOk, decide_eq_true_eq]
  constructor
  · rintro ⟨⟨x, hx, rfl⟩, h⟩; exact ⟨h, x, hx, rfl⟩
  · rintro ⟨h, x, hx, rfl⟩; exact ⟨⟨x, hx, rfl⟩, h⟩
theorem nums_own {w : World} {base n cap : Nat} {ao : Option Addr} {t : TypeId} {zs : List Int} (h : w.ownsRow base t 1 (.slice ao n cap) n (ncells zs)) : NumsAt w ao zs := by
  have hl : zs.length = n := by have := h.1; rw [ncells_len] at this; omega
  rcases h.2 with ⟨_, h0⟩ | ⟨g, c, cur, hv, _⟩
  · exact .inl (List.eq_nil_of_length_eq_zero (by omega))
  · obtain ⟨rfl, rfl⟩ : ao = some ⟨g, 0, none⟩ ∧ cap = c := by simpa using hv
    have hlt := (h.lt g rfl).2
    refine .inr ⟨g, 0, rfl, hlt, fun i hi => ?_⟩
    rw [Nat.zero_add, h.cellAt i (by omega)]
    simp [ncells, List.getD_eq_getElem?_getD, hi]
theorem below_put {B : Nat} {w0 w : World} {g m : Nat} {d : Array Int} {os : Array Obj} (h : RowKit.Below B w0 w) (hB : B ≤ w0.heap.size) (hg : B ≤ g) : RowKit.Below B w0 (Sort.grow (Sort.putRow (Value.int .i64) (Sort.ahead w m) g 0 d) os) := by
  refine ⟨h.os, h.tape, h.output, ?_, fun k hk => ?_⟩
  · have := h.size
    simp [Sort.grow, Sort.putRow, Sort.mapBlock, Sort.ahead]; omega
  · rw [← h.block k hk]
    have hs := h.size
    have e1 : ((w.heap.modify g (Sort.onCells (Sort.putCells (Value.int .i64) 0 d))) ++ os)[k]? = w.heap[k]? := by
      rw [Array.getElem?_append_left (by simp; omega), Array.getElem?_modify, if_neg (by omega)]
    exact e1
theorem below_os (w : World) (os : Array Obj) : Below w.heap.size w (Sort.grow w os) :=
  ⟨rfl, rfl, rfl, by simp [Sort.grow], fun k hk => by simp [Sort.grow, Array.getElem?_append_left hk]⟩
/-- sorted -/
theorem sortOwn {B base g cap : Nat} {zs : List Int} {w0 w : World} (ho : w.ownsRow base 3 1 (.slice (some ⟨g, 0, none⟩) zs.length cap) zs.length (ncells zs)) (hB : B ≤ w0.heap.size) (hb0 : B ≤ base) (hb : Below B w0 w) (hl : zs.length ≤ 1099511627776) :
    Calls Try.prog 20 #[.slice (some ⟨g, 0, none⟩) zs.length cap] w fun e w' => e = .returned (.tuple #[]) ∧ w'.ownsRow base 3 1 (.slice (some ⟨g, 0, none⟩) (sortI zs).length cap) (sortI zs).length (ncells (sortI zs)) ∧ Below B w0 w' := by
  obtain ⟨g', cap', hv, hg1, hg2, _, _, _, hH⟩ := Lib.holds_of_ownsRow (enc := Value.int .i64) ho (by intro h; cases h)
  obtain ⟨rfl, rfl⟩ : g = g' ∧ cap = cap' := by simpa using hv
  refine (Try.slices_Sort_int g 0 cap zs w hH hg2 (by omega)).mono ?_
  rintro e w' ⟨rfl, n, os, rfl⟩
  refine ⟨rfl, ?_, below_put hb hB (by omega)⟩
  have h := Lib.ownsRow_putRow (q := n) (k := zs.length) ho (sortI_len zs) (Nat.le_refl _)
  rw [List.take_of_length_le (by rw [sortI_len]; exact Nat.le_refl _)] at h
  have h2 := keepL h (below_os _ os)
  rw [sortI_len]
  exact h2
/-- each once -/
theorem compOwn {B base g cap : Nat} {zs : List Int} {w0 w : World} (ho : w.ownsRow base 3 1 (.slice (some ⟨g, 0, none⟩) zs.length cap) zs.length (ncells zs)) (hB : B ≤ w0.heap.size) (hb0 : B ≤ base) (hb : Below B w0 w) (hl : zs.length ≤ 1099511627776) :
    Calls Try.prog 21 #[.slice (some ⟨g, 0, none⟩) zs.length cap] w fun e w' => e = .returned (.slice (some ⟨g, 0, none⟩) (Lib.compact zs).length cap) ∧ w'.ownsRow base 3 1 (.slice (some ⟨g, 0, none⟩) (Lib.compact zs).length cap) (Lib.compact zs).length (ncells (Lib.compact zs)) ∧ Below B w0 w' := by
  obtain ⟨g', cap', hv, hg1, hg2, hc, _, _, hH⟩ := Lib.holds_of_ownsRow (enc := Value.int .i64) ho (by intro h; cases h)
  obtain ⟨rfl, rfl⟩ : g = g' ∧ cap = cap' := by simpa using hv
  refine (Try.slices_Compact_int g 0 cap zs w hH (by omega) hc).mono ?_
  rintro e w' ⟨rfl, q, rfl⟩
  have hle := Lib.compact_length_le zs
  refine ⟨rfl, ?_, ?_⟩
  · have h := Lib.ownsRow_putRow (q := q) (k := (Lib.compact zs).length) (ys := Lib.compact zs ++ List.replicate (zs.length - (Lib.compact zs).length) 0) ho (by simp; omega) hle
    rw [List.take_left' rfl] at h
    exact h
  · have := below_put (m := q) (d := (Lib.compact zs ++ List.replicate (zs.length - (Lib.compact zs).length) 0).toArray) (os := #[]) hb hB (Nat.le_trans hb0 hg1)
    rwa [Sort.grow_empty] at this

/-- what Accounts answers: a row of its own -/
def AcR (w : World) (zs : List Int) (e : Ending) (w' : World) : Prop :=
  ∃ bo k, e = .returned (.slice bo zs.length k) ∧ w'.ownsRow w.heap.size 3 1 (.slice bo zs.length k) zs.length (ncells zs) ∧ Below w.heap.size w w'

set_option maxHeartbeats 1600000 in
theorem iAccounts_own (ao : Option Addr) (cap : Nat) (ls : List Ln) (w : World) (hz : LinesAt w ao ls) (hn : ls.length ≤ 1048576) :
    Calls Try.prog 9 #[.agg #[.slice ao ls.length cap]] w (AcR w (acctsL ls)) := by
  obtain ⟨i0, hi, hz0, hz1, hz2⟩ := info_parts infoN
  obtain ⟨W, hW⟩ : ∃ W, W = w.alloc (.cells #[.slice ao ls.length cap] 29) := ⟨_, rfl⟩
  have bW : Below w.heap.size w W := by rw [hW]; go_grown
  have hWs : W.heap.size = w.heap.size + 1 := by rw [hW]; simp
  have k0 : W.cell? ⟨w.heap.size, 0, none⟩ = some (.slice ao ls.length cap) := by rw [hW]; simp
  have HZ : Hid (LinesAt W ao ls) := hz.below bW
  have HBW : Hid (Below w.heap.size w W) := bW
  have HWS : Hid (W.heap.size = w.heap.size + 1) := hWs
  clear hz bW hWs
  go_enter Try.func9, Try.ntmps9
  go_wp2
  rw [← hW]
  clear hW k0
  go_loopw [3, 9] (fun s i wr => ∃ (v : Value) (k : Nat), v = s ∧ k ≤ ls.length ∧ i = .int .i64 k ∧ wr.ownsRow W.heap.size 3 1 v (acs (ls.take k)).length (ncells (acs (ls.take k))) ∧ Below W.heap.size W wr) (fun _ i _ => ls.length - (intOf i).toNat)
  case atStart => exact ⟨_, 0, rfl, Nat.zero_le _, rfl, World.ownsRow_nil _ _ _ _, Below.refl _ _⟩
  case round =>
    obtain ⟨v, k, hvs, hk, rfl, hown, hbr⟩ := hrel
    subst hvs
    have hbs := hbr.size
    by_cases hlt : k < ls.length
    · have hki : (k : Int) < (ls.length : Int) := by omega
      obtain ⟨b, off, rfl, hb2, c1, c2, c3⟩ := (HZ.out.below hbr).at hlt
      have hm := acs_le (ls.take k)
      rw [List.length_take, Nat.min_eq_left hk] at hm
      have HIN : Hid _ := acs_in ls k hlt
      have HOUT : Hid _ := acs_out ls k hlt
      obtain ⟨m, hme⟩ : ∃ m, (acs (ls.take k)).length = m := ⟨_, rfl⟩
      rw [hme] at hown hm
      obtain ⟨⟨x, y, z⟩, hx⟩ : ∃ x, lnAt ls k = x := ⟨_, rfl⟩
      rw [hx] at c1 c2 c3 HIN HOUT
      simp only at c1 c2 c3 HIN HOUT
      obtain ⟨V, hV⟩ : ∃ V, V = wr.alloc (.cells #[.int .i64 x, .int .i64 y, .int .i64 z] 49) := ⟨_, rfl⟩
      have bV : Below wr.heap.size wr V := by rw [hV]; go_grown
      have HQV : Hid (Below W.heap.size W V) := next hbr bV
      have g0 : V.cell? ⟨wr.heap.size, 0, none⟩ = some (.int .i64 x) := by rw [hV]; simp
      have HO : Hid (V.ownsRow W.heap.size 3 1 v m (ncells (acs (ls.take k)))) := keepL hown bV
      have HLT : Hid (∀ j, v.ownBlock = some j → W.heap.size ≤ j) := fun j hj => (hown.lt j hj).1
      have hsV : W.heap.size ≤ V.heap.size := HQV.out.size
      have HME : Hid _ := hme
      clear hx hown bV hbr hme
      cases ho : acctOk x
      · have HA : Hid (acs (ls.take (k + 1)) = acs (ls.take k)) := HOUT.out ho
        have HC : Hid (∀ u, Calls Try.prog 19 #[.int .i64 x] u fun e w' => e = .returned (.bool false) ∧ w' = u) := fun u => iAcct_is ho u
        clear ho
        go_upto_region 5 with fail
        rw [← hV]
        clear hV
        go_wp2_with fail
        refine (HC.out V).mono ?_
        rintro e w3 ⟨rfl, hw3⟩
        rw [hw3]
        clear hw3
        go_wp2
        go_roundw
        case rel => exact ⟨_, k + 1, rfl, by omega, by go_num, by rw [HA.out, HME.out]; exact HO.out, HQV.out⟩
        case measure => simp [intOf]; omega
      · have HA : Hid (acs (ls.take (k + 1)) = acs (ls.take k) ++ [x]) := HIN.out ho
        have HC : Hid (∀ u, Calls Try.prog 19 #[.int .i64 x] u fun e w' => e = .returned (.bool true) ∧ w' = u) := fun u => iAcct_is ho u
        clear ho
        go_upto_region 5 with fail
        rw [← hV]
        clear hV
        go_wp2_with fail
        refine (HC.out V).mono ?_
        rintro e w3 ⟨rfl, hw3⟩
        rw [hw3]
        clear hw3
        go_wp2_with (at_builtin; refine wpList_append_own _ rfl (.tmp 16) (.tmp 19) 24 rfl W.heap.size 3 i0 (.int .i64 0) 1 8 Try.underlying24 hi hz0 hz1 hz2 rfl (by decide) _ _ _ rfl (HO.out.alloc _) ⟨V.heap.size, 0, none⟩ 1 1 [.int .i64 x] rfl rfl (World.news_of_block (heap_alloc_new V _)) (one_num x) (by unfold maxLen; omega) (by omega) (by simp; omega) ?_; intro v5 w5 o5 g5 _)
        have q5 : Below W.heap.size W w5 := (HQV.out.alloc hsV _).grown g5 (by simp; omega) HLT.out
        have HR5 : Hid (w5.ownsRow W.heap.size 3 1 v5 (acs (ls.take (k + 1))).length (ncells (acs (ls.take (k + 1))))) := by
          rw [Hid, HA.out, List.length_append, HME.out, ncells, List.map_append]; exact o5
        clear o5 g5 HO HQV hsV g0 c1 c2 c3
        go_wp2
        go_roundw
        case rel => exact ⟨_, k + 1, rfl, by omega, by go_num, HR5.out, q5⟩
        case measure => simp [intOf]; omega
    · have hke : k = ls.length := by omega
      subst hke
      have hki : ¬ (ls.length : Int) < (ls.length : Int) := by omega
      rw [List.take_length] at hown
      have hac := acs_is ls
      have hle := acs_le ls
      have q2 := next HBW.out hbr
      rcases hown.2 with ⟨hv, h0⟩ | ⟨g, c, cur, hv, hg, _, hnc, _⟩
      · have hls : acs ls = [] := List.eq_nil_of_length_eq_zero h0
        have HS : Hid (Calls Try.prog 20 #[v] wr fun e w' => e = .returned (.tuple #[]) ∧ w' = wr) := by rw [Hid, hv]; exact Try.slices_Sort_int_none none 0 wr
        have HC : Hid (Calls Try.prog 21 #[v] wr fun e w' => e = .returned (.slice none 0 0) ∧ w' = wr) := by rw [Hid, hv]; exact Try.slices_Compact_int_empty none 0 wr
        have HA : Hid (acctsL ls = []) := by
          refine List.eq_nil_iff_forall_not_mem.2 fun a ha => ?_
          obtain ⟨h1, x, hx, h2⟩ := mem_accts.1 ha
          have : a ∈ acs ls := by
            simp only [acs, List.mem_filter, List.mem_map, acctOk, decide_eq_true_eq]
            exact ⟨⟨x, hx, h2⟩, h1⟩
          rw [hls] at this; cases this
        clear hown hv h0 hls hac hle hbr
        go_wp2_with fail
        refine HS.out.mono ?_
        rintro e w3 ⟨rfl, hw3⟩
        rw [hw3]
        clear hw3
        go_wp2_with fail
        refine HC.out.mono ?_
        rintro e w3 ⟨rfl, hw3⟩
        rw [hw3]
        clear hw3
        go_wp2
        go_ret
        exact ⟨none, 0, by rw [HA.out]; rfl, by rw [HA.out]; exact World.ownsRow_nil _ _ _ _, q2⟩
      · have hwg : w.heap.size ≤ W.heap.size := by have := HWS.out; omega
        have HS : Hid (Calls Try.prog 20 #[v] wr fun e w' => e = .returned (.tuple #[]) ∧ w'.ownsRow W.heap.size 3 1 (.slice (some ⟨g, 0, none⟩) (sortI (acs ls)).length c) (sortI (acs ls)).length (ncells (sortI (acs ls))) ∧ Below w.heap.size w w') := by
          rw [hv] at hown
          rw [Hid, hv]
          exact sortOwn hown (Nat.le_refl _) hwg q2 (by omega)
        have HC : Hid (∀ u, u.ownsRow W.heap.size 3 1 (.slice (some ⟨g, 0, none⟩) (sortI (acs ls)).length c) (sortI (acs ls)).length (ncells (sortI (acs ls))) → Below w.heap.size w u → Calls Try.prog 21 #[v] u fun e w' => e = .returned (.slice (some ⟨g, 0, none⟩) (acctsL ls).length c) ∧ w'.ownsRow W.heap.size 3 1 (.slice (some ⟨g, 0, none⟩) (acctsL ls).length c) (acctsL ls).length (ncells (acctsL ls)) ∧ Below w.heap.size w w') := fun u h1 h3 => by
          have h := compOwn h1 (Nat.le_refl _) hwg h3 (by rw [sortI_len]; omega)
          rw [hac, sortI_len] at h
          rw [hv]; exact h
        clear hown hv hg hnc hac hle hbr q2
        have HWG : Hid _ := hwg
        clear hwg
        go_wp2_with fail
        refine HS.out.mono ?_
        rintro e w3 ⟨rfl, hh, q3⟩
        have HC3 := HC.out w3 hh q3
        clear hh q3 HC HS
        go_wp2_with fail
        refine HC3.mono ?_
        rintro e w4 ⟨rfl, hn4, q4⟩
        have HN4 : Hid (w4.ownsRow W.heap.size 3 1 (.slice (some ⟨g, 0, none⟩) (acctsL ls).length c) (acctsL ls).length (ncells (acctsL ls))) := hn4
        clear HC3 hn4
        go_wp2
        go_ret
        exact ⟨_, c, rfl, lowerL HN4.out HWG.out, q4⟩

theorem iAccounts_any (ao : Option Addr) (cap : Nat) (ls : List Ln) (w : World) (hz : LinesAt w ao ls) (hn : ls.length ≤ 1048576) (_ : ∀ x ∈ ls, 1 ≤ x.1 ∧ x.1 ≤ 9999) :
    Calls Try.prog 9 #[.agg #[.slice ao ls.length cap]] w fun e w' => ∃ bo k, e = .returned (.slice bo (acctsL ls).length k) ∧ NumsAt w' bo (acctsL ls) ∧ Below w.heap.size w w' :=
  (iAccounts_own ao cap ls w hz hn).mono fun _ _ ⟨bo, k, h1, h2, h3⟩ => ⟨bo, k, h1, nums_own h2, h3⟩

end Go.Proofs.Ytfeegkdkljkgpaa
