/- The contract of the program's Accounts. -/
import Derived.Test.YtcaepfomhcmfpaaGreatDoorCompP
import Derived.Test.YtcaepfomhcmfpaaGreatDoorShelf2
import Derived.Test.YtcaepfomhcmfpaaGreatDoorLnLaw
import Derived.Lib.RowBridge
namespace Go.Proofs.YtcaepfomhcmfpaaGreatDoor
open Go.RowKit
set_option maxRecDepth 100000

/-- The slice of numbers at 'ao' reads as 'zs' in w. -/
def NumsAt (w : World) (ao : Option Addr) (zs : List Int) : Prop :=
  zs = [] ∨ ∃ b off, ao = some ⟨b, off, none⟩ ∧ b < w.heap.size ∧ ∀ i, i < zs.length → w.cell? ⟨b, off + i, none⟩ = some (.int .i64 (zs.getD i 0))
theorem NumsAt.below {w w' : World} {ao : Option Addr} {zs : List Int} (h : NumsAt w ao zs) (hb : Below w.heap.size w w') : NumsAt w' ao zs := by
  rcases h with h | ⟨b, off, h1, h2, h3⟩
  · exact .inl h
  · exact .inr ⟨b, off, h1, Nat.lt_of_lt_of_le h2 hb.size, fun i hi => (hb.cell (p := ⟨b, off + i, none⟩) h2).trans (h3 i hi)⟩
def ncells (zs : List Int) : List Value := zs.map (Value.int .i64)
theorem ncells_len (zs : List Int) : (ncells zs).length = zs.length := by simp [ncells]
theorem one_num (x : Int) : ∀ u ∈ [Value.int .i64 x], u.oneCell' = true := by
  intro u hu
  simp at hu
  subst hu; rfl
theorem infoN : (Tryz.prog.info? 3).map (fun i => (i.zero, i.size, i.bytes)) = some (some (.int .i64 0), 1, 8) := by kernel_rfl
def acs (ls : List Ln) : List Int := ls.map (·.1)
theorem acs_next (ls : List Ln) (k : Nat) (h : k < ls.length) : ncells (acs (ls.take (k + 1))) = ncells (acs (ls.take k)) ++ [.int .i64 (lnAt ls k).1] := by
  rw [take_lnAt ls k h]; simp [ncells, acs]
theorem acs_is {ls : List Ln} (h : ∀ x ∈ ls, 1 ≤ x.1 ∧ x.1 ≤ 9999) : Lib.compact (sortI (acs ls)) = acctsL ls := by
  refine accts_sorted fun a => ?_
  simp only [acs, List.mem_map]
  constructor
  · rintro ⟨x, hx, rfl⟩; exact ⟨h x hx, x, hx, rfl⟩
  · rintro ⟨_, x, hx, rfl⟩; exact ⟨x, hx, rfl⟩
theorem holds_nums {w : World} {base n cap g : Nat} {t : TypeId} {zs : List Int} (h : w.ownsRow base t 1 (.slice (some ⟨g, 0, none⟩) n cap) n (ncells zs)) : Sort.Holds (Value.int .i64) w g 0 zs.toArray := by
  have hn : n = zs.length := by have := h.1; rw [ncells_len] at this; omega
  intro j hj
  simp only [List.size_toArray] at hj
  refine ⟨?_, h.frozenAt _⟩
  rw [Nat.zero_add, h.cellAt j (by omega)]
  simp [ncells, getElem!_pos, hj]
theorem below_put {B : Nat} {w0 w : World} {g m : Nat} {d : Array Int} {os : Array Obj} (h : RowKit.Below B w0 w) (hB : B ≤ w0.heap.size) (hg : B ≤ g) : RowKit.Below B w0 (Sort.grow (Sort.putRow (Value.int .i64) (Sort.ahead w m) g 0 d) os) := by
  refine ⟨h.os, h.tape, h.output, ?_, fun k hk => ?_⟩
  · have := h.size
    simp [Sort.grow, Sort.putRow, Sort.mapBlock, Sort.ahead]; omega
  · rw [← h.block k hk]
    have hs := h.size
    have e1 : ((w.heap.modify g (Sort.onCells (Sort.putCells (Value.int .i64) 0 d))) ++ os)[k]? = w.heap[k]? := by
      rw [Array.getElem?_append_left (by simp; omega), Array.getElem?_modify, if_neg (by omega)]
    exact e1
theorem grow_le (w : World) (os : Array Obj) : w.heap.size ≤ (Sort.grow w os).heap.size := by simp [Sort.grow]
/-- sorted, and each once -/
theorem sortComp {B g cap : Nat} {zs : List Int} {w0 w : World} (hH : Sort.Holds (Value.int .i64) w g 0 zs.toArray) (hg : g < w.heap.size) (hB : B ≤ w0.heap.size) (hBg : B ≤ g) (hb : Below B w0 w) (hl : zs.length ≤ 1099511627776) :
    Calls Tryz.prog 32 #[.slice (some ⟨g, 0, none⟩) zs.length cap] w fun e w' => e = .returned (.tuple #[]) ∧ Sort.Holds (Value.int .i64) w' g 0 (sortI zs).toArray ∧ g < w'.heap.size ∧ Below B w0 w' := by
  refine (Tryz.slices_Sort_int g 0 cap zs w hH hg (by omega)).mono ?_
  rintro e w' ⟨rfl, n, os, rfl⟩
  have hg1 : g < (Sort.putRow (Value.int .i64) (Sort.ahead w n) g 0 (sortI zs).toArray).heap.size := by simp [Sort.putRow, Sort.mapBlock, Sort.ahead]; omega
  refine ⟨rfl, Sort.holds_grow _ _ _ _ _ _ hg1 (Sort.holds_putRow _ _ _ _ zs.toArray _ (Sort.holds_ahead _ _ _ _ _ _ hH) (by simp)), Nat.lt_of_lt_of_le hg1 (grow_le _ _), below_put hb hB hBg⟩
theorem compAt {B g cap : Nat} {zs : List Int} {w0 w : World} (hH : Sort.Holds (Value.int .i64) w g 0 zs.toArray) (hg : g < w.heap.size) (hB : B ≤ w0.heap.size) (hBg : B ≤ g) (hb : Below B w0 w) (hl : zs.length ≤ 1099511627776) (hc : zs.length ≤ cap) :
    Calls Tryz.prog 33 #[.slice (some ⟨g, 0, none⟩) zs.length cap] w fun e w' => e = .returned (.slice (some ⟨g, 0, none⟩) (Lib.compact zs).length cap) ∧ NumsAt w' (some ⟨g, 0, none⟩) (Lib.compact zs) ∧ Below B w0 w' := by
  refine (Tryz.slices_Compact_int g 0 cap zs w hH (by omega) hc).mono ?_
  rintro e w' ⟨rfl, q, rfl⟩
  have hle := Lib.compact_length_le zs
  have hh := Sort.holds_putRow (Value.int .i64) (Sort.ahead w q) g 0 zs.toArray (Lib.compact zs ++ List.replicate (zs.length - (Lib.compact zs).length) 0).toArray (Sort.holds_ahead _ _ _ _ _ _ hH) (by simp; omega)
  refine ⟨rfl, .inr ⟨g, 0, rfl, by simp [Sort.putRow, Sort.mapBlock, Sort.ahead]; omega, fun i hi => ?_⟩, ?_⟩
  · have := (hh i (by simp; omega)).1
    have e : (Lib.compact zs ++ List.replicate (zs.length - (Lib.compact zs).length) 0).toArray[i]! = (Lib.compact zs).getD i 0 := by simp [List.getElem?_append_left hi, List.getD_eq_getElem?_getD]
    rw [this, e]
  · have := below_put (m := q) (d := (Lib.compact zs ++ List.replicate (zs.length - (Lib.compact zs).length) 0).toArray) (os := #[]) hb hB hBg
    rwa [Sort.grow_empty] at this

set_option maxHeartbeats 1600000 in
theorem iAccounts_any (ao : Option Addr) (cap : Nat) (ls : List Ln) (w : World) (hz : LinesAt w ao ls) (hn : ls.length ≤ 1048576) (hok : ∀ x ∈ ls, 1 ≤ x.1 ∧ x.1 ≤ 9999) :
    Calls Tryz.prog 12 #[.agg #[.slice ao ls.length cap]] w fun e w' => ∃ bo k, e = .returned (.slice bo (acctsL ls).length k) ∧ NumsAt w' bo (acctsL ls) ∧ Below w.heap.size w w' := by
  obtain ⟨i0, hi, hz0, hz1, hz2⟩ := info_parts infoN
  obtain ⟨W, hW⟩ : ∃ W, W = w.alloc (.cells #[.slice ao ls.length cap] 26) := ⟨_, rfl⟩
  have bW : Below w.heap.size w W := by rw [hW]; go_grown
  have hWs : W.heap.size = w.heap.size + 1 := by rw [hW]; simp
  have k0 : W.cell? ⟨w.heap.size, 0, none⟩ = some (.slice ao ls.length cap) := by rw [hW]; simp
  have HZ : Hid (LinesAt W ao ls) := hz.below bW
  have HBW : Hid (Below w.heap.size w W) := bW
  have HOK : Hid (∀ x ∈ ls, 1 ≤ x.1 ∧ x.1 ≤ 9999) := hok
  have HWS : Hid (W.heap.size = w.heap.size + 1) := hWs
  clear hz bW hok hWs
  go_enter Tryz.func12, Tryz.ntmps12
  go_wp2
  rw [← hW]
  clear hW k0
  go_loopw [3, 9] (fun s i wr => ∃ (v : Value) (k : Nat), v = s ∧ k ≤ ls.length ∧ i = .int .i64 k ∧ wr.ownsRow W.heap.size 3 1 v k (ncells (acs (ls.take k))) ∧ Below W.heap.size W wr) (fun _ i _ => ls.length - (intOf i).toNat)
  case atStart => exact ⟨_, 0, rfl, Nat.zero_le _, rfl, World.ownsRow_nil _ _ _ _, Below.refl _ _⟩
  case round =>
    obtain ⟨v, k, hvs, hk, rfl, hown, hbr⟩ := hrel
    subst hvs
    have hbs := hbr.size
    by_cases hlt : k < ls.length
    · have hki : (k : Int) < (ls.length : Int) := by omega
      obtain ⟨b, off, rfl, hb2, c1, c2, c3⟩ := (HZ.out.below hbr).at hlt
      have HNX : Hid _ := acs_next ls k hlt
      obtain ⟨⟨x, y, z⟩, hx⟩ : ∃ x, lnAt ls k = x := ⟨_, rfl⟩
      rw [hx] at c1 c2 c3 HNX
      simp only at c1 c2 c3 HNX
      obtain ⟨V, hV⟩ : ∃ V, V = wr.alloc (.cells #[.int .i64 x, .int .i64 y, .int .i64 z] 49) := ⟨_, rfl⟩
      have bV : Below wr.heap.size wr V := by rw [hV]; go_grown
      have HQV : Hid (Below W.heap.size W V) := next hbr bV
      have g0 : V.cell? ⟨wr.heap.size, 0, none⟩ = some (.int .i64 x) := by rw [hV]; simp
      have HO : Hid (V.ownsRow W.heap.size 3 1 v k (ncells (acs (ls.take k)))) := keepL hown bV
      have HLT : Hid (∀ j, v.ownBlock = some j → W.heap.size ≤ j) := fun j hj => (hown.lt j hj).1
      have hsV : W.heap.size ≤ V.heap.size := HQV.out.size
      clear hx hown bV hbr
      go_upto_region 5 with fail
      rw [← hV]
      clear hV
      go_wp2_with (at_builtin; refine wpList_append_own _ rfl (.tmp 13) (.tmp 16) 37 rfl W.heap.size 3 i0 (.int .i64 0) 1 8 Tryz.underlying37 hi hz0 hz1 hz2 rfl (by decide) _ _ _ rfl (HO.out.alloc _) ⟨V.heap.size, 0, none⟩ 1 1 [.int .i64 x] rfl rfl (World.news_of_block (heap_alloc_new V _)) (one_num x) (by unfold maxLen; omega) (by omega) (by simp; omega) ?_; intro v5 w5 o5 g5 _)
      have q5 : Below W.heap.size W w5 := (HQV.out.alloc hsV _).grown g5 (by simp; omega) HLT.out
      have HR5 : Hid (w5.ownsRow W.heap.size 3 1 v5 (k + 1) (ncells (acs (ls.take (k + 1))))) := by rw [Hid, HNX.out]; exact o5
      clear o5 g5 HO HQV hsV g0 c1 c2 c3
      go_wp2
      go_roundw
      case rel => exact ⟨_, k + 1, rfl, by omega, by go_num, HR5.out, q5⟩
      case measure => simp [intOf]; omega
    · have hke : k = ls.length := by omega
      subst hke
      have hki : ¬ (ls.length : Int) < (ls.length : Int) := by omega
      rw [List.take_length] at hown
      have hal : (acs ls).length = ls.length := by simp [acs]
      have hac := acs_is HOK.out
      have q2 := next HBW.out hbr
      rcases hown.2 with ⟨hv, h0⟩ | ⟨g, c, cur, hv, hg, _, hnc, _⟩
      · have hls : ls = [] := List.eq_nil_of_length_eq_zero h0
        have HS : Hid (Calls Tryz.prog 32 #[v] wr fun e w' => e = .returned (.tuple #[]) ∧ w' = wr) := by rw [Hid, hv]; exact Tryz.slices_Sort_int_none none 0 wr
        have HC : Hid (Calls Tryz.prog 33 #[v] wr fun e w' => e = .returned (.slice none 0 0) ∧ w' = wr) := by rw [Hid, hv]; exact Tryz.slices_Compact_int_empty none 0 wr
        have HA : Hid (acctsL ls = []) := by
          rw [Hid, hls]; exact List.eq_nil_iff_forall_not_mem.2 fun a ha => by obtain ⟨_, x, hx, _⟩ := mem_accts.1 ha; cases hx
        clear hown hv h0 hls hal hac hbr
        go_wp2_with fail
        refine HS.out.mono ?_
        rintro e w3 ⟨rfl, hw3⟩
        rw [hw3]
        clear hw3
        go_wp2_with fail
        refine HC.out.mono ?_
        rintro e w3 ⟨rfl, hw3⟩
        rw [hw3]
        clear hw3
        go_wp2
        go_ret
        exact ⟨none, 0, by rw [HA.out]; rfl, .inl HA.out, q2⟩
      · have hH : Sort.Holds (Value.int .i64) wr g 0 (acs ls).toArray := by rw [hv] at hown; exact holds_nums hown
        have hlt := (hown.lt g (by rw [hv]; rfl)).2
        have hwg : w.heap.size ≤ g := by have := HWS.out; omega
        have HS : Hid (Calls Tryz.prog 32 #[v] wr fun e w' => e = .returned (.tuple #[]) ∧ Sort.Holds (Value.int .i64) w' g 0 (sortI (acs ls)).toArray ∧ g < w'.heap.size ∧ Below w.heap.size w w') := by
          rw [Hid, hv, ← hal]
          exact sortComp hH hlt (Nat.le_refl _) hwg q2 (by omega)
        have HC : Hid (∀ u, Sort.Holds (Value.int .i64) u g 0 (sortI (acs ls)).toArray → g < u.heap.size → Below w.heap.size w u → Calls Tryz.prog 33 #[v] u fun e w' => e = .returned (.slice (some ⟨g, 0, none⟩) (acctsL ls).length c) ∧ NumsAt w' (some ⟨g, 0, none⟩) (acctsL ls) ∧ Below w.heap.size w w') := fun u h1 h2 h3 => by
          have h := compAt (cap := c) h1 h2 (Nat.le_refl _) hwg h3 (by rw [sortI_len]; omega) (by rw [sortI_len]; omega)
          rw [hac, sortI_len, hal] at h
          rw [hv]; exact h
        clear hown hv hg hnc hal hac hbr hH hlt hwg q2
        go_wp2_with fail
        refine HS.out.mono ?_
        rintro e w3 ⟨rfl, hh, hg3, q3⟩
        have HC3 := HC.out w3 hh hg3 q3
        clear hh hg3 q3 HC HS
        go_wp2_with fail
        refine HC3.mono ?_
        rintro e w4 ⟨rfl, hn4, q4⟩
        clear HC3
        go_wp2
        go_ret
        exact ⟨_, c, rfl, hn4, q4⟩

end Go.Proofs.YtcaepfomhcmfpaaGreatDoor
