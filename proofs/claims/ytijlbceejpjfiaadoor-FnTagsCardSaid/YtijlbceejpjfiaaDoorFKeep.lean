/- The contracts of the program's keep, with each of the tests that it is given. -/
import Derived.Test.YtijlbceejpjfiaaDoorTagEq
import Derived.Test.YtijlbceejpjfiaaDoorTSetP
import Derived.Test.YtijlbceejpjfiaaDoorFTCopy
import Derived.Test.YtijlbceejpjfiaaDoorBox
import Derived.Deep.AppendLies
namespace Go.Proofs.YtijlbceejpjfiaaDoor
open Go.RowKit

theorem one2 (n : Int) (s : List UInt8) : ∀ u ∈ [Value.int .i64 n, .string ⟨s.toArray⟩], u.oneCell' = true := by
  intro u hu
  simp at hu
  rcases hu with rfl | rfl <;> rfl
theorem take_filter (fs : List Fld) (p : Fld → Bool) (k : Nat) (h : k < fs.length) : (fs.take (k + 1)).filter p = if p (at0 fs k) = true then (fs.take k).filter p ++ [at0 fs k] else (fs.take k).filter p := by
  have e : at0 fs k = fs[k] := by simp [at0, List.getD_eq_getElem?_getD, h]
  rw [List.take_succ_eq_append_getElem h, List.filter_append, e]
  by_cases hp : p fs[k] = true
  · simp [hp]
  · simp [hp]
theorem filter_le (fs : List Fld) (p : Fld → Bool) (k : Nat) : ((fs.take k).filter p).length ≤ fs.length :=
  Nat.le_trans (List.length_filter_le _ _) (by simp; omega)
set_option maxRecDepth 100000 in
set_option maxHeartbeats 400000 in
theorem lt_any (n : Int) (s : List UInt8) (num : Int) (g : Nat) (w : World) (hc : w.cell? ⟨g, 0, none⟩ = some (.int .i64 num)) :
    Calls Tryd.prog 39 #[.agg #[.int .i64 n, .string ⟨s.toArray⟩], .pointer (some ⟨g, 0, none⟩)] w fun e w' => e = .returned (.bool (ltP num (n, s))) ∧ Below w.heap.size w w' := by
  have hg : g < w.heap.size := World.block_lt_of_cell? w _ hc
  have hc2 : (w.alloc (.cells #[.int .i64 n, .string ⟨s.toArray⟩] 48)).cell? ⟨g, 0, none⟩ = some (.int .i64 num) := by rw [World.cell?_alloc_lt _ _ _ hg]; exact hc
  go_enter Tryd.func39, Tryd.ntmps39
  go_wp2
  go_ret
  exact ⟨rfl, by go_grown⟩

set_option maxRecDepth 100000 in
set_option maxHeartbeats 1600000 in
theorem keep_ltP (ao : Option Addr) (cap : Nat) (fs : List Fld) (num : Int) (g : Nat) (w : World) (hz : FldsAt w ao fs) (hn : fs.length ≤ 4194304) (hc : w.cell? ⟨g, 0, none⟩ = some (.int .i64 num)) :
    Calls Tryd.prog 38 #[.slice ao fs.length cap, .func (.func 39) #[] #[.pointer (some ⟨g, 0, none⟩)]] w fun e w' => ∃ a c, e = .returned (.slice a (fs.filter (ltP num)).length c) ∧
      w'.ownsRow w.heap.size 48 2 (.slice a (fs.filter (ltP num)).length c) (fs.filter (ltP num)).length (fcells (fs.filter (ltP num))) ∧ Below w.heap.size w w' := by
  obtain ⟨i0, hi, hz0, hz1, hz2⟩ := info_parts infoF
  have hg : g < w.heap.size := World.block_lt_of_cell? w _ hc
  rcases hz with rfl | ⟨b, off, rfl, hb, hcell⟩
  · go_enter Tryd.func38, Tryd.ntmps38
    go_wp2
    refine wp_loop_rounds 1 ?_
    rw [rounds_succ]
    go_wp2
    go_ret
    exact ⟨_, _, rfl, World.ownsRow_nil _ _ _ _, Below.refl _ _⟩
  have HC : Hid (∀ i, i < fs.length → w.cell? ⟨b, off + i * 2, none⟩ = some (.int .i64 (at0 fs i).1) ∧ w.cell? ⟨b, off + i * 2 + 1, none⟩ = some (.string ⟨(at0 fs i).2.toArray⟩)) := hcell
  have HG : Hid _ := hc
  clear hcell hc
  go_enter Tryd.func38, Tryd.ntmps38
  go_wp2
  go_loopw [5, 10] (fun v i wr => ∃ k : Nat, k ≤ fs.length ∧ i = .int .i64 k ∧ wr.ownsRow w.heap.size 48 2 v ((fs.take k).filter (ltP num)).length (fcells ((fs.take k).filter (ltP num))) ∧ Below w.heap.size w wr) (fun _ i _ => fs.length - (intOf i).toNat)
  case atStart => exact ⟨0, Nat.zero_le _, rfl, World.ownsRow_nil _ _ _ _, Below.refl _ _⟩
  case round =>
    obtain ⟨k, hk, rfl, ho, hbr⟩ := hrel
    obtain ⟨va, vc, hv, -, -⟩ := flds_of_own' ho
    subst hv
    by_cases hlt : k < fs.length
    · have c1 : wr.cell? ⟨b, off + k * 2, none⟩ = some (.int .i64 (at0 fs k).1) := (hbr.cell (p := ⟨b, off + k * 2, none⟩) hb).trans (HC.out k hlt).1
      have c2 : wr.cell? ⟨b, off + k * 2 + 1, none⟩ = some (.string ⟨(at0 fs k).2.toArray⟩) := (hbr.cell (p := ⟨b, off + k * 2 + 1, none⟩) hb).trans (HC.out k hlt).2
      have hki : (k : Int) < (fs.length : Int) := by omega
      have hst := take_filter fs (ltP num) k hlt
      have hfl := filter_le fs (ltP num) k
      have hgr := (hbr.cell (p := ⟨g, 0, none⟩) hg).trans HG.out
      obtain ⟨⟨n, s⟩, hf⟩ : ∃ f, at0 fs k = f := ⟨_, rfl⟩
      rw [hf] at c1 c2 hst
      simp only at c1 c2
      have HO : Hid (wr.ownsRow w.heap.size 48 2 (.slice va ((fs.take k).filter (ltP num)).length vc) ((fs.take k).filter (ltP num)).length (fcells ((fs.take k).filter (ltP num)))) := ho
      have hg2 : (wr.alloc (.cells #[.int .i64 n, .string ⟨s.toArray⟩] 48)).cell? ⟨g, 0, none⟩ = some (.int .i64 num) := by rw [World.cell?_alloc_lt _ _ _ (Nat.lt_of_lt_of_le hg hbr.size)]; exact hgr
      clear hf ho
      cases hp : ltP num (n, s)
      · rw [hp, if_neg (by decide)] at hst
        have HP : Hid _ := hp
        have HST : Hid _ := hst
        clear hp hst
        go_wp2_with fail
        refine (lt_any n s num g _ hg2).mono ?_
        rintro e w2 ⟨rfl, b2⟩
        rw [HP.out]
        have bb : Below w.heap.size w w2 := (hbr.alloc hbr.size _).trans (b2.mono (by have := hbr.size; simp; omega))
        have HR : Hid (w2.ownsRow w.heap.size 48 2 (.slice va ((fs.take k).filter (ltP num)).length vc) ((fs.take (k + 1)).filter (ltP num)).length (fcells ((fs.take (k + 1)).filter (ltP num)))) := by
          rw [Hid, HST.out]; exact keepRow (HO.out.alloc _) b2
        clear b2 HO
        go_wp2
        go_roundw
        case rel => exact ⟨k + 1, by omega, by go_num, HR.out, bb⟩
        case measure => simp [intOf]; omega
      · rw [hp, if_pos rfl] at hst
        have HP : Hid _ := hp
        have HST : Hid _ := hst
        clear hp hst
        go_wp2_with fail
        refine (lt_any n s num g _ hg2).mono ?_
        rintro e w2 ⟨rfl, b2⟩
        rw [HP.out]
        obtain ⟨e0, e1, q2, hs2⟩ := box2 b2
        have bb : Below w.heap.size w w2 := hbr.trans (q2.mono hbr.size)
        have HO2 : Hid (w2.ownsRow w.heap.size 48 2 (.slice va ((fs.take k).filter (ltP num)).length vc) ((fs.take k).filter (ltP num)).length (fcells ((fs.take k).filter (ltP num)))) := keepRow HO.out q2
        have hbs := bb.size
        clear b2 q2 HO
        go_wp2_with (at_builtin; refine wpList_append_own _ rfl (.tmp 17) (.tmp 19) 24 rfl w.heap.size 48 i0 _ 2 24 Tryd.underlying24 hi hz0 hz1 hz2 rfl (by decide) _ _ _ rfl (HO2.out.alloc _) ⟨w2.heap.size, 0, none⟩ 1 1 [.int .i64 n, .string ⟨s.toArray⟩] rfl rfl (World.news_of_block (heap_alloc_new w2 _)) (one2 n s) (by unfold maxLen; omega) (by omega) (by simp; omega) ?_; intro v5 w5 o5 g5 _)
        have HR : Hid (w5.ownsRow w.heap.size 48 2 v5 ((fs.take (k + 1)).filter (ltP num)).length (fcells ((fs.take (k + 1)).filter (ltP num)))) := by
          rw [Hid, HST.out, List.length_append, fcells_append]; exact o5
        have hb5 : Below w.heap.size w w5 := (bb.alloc hbs _).grown g5 (by simp; omega) (fun j hj => (HO2.out.lt j hj).1)
        clear o5 g5 HO2
        go_wp2
        go_roundw
        case rel => exact ⟨k + 1, by omega, by go_num, HR.out, hb5⟩
        case measure => simp [intOf]; omega
    · have hke : k = fs.length := by omega
      subst hke
      simp only [List.take_length] at ho ⊢
      have HO : Hid _ := ho
      clear ho
      go_wp2
      go_ret
      exact ⟨_, _, rfl, HO.out, hbr⟩

set_option maxRecDepth 100000 in
set_option maxHeartbeats 400000 in
theorem gt_any (n : Int) (s : List UInt8) (num : Int) (g : Nat) (w : World) (hc : w.cell? ⟨g, 0, none⟩ = some (.int .i64 num)) :
    Calls Tryd.prog 40 #[.agg #[.int .i64 n, .string ⟨s.toArray⟩], .pointer (some ⟨g, 0, none⟩)] w fun e w' => e = .returned (.bool (gtP num (n, s))) ∧ Below w.heap.size w w' := by
  have hg : g < w.heap.size := World.block_lt_of_cell? w _ hc
  have hc2 : (w.alloc (.cells #[.int .i64 n, .string ⟨s.toArray⟩] 48)).cell? ⟨g, 0, none⟩ = some (.int .i64 num) := by rw [World.cell?_alloc_lt _ _ _ hg]; exact hc
  go_enter Tryd.func40, Tryd.ntmps40
  go_wp2
  go_ret
  exact ⟨rfl, by go_grown⟩

set_option maxRecDepth 100000 in
set_option maxHeartbeats 1600000 in
theorem keep_gtP (ao : Option Addr) (cap : Nat) (fs : List Fld) (num : Int) (g : Nat) (w : World) (hz : FldsAt w ao fs) (hn : fs.length ≤ 4194304) (hc : w.cell? ⟨g, 0, none⟩ = some (.int .i64 num)) :
    Calls Tryd.prog 38 #[.slice ao fs.length cap, .func (.func 40) #[] #[.pointer (some ⟨g, 0, none⟩)]] w fun e w' => ∃ a c, e = .returned (.slice a (fs.filter (gtP num)).length c) ∧
      w'.ownsRow w.heap.size 48 2 (.slice a (fs.filter (gtP num)).length c) (fs.filter (gtP num)).length (fcells (fs.filter (gtP num))) ∧ Below w.heap.size w w' := by
  obtain ⟨i0, hi, hz0, hz1, hz2⟩ := info_parts infoF
  have hg : g < w.heap.size := World.block_lt_of_cell? w _ hc
  rcases hz with rfl | ⟨b, off, rfl, hb, hcell⟩
  · go_enter Tryd.func38, Tryd.ntmps38
    go_wp2
    refine wp_loop_rounds 1 ?_
    rw [rounds_succ]
    go_wp2
    go_ret
    exact ⟨_, _, rfl, World.ownsRow_nil _ _ _ _, Below.refl _ _⟩
  have HC : Hid (∀ i, i < fs.length → w.cell? ⟨b, off + i * 2, none⟩ = some (.int .i64 (at0 fs i).1) ∧ w.cell? ⟨b, off + i * 2 + 1, none⟩ = some (.string ⟨(at0 fs i).2.toArray⟩)) := hcell
  have HG : Hid _ := hc
  clear hcell hc
  go_enter Tryd.func38, Tryd.ntmps38
  go_wp2
  go_loopw [5, 10] (fun v i wr => ∃ k : Nat, k ≤ fs.length ∧ i = .int .i64 k ∧ wr.ownsRow w.heap.size 48 2 v ((fs.take k).filter (gtP num)).length (fcells ((fs.take k).filter (gtP num))) ∧ Below w.heap.size w wr) (fun _ i _ => fs.length - (intOf i).toNat)
  case atStart => exact ⟨0, Nat.zero_le _, rfl, World.ownsRow_nil _ _ _ _, Below.refl _ _⟩
  case round =>
    obtain ⟨k, hk, rfl, ho, hbr⟩ := hrel
    obtain ⟨va, vc, hv, -, -⟩ := flds_of_own' ho
    subst hv
    by_cases hlt : k < fs.length
    · have c1 : wr.cell? ⟨b, off + k * 2, none⟩ = some (.int .i64 (at0 fs k).1) := (hbr.cell (p := ⟨b, off + k * 2, none⟩) hb).trans (HC.out k hlt).1
      have c2 : wr.cell? ⟨b, off + k * 2 + 1, none⟩ = some (.string ⟨(at0 fs k).2.toArray⟩) := (hbr.cell (p := ⟨b, off + k * 2 + 1, none⟩) hb).trans (HC.out k hlt).2
      have hki : (k : Int) < (fs.length : Int) := by omega
      have hst := take_filter fs (gtP num) k hlt
      have hfl := filter_le fs (gtP num) k
      have hgr := (hbr.cell (p := ⟨g, 0, none⟩) hg).trans HG.out
      obtain ⟨⟨n, s⟩, hf⟩ : ∃ f, at0 fs k = f := ⟨_, rfl⟩
      rw [hf] at c1 c2 hst
      simp only at c1 c2
      have HO : Hid (wr.ownsRow w.heap.size 48 2 (.slice va ((fs.take k).filter (gtP num)).length vc) ((fs.take k).filter (gtP num)).length (fcells ((fs.take k).filter (gtP num)))) := ho
      have hg2 : (wr.alloc (.cells #[.int .i64 n, .string ⟨s.toArray⟩] 48)).cell? ⟨g, 0, none⟩ = some (.int .i64 num) := by rw [World.cell?_alloc_lt _ _ _ (Nat.lt_of_lt_of_le hg hbr.size)]; exact hgr
      clear hf ho
      cases hp : gtP num (n, s)
      · rw [hp, if_neg (by decide)] at hst
        have HP : Hid _ := hp
        have HST : Hid _ := hst
        clear hp hst
        go_wp2_with fail
        refine (gt_any n s num g _ hg2).mono ?_
        rintro e w2 ⟨rfl, b2⟩
        rw [HP.out]
        have bb : Below w.heap.size w w2 := (hbr.alloc hbr.size _).trans (b2.mono (by have := hbr.size; simp; omega))
        have HR : Hid (w2.ownsRow w.heap.size 48 2 (.slice va ((fs.take k).filter (gtP num)).length vc) ((fs.take (k + 1)).filter (gtP num)).length (fcells ((fs.take (k + 1)).filter (gtP num)))) := by
          rw [Hid, HST.out]; exact keepRow (HO.out.alloc _) b2
        clear b2 HO
        go_wp2
        go_roundw
        case rel => exact ⟨k + 1, by omega, by go_num, HR.out, bb⟩
        case measure => simp [intOf]; omega
      · rw [hp, if_pos rfl] at hst
        have HP : Hid _ := hp
        have HST : Hid _ := hst
        clear hp hst
        go_wp2_with fail
        refine (gt_any n s num g _ hg2).mono ?_
        rintro e w2 ⟨rfl, b2⟩
        rw [HP.out]
        obtain ⟨e0, e1, q2, hs2⟩ := box2 b2
        have bb : Below w.heap.size w w2 := hbr.trans (q2.mono hbr.size)
        have HO2 : Hid (w2.ownsRow w.heap.size 48 2 (.slice va ((fs.take k).filter (gtP num)).length vc) ((fs.take k).filter (gtP num)).length (fcells ((fs.take k).filter (gtP num)))) := keepRow HO.out q2
        have hbs := bb.size
        clear b2 q2 HO
        go_wp2_with (at_builtin; refine wpList_append_own _ rfl (.tmp 17) (.tmp 19) 24 rfl w.heap.size 48 i0 _ 2 24 Tryd.underlying24 hi hz0 hz1 hz2 rfl (by decide) _ _ _ rfl (HO2.out.alloc _) ⟨w2.heap.size, 0, none⟩ 1 1 [.int .i64 n, .string ⟨s.toArray⟩] rfl rfl (World.news_of_block (heap_alloc_new w2 _)) (one2 n s) (by unfold maxLen; omega) (by omega) (by simp; omega) ?_; intro v5 w5 o5 g5 _)
        have HR : Hid (w5.ownsRow w.heap.size 48 2 v5 ((fs.take (k + 1)).filter (gtP num)).length (fcells ((fs.take (k + 1)).filter (gtP num)))) := by
          rw [Hid, HST.out, List.length_append, fcells_append]; exact o5
        have hb5 : Below w.heap.size w w5 := (bb.alloc hbs _).grown g5 (by simp; omega) (fun j hj => (HO2.out.lt j hj).1)
        clear o5 g5 HO2
        go_wp2
        go_roundw
        case rel => exact ⟨k + 1, by omega, by go_num, HR.out, hb5⟩
        case measure => simp [intOf]; omega
    · have hke : k = fs.length := by omega
      subst hke
      simp only [List.take_length] at ho ⊢
      have HO : Hid _ := ho
      clear ho
      go_wp2
      go_ret
      exact ⟨_, _, rfl, HO.out, hbr⟩

set_option maxRecDepth 100000 in
set_option maxHeartbeats 400000 in
theorem ne_any (n : Int) (s : List UInt8) (num : Int) (g : Nat) (w : World) (hc : w.cell? ⟨g, 0, none⟩ = some (.int .i64 num)) :
    Calls Tryd.prog 44 #[.agg #[.int .i64 n, .string ⟨s.toArray⟩], .pointer (some ⟨g, 0, none⟩)] w fun e w' => e = .returned (.bool (neP num (n, s))) ∧ Below w.heap.size w w' := by
  have hg : g < w.heap.size := World.block_lt_of_cell? w _ hc
  have hc2 : (w.alloc (.cells #[.int .i64 n, .string ⟨s.toArray⟩] 48)).cell? ⟨g, 0, none⟩ = some (.int .i64 num) := by rw [World.cell?_alloc_lt _ _ _ hg]; exact hc
  go_enter Tryd.func44, Tryd.ntmps44
  go_wp2
  go_ret
  exact ⟨rfl, by go_grown⟩

set_option maxRecDepth 100000 in
set_option maxHeartbeats 1600000 in
theorem keep_neP (ao : Option Addr) (cap : Nat) (fs : List Fld) (num : Int) (g : Nat) (w : World) (hz : FldsAt w ao fs) (hn : fs.length ≤ 4194304) (hc : w.cell? ⟨g, 0, none⟩ = some (.int .i64 num)) :
    Calls Tryd.prog 38 #[.slice ao fs.length cap, .func (.func 44) #[] #[.pointer (some ⟨g, 0, none⟩)]] w fun e w' => ∃ a c, e = .returned (.slice a (fs.filter (neP num)).length c) ∧
      w'.ownsRow w.heap.size 48 2 (.slice a (fs.filter (neP num)).length c) (fs.filter (neP num)).length (fcells (fs.filter (neP num))) ∧ Below w.heap.size w w' := by
  obtain ⟨i0, hi, hz0, hz1, hz2⟩ := info_parts infoF
  have hg : g < w.heap.size := World.block_lt_of_cell? w _ hc
  rcases hz with rfl | ⟨b, off, rfl, hb, hcell⟩
  · go_enter Tryd.func38, Tryd.ntmps38
    go_wp2
    refine wp_loop_rounds 1 ?_
    rw [rounds_succ]
    go_wp2
    go_ret
    exact ⟨_, _, rfl, World.ownsRow_nil _ _ _ _, Below.refl _ _⟩
  have HC : Hid (∀ i, i < fs.length → w.cell? ⟨b, off + i * 2, none⟩ = some (.int .i64 (at0 fs i).1) ∧ w.cell? ⟨b, off + i * 2 + 1, none⟩ = some (.string ⟨(at0 fs i).2.toArray⟩)) := hcell
  have HG : Hid _ := hc
  clear hcell hc
  go_enter Tryd.func38, Tryd.ntmps38
  go_wp2
  go_loopw [5, 10] (fun v i wr => ∃ k : Nat, k ≤ fs.length ∧ i = .int .i64 k ∧ wr.ownsRow w.heap.size 48 2 v ((fs.take k).filter (neP num)).length (fcells ((fs.take k).filter (neP num))) ∧ Below w.heap.size w wr) (fun _ i _ => fs.length - (intOf i).toNat)
  case atStart => exact ⟨0, Nat.zero_le _, rfl, World.ownsRow_nil _ _ _ _, Below.refl _ _⟩
  case round =>
    obtain ⟨k, hk, rfl, ho, hbr⟩ := hrel
    obtain ⟨va, vc, hv, -, -⟩ := flds_of_own' ho
    subst hv
    by_cases hlt : k < fs.length
    · have c1 : wr.cell? ⟨b, off + k * 2, none⟩ = some (.int .i64 (at0 fs k).1) := (hbr.cell (p := ⟨b, off + k * 2, none⟩) hb).trans (HC.out k hlt).1
      have c2 : wr.cell? ⟨b, off + k * 2 + 1, none⟩ = some (.string ⟨(at0 fs k).2.toArray⟩) := (hbr.cell (p := ⟨b, off + k * 2 + 1, none⟩) hb).trans (HC.out k hlt).2
      have hki : (k : Int) < (fs.length : Int) := by omega
      have hst := take_filter fs (neP num) k hlt
      have hfl := filter_le fs (neP num) k
      have hgr := (hbr.cell (p := ⟨g, 0, none⟩) hg).trans HG.out
      obtain ⟨⟨n, s⟩, hf⟩ : ∃ f, at0 fs k = f := ⟨_, rfl⟩
      rw [hf] at c1 c2 hst
      simp only at c1 c2
      have HO : Hid (wr.ownsRow w.heap.size 48 2 (.slice va ((fs.take k).filter (neP num)).length vc) ((fs.take k).filter (neP num)).length (fcells ((fs.take k).filter (neP num)))) := ho
      have hg2 : (wr.alloc (.cells #[.int .i64 n, .string ⟨s.toArray⟩] 48)).cell? ⟨g, 0, none⟩ = some (.int .i64 num) := by rw [World.cell?_alloc_lt _ _ _ (Nat.lt_of_lt_of_le hg hbr.size)]; exact hgr
      clear hf ho
      cases hp : neP num (n, s)
      · rw [hp, if_neg (by decide)] at hst
        have HP : Hid _ := hp
        have HST : Hid _ := hst
        clear hp hst
        go_wp2_with fail
        refine (ne_any n s num g _ hg2).mono ?_
        rintro e w2 ⟨rfl, b2⟩
        rw [HP.out]
        have bb : Below w.heap.size w w2 := (hbr.alloc hbr.size _).trans (b2.mono (by have := hbr.size; simp; omega))
        have HR : Hid (w2.ownsRow w.heap.size 48 2 (.slice va ((fs.take k).filter (neP num)).length vc) ((fs.take (k + 1)).filter (neP num)).length (fcells ((fs.take (k + 1)).filter (neP num)))) := by
          rw [Hid, HST.out]; exact keepRow (HO.out.alloc _) b2
        clear b2 HO
        go_wp2
        go_roundw
        case rel => exact ⟨k + 1, by omega, by go_num, HR.out, bb⟩
        case measure => simp [intOf]; omega
      · rw [hp, if_pos rfl] at hst
        have HP : Hid _ := hp
        have HST : Hid _ := hst
        clear hp hst
        go_wp2_with fail
        refine (ne_any n s num g _ hg2).mono ?_
        rintro e w2 ⟨rfl, b2⟩
        rw [HP.out]
        obtain ⟨e0, e1, q2, hs2⟩ := box2 b2
        have bb : Below w.heap.size w w2 := hbr.trans (q2.mono hbr.size)
        have HO2 : Hid (w2.ownsRow w.heap.size 48 2 (.slice va ((fs.take k).filter (neP num)).length vc) ((fs.take k).filter (neP num)).length (fcells ((fs.take k).filter (neP num)))) := keepRow HO.out q2
        have hbs := bb.size
        clear b2 q2 HO
        go_wp2_with (at_builtin; refine wpList_append_own _ rfl (.tmp 17) (.tmp 19) 24 rfl w.heap.size 48 i0 _ 2 24 Tryd.underlying24 hi hz0 hz1 hz2 rfl (by decide) _ _ _ rfl (HO2.out.alloc _) ⟨w2.heap.size, 0, none⟩ 1 1 [.int .i64 n, .string ⟨s.toArray⟩] rfl rfl (World.news_of_block (heap_alloc_new w2 _)) (one2 n s) (by unfold maxLen; omega) (by omega) (by simp; omega) ?_; intro v5 w5 o5 g5 _)
        have HR : Hid (w5.ownsRow w.heap.size 48 2 v5 ((fs.take (k + 1)).filter (neP num)).length (fcells ((fs.take (k + 1)).filter (neP num)))) := by
          rw [Hid, HST.out, List.length_append, fcells_append]; exact o5
        have hb5 : Below w.heap.size w w5 := (bb.alloc hbs _).grown g5 (by simp; omega) (fun j hj => (HO2.out.lt j hj).1)
        clear o5 g5 HO2
        go_wp2
        go_roundw
        case rel => exact ⟨k + 1, by omega, by go_num, HR.out, hb5⟩
        case measure => simp [intOf]; omega
    · have hke : k = fs.length := by omega
      subst hke
      simp only [List.take_length] at ho ⊢
      have HO : Hid _ := ho
      clear ho
      go_wp2
      go_ret
      exact ⟨_, _, rfl, HO.out, hbr⟩


end Go.Proofs.YtijlbceejpjfiaaDoor
