/- The laws' own functions over slices of entries: how much one takes, its copy, whether two are the same, marks in one's own. -/
import Derived.Test.YtcaepfomhcmfpaaLnLaw2
namespace Go.Proofs.Ytcaepfomhcmfpaa
open Go.RowKit
set_option maxRecDepth 100000

def ecell (x : En) : List Value := [.int .i64 x.1, .int .i64 x.2.1, .int .i64 x.2.2.1, .int .i64 x.2.2.2]
def ecells (es : List En) : List Value := es.flatMap ecell
theorem ecells_cons (x : En) (r : List En) : ecells (x :: r) = .int .i64 x.1 :: .int .i64 x.2.1 :: .int .i64 x.2.2.1 :: .int .i64 x.2.2.2 :: ecells r := rfl
theorem ecells_len (es : List En) : (ecells es).length = es.length * 4 := by
  induction es with
  | nil => rfl
  | cons f r ih => rw [ecells_cons]; simp [ih]; omega
theorem ecells_at (es : List En) : ∀ k, k < es.length → (ecells es)[k * 4]? = some (.int .i64 (enAt es k).1) ∧ (ecells es)[k * 4 + 1]? = some (.int .i64 (enAt es k).2.1) ∧ (ecells es)[k * 4 + 2]? = some (.int .i64 (enAt es k).2.2.1) ∧ (ecells es)[k * 4 + 3]? = some (.int .i64 (enAt es k).2.2.2) := by
  induction es with
  | nil => intro k h; simp at h
  | cons f r ih =>
    intro k h
    rw [ecells_cons]
    cases k with
    | zero => exact ⟨rfl, rfl, rfl, rfl⟩
    | succ k =>
      have := ih k (by simpa using h)
      rw [show (k + 1) * 4 = k * 4 + 1 + 1 + 1 + 1 by omega]
      simp only [List.getElem?_cons_succ]
      exact this
theorem ecells_set (es : List En) (x : En) : ∀ k, k < es.length → ((((ecells es).set (k * 4) (.int .i64 x.1)).set (k * 4 + 1) (.int .i64 x.2.1)).set (k * 4 + 2) (.int .i64 x.2.2.1)).set (k * 4 + 3) (.int .i64 x.2.2.2) = ecells (es.set k x) := by
  induction es with
  | nil => intro k h; simp at h
  | cons g r ih =>
    intro k h
    rw [ecells_cons]
    cases k with
    | zero => rfl
    | succ k =>
      have := ih k (by simpa using h)
      rw [show (k + 1) * 4 = k * 4 + 1 + 1 + 1 + 1 by omega]
      simp only [List.set_cons_succ]
      rw [this]
      rfl
theorem ents_of_own {w : World} {base n : Nat} {t : TypeId} {v : Value} {es : List En} (h : w.ownsRow base t 4 v n (ecells es)) : ∃ ao cap, v = .slice ao es.length cap ∧ EntsAt w ao es ∧ n = es.length := by
  have hn : n = es.length := by have := h.1; rw [ecells_len] at this; omega
  subst hn
  rcases h.2 with ⟨rfl, hn⟩ | ⟨g, cap, cur, rfl, _⟩
  · have : es = [] := List.eq_nil_of_length_eq_zero hn
    subst this
    exact ⟨none, 0, rfl, .inl rfl, rfl⟩
  · refine ⟨_, cap, rfl, ?_, rfl⟩
    by_cases h0 : es = []
    · exact .inl h0
    · refine .inr ⟨g, 0, rfl, (h.lt g rfl).2, fun i hi => ?_⟩
      have := ecells_at es i hi
      rw [Nat.zero_add, h.cellAt (i * 4) (by omega), h.cellAt (i * 4 + 1) (by omega), h.cellAt (i * 4 + 2) (by omega), h.cellAt (i * 4 + 3) (by omega)]
      exact this
theorem ents_any {w : World} {base n : Nat} {t : TypeId} {ao : Option Addr} {cap : Nat} {es : List En} (h : w.ownsRow base t 4 (.slice ao es.length cap) n (ecells es)) : EntsAt w ao es := by
  obtain ⟨ao', cap', hv, hf, _⟩ := ents_of_own h
  obtain ⟨rfl, _⟩ : ao = ao' ∧ cap = cap' := by simpa using hv
  exact hf
theorem take_enAt (es : List En) (k : Nat) (h : k < es.length) : es.take (k + 1) = es.take k ++ [enAt es k] := by rw [List.take_succ_eq_append_getElem h, enAt_is h]

set_option maxHeartbeats 400000 in
theorem szEntryS_any (ao : Option Addr) (cap n : Nat) (left : Int) (w : World) (h0 : 0 ≤ left) (h1 : left ≤ 1048576) (hn : n ≤ 9223372036854775807) :
    Calls Try.prog 30 #[.slice ao n cap, .int .i64 left] w fun e w' => e = .returned (.int .i64 (leftL n left)) ∧ Below w.heap.size w w' := by
  by_cases hneg : left - (n : Int) < 0
  · have HE : Hid (leftL n left = -1) := if_pos hneg
    go_enter Try.func30, Try.ntmps30
    go_wp2
    go_ret
    exact ⟨one_int HE.out.symm, Below.refl _ _⟩
  · have HE : Hid (leftL n left = left - (n : Int)) := if_neg hneg
    go_enter Try.func30, Try.ntmps30
    go_wp2
    go_ret
    exact ⟨one_int HE.out.symm, Below.refl _ _⟩

/-- what a copy holds behind k rounds -/
def halfE (es : List En) (k : Nat) : List En := es.take k ++ List.replicate (es.length - k) (0, 0, 0, 0)
theorem halfE_all (es : List En) : halfE es es.length = es := by simp [halfE]
theorem halfE_len (es : List En) (k : Nat) (h : k ≤ es.length) : (halfE es k).length = es.length := by simp [halfE]; omega
theorem halfE_succ (es : List En) (k : Nat) (h : k < es.length) : (halfE es k).set k (enAt es k) = halfE es (k + 1) := by
  unfold halfE
  rw [List.set_append, if_neg (by simp; omega), List.length_take, Nat.min_eq_left (Nat.le_of_lt h), Nat.sub_self, show es.length - k = es.length - (k + 1) + 1 by omega, List.replicate_succ, List.set_cons_zero, take_enAt es k h, List.append_assoc]
  rfl
theorem halfE_at (es : List En) (k : Nat) (h : k < es.length) : enAt (halfE es k) k = (0, 0, 0, 0) := by
  simp [enAt, halfE, List.getD_eq_getElem?_getD, List.getElem?_append, Nat.min_eq_left (Nat.le_of_lt h), List.getElem?_replicate]
  split <;> rfl
theorem infoE : (Try.prog.info? 28).map (fun i => (i.zero, i.size, i.bytes)) = some (some (.agg #[.int .i64 0, .int .i64 0, .int .i64 0, .int .i64 0]), 4, 32) := by kernel_rfl
theorem cells_repE (m : Nat) : (madeCells (Value.agg #[.int .i64 0, .int .i64 0, .int .i64 0, .int .i64 0]).cells (m * 4)).toList = ecells (List.replicate m (0, 0, 0, 0)) := by
  apply List.ext_getElem?
  intro j
  by_cases hj : j < m * 4
  · have hq : j / 4 < (List.replicate m ((0 : Int), (0 : Int), (0 : Int), (0 : Int))).length := by simp; omega
    have ha : enAt (List.replicate m ((0 : Int), (0 : Int), (0 : Int), (0 : Int))) (j / 4) = (0, 0, 0, 0) := by
      simp [enAt, List.getD_eq_getElem?_getD, List.getElem?_replicate]; split <;> rfl
    have h := ecells_at _ _ hq
    rw [ha] at h
    have hl : (madeCells (Value.agg #[.int .i64 0, .int .i64 0, .int .i64 0, .int .i64 0]).cells (m * 4)).toList[j]? = some ((#[Value.int .i64 0, .int .i64 0, .int .i64 0, .int .i64 0] : Array Value)[j % 4]!) := by
      simp [madeCells, hj, Value.cells]
    rcases (show j % 4 = 0 ∨ j % 4 = 1 ∨ j % 4 = 2 ∨ j % 4 = 3 by omega) with e | e | e | e
    · rw [hl, e, show j = j / 4 * 4 by omega, h.1]; rfl
    · rw [hl, e, show j = j / 4 * 4 + 1 by omega, h.2.1]; rfl
    · rw [hl, e, show j = j / 4 * 4 + 2 by omega, h.2.2.1]; rfl
    · rw [hl, e, show j = j / 4 * 4 + 3 by omega, h.2.2.2]; rfl
  · rw [List.getElem?_eq_none (by rw [Array.length_toList, size_madeCells]; omega), List.getElem?_eq_none (by rw [ecells_len]; simp; omega)]

set_option maxHeartbeats 1600000 in
theorem toEntryS_any (ao : Option Addr) (cap : Nat) (es : List En) (w : World) (hz : EntsAt w ao es) (hn : es.length ≤ 1048576) :
    Calls Try.prog 32 #[.slice ao es.length cap] w fun e w' => e = .returned (.slice (some ⟨w.heap.size, 0, none⟩) es.length es.length) ∧
      w'.ownsRow w.heap.size 28 4 (.slice (some ⟨w.heap.size, 0, none⟩) es.length es.length) es.length (ecells es) ∧ Below w.heap.size w w' := by
  obtain ⟨i0, hi, hz0, hz1, hz2⟩ := info_parts infoE
  have hm0 := cells_repE es.length
  have HZ : Hid (EntsAt w ao es) := hz
  clear hz
  go_enter Try.func32, Try.ntmps32
  go_wp2_with (refine wpList_make_full _ rfl (.tmp 6) (.tmp 6) 55 rfl w.heap.size 28 i0 _ 4 Try.underlying55 hi hz0 hz1 .i64 .i64 _ _ es.length rfl rfl rfl rfl (by rw [hz2]; omega) (by unfold maxLen; omega) (Nat.le_refl _) ?_; intro w1 hown hg)
  rw [hm0, show List.replicate es.length ((0 : Int), (0 : Int), (0 : Int), (0 : Int)) = halfE es 0 from by simp [halfE]] at hown
  have hb1 : Below w.heap.size w w1 := (Below.refl _ _).grown hg (Nat.le_refl _) (fun k hk => by cases hk)
  clear hm0 hg
  go_loopw [4] (fun i wr => ∃ k : Nat, k ≤ es.length ∧ i = .int .i64 k ∧ wr.ownsRow w.heap.size 28 4 (.slice (some ⟨w.heap.size, 0, none⟩) es.length es.length) es.length (ecells (halfE es k)) ∧ Below w.heap.size w wr) (fun i _ => es.length - (intOf i).toNat)
  case atStart => exact ⟨0, Nat.zero_le _, rfl, hown, hb1⟩
  case round =>
    obtain ⟨k, hk, rfl, ho, hbr⟩ := hrel
    clear hown hb1
    by_cases hlt : k < es.length
    · obtain ⟨b, off, rfl, hb, c1, c2, c3, c4⟩ := (HZ.out.below hbr).at hlt
      have hki : (k : Int) < (es.length : Int) := by omega
      have HS : Hid _ := halfE_succ es k hlt
      have HT : Hid _ := ecells_set (halfE es k) (enAt es k) k (by rw [halfE_len es k hk]; exact hlt)
      obtain ⟨⟨x, y, z, t⟩, hf⟩ : ∃ f, enAt es k = f := ⟨_, rfl⟩
      rw [hf] at c1 c2 c3 c4 HS HT
      simp only at c1 c2 c3 c4 HT
      have HO : Hid (wr.ownsRow w.heap.size 28 4 (.slice (some ⟨w.heap.size, 0, none⟩) es.length es.length) es.length (ecells (halfE es k))) := ho
      have HA : Hid _ := halfE_at es k hlt
      clear hf ho
      go_wp2_with fail
      refine (toEntry_any _ _ _ _ _).mono ?_
      rintro e w2 ⟨rfl, b2⟩
      have ho := keepL HO.out b2
      have hat := ecells_at (halfE es k) k (by rw [halfE_len es k hk]; exact hlt)
      rw [HA.out] at hat
      have d1 : w2.cell? ⟨w.heap.size, k * 4, none⟩ = some (.int .i64 0) := by rw [ho.cellAt (k * 4) (by omega)]; exact hat.1
      have d2 : w2.cell? ⟨w.heap.size, k * 4 + 1, none⟩ = some (.int .i64 0) := by rw [ho.cellAt (k * 4 + 1) (by omega)]; exact hat.2.1
      have d3 : w2.cell? ⟨w.heap.size, k * 4 + 2, none⟩ = some (.int .i64 0) := by rw [ho.cellAt (k * 4 + 2) (by omega)]; exact hat.2.2.1
      have d4 : w2.cell? ⟨w.heap.size, k * 4 + 3, none⟩ = some (.int .i64 0) := by rw [ho.cellAt (k * 4 + 3) (by omega)]; exact hat.2.2.2
      have e1 : w2.frozen? ⟨w.heap.size, k * 4, none⟩ = false := ho.frozenAt _
      have e2 : w2.frozen? ⟨w.heap.size, k * 4 + 1, none⟩ = false := ho.frozenAt _
      have e3 : w2.frozen? ⟨w.heap.size, k * 4 + 2, none⟩ = false := ho.frozenAt _
      have e4 : w2.frozen? ⟨w.heap.size, k * 4 + 3, none⟩ = false := ho.frozenAt _
      have HR : Hid (((((w2.setCell ⟨w.heap.size, k * 4, none⟩ (.int .i64 x)).setCell ⟨w.heap.size, k * 4 + 1, none⟩ (.int .i64 y)).setCell ⟨w.heap.size, k * 4 + 2, none⟩ (.int .i64 z)).setCell ⟨w.heap.size, k * 4 + 3, none⟩ (.int .i64 t)).ownsRow w.heap.size 28 4 (.slice (some ⟨w.heap.size, 0, none⟩) es.length es.length) es.length (ecells (halfE es (k + 1)))) := by
        have R := ((((ho.stored (k * 4) (.int .i64 x)).1.stored (k * 4 + 1) (.int .i64 y)).1.stored (k * 4 + 2) (.int .i64 z)).1.stored (k * 4 + 3) (.int .i64 t)).1
        rw [HT.out, HS.out] at R
        exact R
      clear ho hat
      go_wp2
      go_roundw
      case rel => exact ⟨k + 1, by omega, by go_num, HR.out, ((((hbr.trans (b2.mono hbr.size)).setCell (Nat.le_refl _) _).setCell (Nat.le_refl _) _).setCell (Nat.le_refl _) _).setCell (Nat.le_refl _) _⟩
      case measure => simp [intOf]; omega
    · have : k = es.length := by omega
      subst this
      rw [halfE_all] at ho
      go_wp2
      go_ret
      exact ⟨rfl, ho, hbr⟩

set_option maxHeartbeats 800000 in
theorem eqEntryS_same (ao bo : Option Addr) (c1 c2 : Nat) (es : List En) (w : World) (hx : EntsAt w ao es) (hy : EntsAt w bo es) (h1 : es.length ≤ 1099511627776) :
    Calls Try.prog 34 #[.slice ao es.length c1, .slice bo es.length c2] w fun e w' => e = .returned (.bool true) ∧ Below w.heap.size w w' := by
  have HX : Hid (EntsAt w ao es) := hx
  have HY : Hid (EntsAt w bo es) := hy
  clear hx hy
  go_enter Try.func34, Try.ntmps34
  go_wp2
  go_loopw [5] (fun i wr => ∃ k : Nat, k ≤ es.length ∧ i = .int .i64 k ∧ Below w.heap.size w wr) (fun i _ => es.length - (intOf i).toNat)
  case atStart => exact ⟨0, Nat.zero_le _, rfl, Below.refl _ _⟩
  case round =>
    obtain ⟨k, hk, rfl, hbr⟩ := hrel
    by_cases hlt : k < es.length
    · obtain ⟨b, off, rfl, hb, e1, e2, e3, e4⟩ := (HX.out.below hbr).at hlt
      obtain ⟨b', off', rfl, hb', e5, e6, e7, e8⟩ := (HY.out.below hbr).at hlt
      have hki : (k : Int) < (es.length : Int) := by omega
      obtain ⟨⟨x, y, z, t⟩, hxk⟩ : ∃ x, enAt es k = x := ⟨_, rfl⟩
      rw [hxk] at e1 e2 e3 e4 e5 e6 e7 e8
      simp only at e1 e2 e3 e4 e5 e6 e7 e8
      clear hxk
      go_wp2
      go_region_with (go_at_call 37; refine (eqEntry_same _ _ _ _ _).mono ?_; rintro e w2 ⟨rfl, b2⟩)
      all_goals
        go_wp2
        go_roundw
        case rel => exact ⟨k + 1, by omega, by go_num, (hbr.drew).trans (b2.mono hbr.size)⟩
        case measure => simp [intOf]; omega
    · go_wp2
      go_ret
      exact ⟨rfl, hbr⟩

set_option maxHeartbeats 1600000 in
theorem markEntryS_any (g : Nat) (cap base k : Nat) (es : List En) (w : World) (ho : w.ownsRow base 28 4 (.slice (some ⟨g, 0, none⟩) es.length cap) es.length (ecells es)) (hn : es.length ≤ 1099511627) (k2 : k ≤ 10995116270) :
    Calls Try.prog 35 #[.slice (some ⟨g, 0, none⟩) es.length cap, .int .i64 k] w fun e w' => e = .returned (.int .i64 (k + 4 * es.length : Nat)) ∧ w.grownBy w' (some g) := by
  go_enter Try.func35, Try.ntmps35
  go_wp2
  go_loopw [1, 5] (fun c i wr => ∃ (j : Nat) (xs : List Value), j ≤ es.length ∧ i = .int .i64 j ∧ c = .int .i64 (k + 4 * j : Nat) ∧ wr.ownsRow base 28 4 (.slice (some ⟨g, 0, none⟩) es.length cap) es.length xs ∧ w.grownBy wr (some g)) (fun _ i _ => es.length - (intOf i).toNat)
  case atStart => exact ⟨0, _, Nat.zero_le _, rfl, rfl, ho, World.grownBy.refl _ _⟩
  case round =>
    obtain ⟨j, xs, hj, rfl, rfl, hor, hgr⟩ := hrel
    clear ho
    by_cases hlt : j < es.length
    · have hji : (j : Int) < (es.length : Int) := by omega
      have hxl : xs.length = es.length * 4 := hor.1
      obtain ⟨o1, h1⟩ : ∃ x, xs[j * 4]? = some x := ⟨_, List.getElem?_eq_getElem (by omega)⟩
      obtain ⟨o2, h2⟩ : ∃ x, xs[j * 4 + 1]? = some x := ⟨_, List.getElem?_eq_getElem (by omega)⟩
      obtain ⟨o3, h3⟩ : ∃ x, xs[j * 4 + 2]? = some x := ⟨_, List.getElem?_eq_getElem (by omega)⟩
      obtain ⟨o4, h4⟩ : ∃ x, xs[j * 4 + 3]? = some x := ⟨_, List.getElem?_eq_getElem (by omega)⟩
      have c1 : wr.cell? ⟨g, j * 4, none⟩ = some o1 := by rw [hor.cellAt (j * 4) (by omega)]; exact h1
      have c2 : wr.cell? ⟨g, j * 4 + 1, none⟩ = some o2 := by rw [hor.cellAt (j * 4 + 1) (by omega)]; exact h2
      have c3 : wr.cell? ⟨g, j * 4 + 2, none⟩ = some o3 := by rw [hor.cellAt (j * 4 + 2) (by omega)]; exact h3
      have c4 : wr.cell? ⟨g, j * 4 + 3, none⟩ = some o4 := by rw [hor.cellAt (j * 4 + 3) (by omega)]; exact h4
      have d1 : wr.frozen? ⟨g, j * 4, none⟩ = false := hor.frozenAt _
      have d2 : wr.frozen? ⟨g, j * 4 + 1, none⟩ = false := hor.frozenAt _
      have d3 : wr.frozen? ⟨g, j * 4 + 2, none⟩ = false := hor.frozenAt _
      have d4 : wr.frozen? ⟨g, j * 4 + 3, none⟩ = false := hor.frozenAt _
      obtain ⟨m, hm⟩ : ∃ m : Nat, k + 4 * j = m := ⟨_, rfl⟩
      rw [hm]
      have R1 := hor.stored (j * 4) (.int .i64 (m : Int))
      have R2 := R1.1.stored (j * 4 + 1) (.int .i64 ((m : Int) + 1))
      have R3 := R2.1.stored (j * 4 + 2) (.int .i64 ((m : Int) + 1 + 1))
      have R4 := R3.1.stored (j * 4 + 3) (.int .i64 ((m : Int) + 1 + 1 + 1))
      have HR : Hid _ := R4.1
      have HG : Hid _ := (((hgr.trans R1.2).trans R2.2).trans R3.2).trans R4.2
      have hmb : m ≤ 50000000000 := by omega
      have HM : Hid (k + 4 * (j + 1) = m + 1 + 1 + 1 + 1) := by rw [Hid]; omega
      clear R1 R2 R3 R4 hor hgr hm h1 h2 h3 h4 hxl
      go_wp2
      go_roundw
      case rel => exact ⟨j + 1, _, by omega, by go_num, by rw [HM.out]; go_num, HR.out, HG.out⟩
      case measure => simp [intOf]; omega
    · have hjn : j = es.length := by omega
      subst hjn
      clear hor
      go_wp2
      go_ret
      exact ⟨rfl, hgr⟩

end Go.Proofs.Ytcaepfomhcmfpaa
