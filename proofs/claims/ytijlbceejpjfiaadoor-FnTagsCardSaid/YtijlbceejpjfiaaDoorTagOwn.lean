/- Tags in a row of one's own: the cells of a list of tags; the laws' copy of a list. -/
import Derived.Test.YtijlbceejpjfiaaDoorTagLaw
namespace Go.Proofs.YtijlbceejpjfiaaDoor
open Go.RowKit

theorem keepRow {w w' : World} {base n size : Nat} {t : TypeId} {v : Value} {xs : List Value} (h : w.ownsRow base t size v n xs) (hb : Below w.heap.size w w') : w'.ownsRow base t size v n xs := by
  obtain ⟨h1, h2⟩ := h
  refine ⟨h1, ?_⟩
  rcases h2 with h | ⟨g, cap, cur, hv, hg, hh, a1, a2, a3, a4⟩
  · exact .inl h
  · have hlt : g < w.heap.size := (Array.getElem?_eq_some_iff.1 hh).1
    exact .inr ⟨g, cap, cur, hv, hg, (hb.block g hlt).trans hh, a1, a2, a3, a4⟩

theorem keepSet {w : World} {base n size : Nat} {t : TypeId} {v : Value} {xs : List Value} (h : w.ownsRow base t size v n xs) (p : Addr) (u : Value) (hp : ∀ g, v.ownBlock = some g → g ≠ p.block) : (w.setCell p u).ownsRow base t size v n xs := by
  obtain ⟨h1, h2⟩ := h
  refine ⟨h1, ?_⟩
  rcases h2 with h | ⟨g, cap, cur, hv, hg, hh, a1, a2, a3, a4⟩
  · exact .inl h
  · exact .inr ⟨g, cap, cur, hv, hg, (Below.heap_setCell w p u g (hp g (by rw [hv]; rfl))).trans hh, a1, a2, a3, a4⟩
theorem lowerRow {w : World} {base base' n size : Nat} {t : TypeId} {v : Value} {xs : List Value} (h : w.ownsRow base t size v n xs) (hb : base' ≤ base) : w.ownsRow base' t size v n xs := by
  obtain ⟨h1, h2⟩ := h
  refine ⟨h1, ?_⟩
  rcases h2 with h | ⟨g, cap, cur, hv, hg, r⟩
  · exact .inl h
  · exact .inr ⟨g, cap, cur, hv, Nat.le_trans hb hg, r⟩

def fcell (f : Fld) : List Value := [.int .i64 f.1, .string ⟨f.2.toArray⟩]
def fcells (fs : List Fld) : List Value := fs.flatMap fcell
theorem fcells_cons (f : Fld) (r : List Fld) : fcells (f :: r) = .int .i64 f.1 :: .string ⟨f.2.toArray⟩ :: fcells r := rfl
theorem fcells_append (a b : List Fld) : fcells (a ++ b) = fcells a ++ fcells b := by simp [fcells]
theorem fcells_len (fs : List Fld) : (fcells fs).length = fs.length * 2 := by
  induction fs with
  | nil => rfl
  | cons f r ih => rw [fcells_cons]; simp [ih]; omega
theorem fcells_at (fs : List Fld) : ∀ k, k < fs.length → (fcells fs)[k * 2]? = some (.int .i64 (at0 fs k).1) ∧ (fcells fs)[k * 2 + 1]? = some (.string ⟨(at0 fs k).2.toArray⟩) := by
  induction fs with
  | nil => intro k h; simp at h
  | cons f r ih =>
    intro k h
    rw [fcells_cons]
    cases k with
    | zero => exact ⟨rfl, rfl⟩
    | succ k =>
      have := ih k (by simpa using h)
      rw [show (k + 1) * 2 = k * 2 + 1 + 1 by omega, List.getElem?_cons_succ, List.getElem?_cons_succ, List.getElem?_cons_succ, List.getElem?_cons_succ]
      exact this
theorem fcells_set (fs : List Fld) (f : Fld) : ∀ k, k < fs.length → ((fcells fs).set (k * 2) (.int .i64 f.1)).set (k * 2 + 1) (.string ⟨f.2.toArray⟩) = fcells (fs.set k f) := by
  induction fs with
  | nil => intro k h; simp at h
  | cons g r ih =>
    intro k h
    rw [fcells_cons]
    cases k with
    | zero => rfl
    | succ k =>
      have := ih k (by simpa using h)
      rw [show (k + 1) * 2 = k * 2 + 1 + 1 by omega, List.set_cons_succ, List.set_cons_succ, List.set_cons_succ, List.set_cons_succ, this]
      rfl
theorem fcells_one (fs : List Fld) : ∀ u ∈ fcells fs, u.oneCell' = true := by
  intro u hu
  simp only [fcells, List.mem_flatMap, fcell] at hu
  obtain ⟨f, _, hf⟩ := hu
  simp at hf
  rcases hf with rfl | rfl <;> rfl

theorem flds_of_own {w : World} {base g n cap : Nat} {t : TypeId} {fs : List Fld} (h : w.ownsRow base t 2 (.slice (some ⟨g, 0, none⟩) n cap) n (fcells fs)) : FldsAt w (some ⟨g, 0, none⟩) fs := by
  have hl := h.1
  rw [fcells_len] at hl
  by_cases h0 : fs = []
  · exact .inl h0
  · have hlt := (h.lt g rfl).2
    refine .inr ⟨g, 0, rfl, hlt, fun i hi => ?_⟩
    have := fcells_at fs i hi
    rw [Nat.zero_add, h.cellAt (i * 2) (by omega), h.cellAt (i * 2 + 1) (by omega)]
    exact this
theorem flds_of_own' {w : World} {base n : Nat} {t : TypeId} {v : Value} {fs : List Fld} (h : w.ownsRow base t 2 v n (fcells fs)) : ∃ ao cap, v = .slice ao fs.length cap ∧ FldsAt w ao fs ∧ n = fs.length := by
  have hn : n = fs.length := by have := h.1; rw [fcells_len] at this; omega
  subst hn
  rcases h.2 with ⟨rfl, hn⟩ | ⟨g, cap, cur, rfl, _⟩
  · have : fs = [] := List.eq_nil_of_length_eq_zero hn
    subst this
    exact ⟨none, 0, rfl, .inl rfl, rfl⟩
  · exact ⟨_, cap, rfl, flds_of_own h, rfl⟩

/-- what a copy holds behind k rounds -/
def halfF (fs : List Fld) (k : Nat) : List Fld := fs.take k ++ List.replicate (fs.length - k) (0, [])
theorem halfF_all (fs : List Fld) : halfF fs fs.length = fs := by simp [halfF]
theorem halfF_len (fs : List Fld) (k : Nat) (h : k ≤ fs.length) : (halfF fs k).length = fs.length := by simp [halfF]; omega
theorem halfF_succ (fs : List Fld) (k : Nat) (h : k < fs.length) : (halfF fs k).set k (at0 fs k) = halfF fs (k + 1) := by
  have e : at0 fs k = fs[k] := by simp [at0, List.getD_eq_getElem?_getD, h]
  unfold halfF
  rw [List.set_append, if_neg (by simp; omega), List.length_take, Nat.min_eq_left (Nat.le_of_lt h), Nat.sub_self, show fs.length - k = fs.length - (k + 1) + 1 by omega, List.replicate_succ, List.set_cons_zero, List.take_succ_eq_append_getElem h, e, List.append_assoc]
  rfl
theorem halfF_at (fs : List Fld) (k : Nat) (h : k < fs.length) : at0 (halfF fs k) k = (0, []) := by
  simp [at0, halfF, List.getD_eq_getElem?_getD, List.getElem?_append, Nat.min_eq_left (Nat.le_of_lt h), List.getElem?_replicate]
  split <;> rfl

theorem infoF : (Tryd.prog.info? 48).map (fun i => (i.zero, i.size, i.bytes)) = some (some (.agg #[.int .i64 0, .string ⟨#[]⟩]), 2, 24) := by kernel_rfl

theorem cells_rep (m : Nat) : (madeCells (Value.agg #[.int .i64 0, .string ⟨#[]⟩]).cells (m * 2)).toList = fcells (List.replicate m (0, [])) := by
  apply List.ext_getElem?
  intro j
  by_cases hj : j < m * 2
  · have hq : j / 2 < (List.replicate m ((0 : Int), ([] : List UInt8))).length := by simp; omega
    have ha : at0 (List.replicate m ((0 : Int), ([] : List UInt8))) (j / 2) = (0, []) := by
      simp [at0, List.getD_eq_getElem?_getD, List.getElem?_replicate]; split <;> rfl
    have h := fcells_at _ _ hq
    rw [ha] at h
    have hl : (madeCells (Value.agg #[.int .i64 0, .string ⟨#[]⟩]).cells (m * 2)).toList[j]? = some ((#[Value.int .i64 0, .string ⟨#[]⟩] : Array Value)[j % 2]!) := by
      simp [madeCells, hj, Value.cells]
    rcases Nat.mod_two_eq_zero_or_one j with e | e
    · rw [hl, e, show j = j / 2 * 2 by omega, h.1]; rfl
    · rw [hl, e, show j = j / 2 * 2 + 1 by omega, h.2]; rfl
  · rw [List.getElem?_eq_none (by rw [Array.length_toList, size_madeCells]; omega), List.getElem?_eq_none (by rw [fcells_len]; simp; omega)]

set_option maxHeartbeats 800000 in
theorem toTagS_any (ao : Option Addr) (cap : Nat) (fs : List Fld) (w : World) (hz : FldsAt w ao fs) (hn : fs.length ≤ 1048576) :
    Calls Tryd.prog 21 #[.slice ao fs.length cap] w fun e w' => e = .returned (.slice (some ⟨w.heap.size, 0, none⟩) fs.length fs.length) ∧
      w'.ownsRow w.heap.size 48 2 (.slice (some ⟨w.heap.size, 0, none⟩) fs.length fs.length) fs.length (fcells fs) ∧ Below w.heap.size w w' := by
  obtain ⟨i0, hi, hz0, hz1, hz2⟩ := info_parts infoF
  have hm0 := cells_rep fs.length
  rcases hz with rfl | ⟨b, off, rfl, hb, hcell⟩
  · go_enter Tryd.func21, Tryd.ntmps21
    go_wp2_with (refine wpList_make_full _ rfl (.tmp 6) (.tmp 6) 24 rfl w.heap.size 48 i0 _ 2 Tryd.underlying24 hi hz0 hz1 .i64 .i64 _ _ 0 rfl rfl rfl rfl (by rw [hz2]; omega) (by unfold maxLen; omega) (Nat.le_refl _) ?_; intro w1 hown hg)
    refine wp_loop_rounds 1 ?_
    rw [rounds_succ]
    go_wp2
    go_ret
    exact ⟨rfl, by simpa [madeCells, fcells] using hown, (Below.refl _ _).grown hg (Nat.le_refl _) (fun k hk => by cases hk)⟩
  · have HC : Hid (∀ i, i < fs.length → w.cell? ⟨b, off + i * 2, none⟩ = some (.int .i64 (at0 fs i).1) ∧ w.cell? ⟨b, off + i * 2 + 1, none⟩ = some (.string ⟨(at0 fs i).2.toArray⟩)) := hcell
    clear hcell
    go_enter Tryd.func21, Tryd.ntmps21
    go_wp2_with (refine wpList_make_full _ rfl (.tmp 6) (.tmp 6) 24 rfl w.heap.size 48 i0 _ 2 Tryd.underlying24 hi hz0 hz1 .i64 .i64 _ _ fs.length rfl rfl rfl rfl (by rw [hz2]; omega) (by unfold maxLen; omega) (Nat.le_refl _) ?_; intro w1 hown hg)
    rw [hm0, show List.replicate fs.length ((0 : Int), ([] : List UInt8)) = halfF fs 0 from by simp [halfF]] at hown
    have hb1 : Below w.heap.size w w1 := (Below.refl _ _).grown hg (Nat.le_refl _) (fun k hk => by cases hk)
    clear hm0 hg
    go_loopw [4] (fun i wr => ∃ k : Nat, k ≤ fs.length ∧ i = .int .i64 k ∧ wr.ownsRow w.heap.size 48 2 (.slice (some ⟨w.heap.size, 0, none⟩) fs.length fs.length) fs.length (fcells (halfF fs k)) ∧ Below w.heap.size w wr) (fun i _ => fs.length - (intOf i).toNat)
    case atStart => exact ⟨0, Nat.zero_le _, rfl, hown, hb1⟩
    case round =>
      obtain ⟨k, hk, rfl, ho, hbr⟩ := hrel
      clear hown hb1
      by_cases hlt : k < fs.length
      · have c1 : wr.cell? ⟨b, off + k * 2, none⟩ = some (.int .i64 (at0 fs k).1) := (hbr.cell (p := ⟨b, off + k * 2, none⟩) hb).trans (HC.out k hlt).1
        have c2 : wr.cell? ⟨b, off + k * 2 + 1, none⟩ = some (.string ⟨(at0 fs k).2.toArray⟩) := (hbr.cell (p := ⟨b, off + k * 2 + 1, none⟩) hb).trans (HC.out k hlt).2
        have hki : (k : Int) < (fs.length : Int) := by omega
        have HS : Hid _ := halfF_succ fs k hlt
        have HT : Hid _ := fcells_set (halfF fs k) (at0 fs k) k (by rw [halfF_len fs k hk]; exact hlt)
        obtain ⟨⟨n, s⟩, hf⟩ : ∃ f, at0 fs k = f := ⟨_, rfl⟩
        rw [hf] at c1 c2 HS HT
        simp only at c1 c2 HT
        have HO : Hid (wr.ownsRow w.heap.size 48 2 (.slice (some ⟨w.heap.size, 0, none⟩) fs.length fs.length) fs.length (fcells (halfF fs k))) := ho
        have HA : Hid _ := halfF_at fs k hlt
        clear hf ho
        go_wp2_with fail
        refine (toTag_any _ _ _).mono ?_
        rintro e w2 ⟨rfl, b2⟩
        have ho := keepRow HO.out b2
        have hat := fcells_at (halfF fs k) k (by rw [halfF_len fs k hk]; exact hlt)
        rw [HA.out] at hat
        have c3 : w2.cell? ⟨w.heap.size, k * 2, none⟩ = some (.int .i64 0) := by rw [ho.cellAt (k * 2) (by omega)]; exact hat.1
        have c4 : w2.cell? ⟨w.heap.size, k * 2 + 1, none⟩ = some (.string ⟨#[]⟩) := by rw [ho.cellAt (k * 2 + 1) (by omega)]; exact hat.2
        have c5 : w2.frozen? ⟨w.heap.size, k * 2, none⟩ = false := ho.frozenAt _
        have c6 : w2.frozen? ⟨w.heap.size, k * 2 + 1, none⟩ = false := ho.frozenAt _
        have HR : Hid (((w2.setCell ⟨w.heap.size, k * 2, none⟩ (.int .i64 n)).setCell ⟨w.heap.size, k * 2 + 1, none⟩ (.string ⟨s.toArray⟩)).ownsRow w.heap.size 48 2 (.slice (some ⟨w.heap.size, 0, none⟩) fs.length fs.length) fs.length (fcells (halfF fs (k + 1)))) := by
          have R := ((ho.stored (k * 2) (.int .i64 n)).1.stored (k * 2 + 1) (.string ⟨s.toArray⟩)).1
          rw [HT.out, HS.out] at R
          exact R
        clear ho hat
        go_wp2
        go_roundw
        case rel => exact ⟨k + 1, by omega, by go_num, HR.out, ((hbr.trans (b2.mono hbr.size)).setCell (Nat.le_refl _) _).setCell (Nat.le_refl _) _⟩
        case measure => simp [intOf]; omega
      · have : k = fs.length := by omega
        subst this
        rw [halfF_all] at ho
        go_wp2
        go_ret
        exact ⟨rfl, ho, hbr⟩

end Go.Proofs.YtijlbceejpjfiaaDoor
