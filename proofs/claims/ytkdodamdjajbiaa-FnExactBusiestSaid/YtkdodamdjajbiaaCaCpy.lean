/- Rows of cases of one's own: filled one by one; the laws' own copy of a slice of cases. -/
import Derived.Test.YtkdodamdjajbiaaCaSl
import Derived.Handy
import Derived.OwnWalk
namespace Go.Proofs.Ytkdodamdjajbiaa
open Go.RowKit
set_option maxRecDepth 100000

def zC : Cs := ⟨0, 0, 0, 0, 0, 0, 0, 0, 0, false, 0, 0⟩
theorem cscells_set (cs : List Cs) (c : Cs) : ∀ k, k < cs.length → (((((((((((((cscells cs).set (k * 12) (.int .i64 c.iss)).set (k * 12 + 1) (.int .i64 c.acq)).set (k * 12 + 2) (.int .i64 c.cur)).set (k * 12 + 3) (.int .i64 c.am)).set (k * 12 + 4) (.int .i64 c.st)).set (k * 12 + 5) (.int .i64 c.rsn)).set (k * 12 + 6) (.int .i64 c.cl)).set (k * 12 + 7) (.int .i64 c.bk)).set (k * 12 + 8) (.int .i64 c.fee)).set (k * 12 + 9) (.bool c.cop)).set (k * 12 + 10) (.int .i64 c.sta)).set (k * 12 + 11) (.int .i64 c.due)) = cscells (cs.set k c) := by
  induction cs with
  | nil => intro k h; simp at h
  | cons g r ih =>
    intro k h
    cases k with
    | zero => rfl
    | succ k =>
      have := ih k (by simpa using h)
      have e : cscells (g :: r) = .int .i64 g.iss :: .int .i64 g.acq :: .int .i64 g.cur :: .int .i64 g.am :: .int .i64 g.st :: .int .i64 g.rsn :: .int .i64 g.cl :: .int .i64 g.bk :: .int .i64 g.fee :: .bool g.cop :: .int .i64 g.sta :: .int .i64 g.due :: cscells r := rfl
      rw [e, show (k + 1) * 12 = k * 12 + 1 + 1 + 1 + 1 + 1 + 1 + 1 + 1 + 1 + 1 + 1 + 1 by omega, show k * 12 + 1 + 1 + 1 + 1 + 1 + 1 + 1 + 1 + 1 + 1 + 1 + 1 + 1 = (k * 12 + 1) + 1 + 1 + 1 + 1 + 1 + 1 + 1 + 1 + 1 + 1 + 1 + 1 by omega, show k * 12 + 1 + 1 + 1 + 1 + 1 + 1 + 1 + 1 + 1 + 1 + 1 + 1 + 2 = (k * 12 + 2) + 1 + 1 + 1 + 1 + 1 + 1 + 1 + 1 + 1 + 1 + 1 + 1 by omega, show k * 12 + 1 + 1 + 1 + 1 + 1 + 1 + 1 + 1 + 1 + 1 + 1 + 1 + 3 = (k * 12 + 3) + 1 + 1 + 1 + 1 + 1 + 1 + 1 + 1 + 1 + 1 + 1 + 1 by omega, show k * 12 + 1 + 1 + 1 + 1 + 1 + 1 + 1 + 1 + 1 + 1 + 1 + 1 + 4 = (k * 12 + 4) + 1 + 1 + 1 + 1 + 1 + 1 + 1 + 1 + 1 + 1 + 1 + 1 by omega, show k * 12 + 1 + 1 + 1 + 1 + 1 + 1 + 1 + 1 + 1 + 1 + 1 + 1 + 5 = (k * 12 + 5) + 1 + 1 + 1 + 1 + 1 + 1 + 1 + 1 + 1 + 1 + 1 + 1 by omega, show k * 12 + 1 + 1 + 1 + 1 + 1 + 1 + 1 + 1 + 1 + 1 + 1 + 1 + 6 = (k * 12 + 6) + 1 + 1 + 1 + 1 + 1 + 1 + 1 + 1 + 1 + 1 + 1 + 1 by omega, show k * 12 + 1 + 1 + 1 + 1 + 1 + 1 + 1 + 1 + 1 + 1 + 1 + 1 + 7 = (k * 12 + 7) + 1 + 1 + 1 + 1 + 1 + 1 + 1 + 1 + 1 + 1 + 1 + 1 by omega, show k * 12 + 1 + 1 + 1 + 1 + 1 + 1 + 1 + 1 + 1 + 1 + 1 + 1 + 8 = (k * 12 + 8) + 1 + 1 + 1 + 1 + 1 + 1 + 1 + 1 + 1 + 1 + 1 + 1 by omega, show k * 12 + 1 + 1 + 1 + 1 + 1 + 1 + 1 + 1 + 1 + 1 + 1 + 1 + 9 = (k * 12 + 9) + 1 + 1 + 1 + 1 + 1 + 1 + 1 + 1 + 1 + 1 + 1 + 1 by omega, show k * 12 + 1 + 1 + 1 + 1 + 1 + 1 + 1 + 1 + 1 + 1 + 1 + 1 + 10 = (k * 12 + 10) + 1 + 1 + 1 + 1 + 1 + 1 + 1 + 1 + 1 + 1 + 1 + 1 by omega, show k * 12 + 1 + 1 + 1 + 1 + 1 + 1 + 1 + 1 + 1 + 1 + 1 + 1 + 11 = (k * 12 + 11) + 1 + 1 + 1 + 1 + 1 + 1 + 1 + 1 + 1 + 1 + 1 + 1 by omega]
      simp only [List.set_cons_succ, this]
      rfl
def halfC (cs : List Cs) (k : Nat) : List Cs := cs.take k ++ List.replicate (cs.length - k) zC
theorem halfC_zero (cs : List Cs) : halfC cs 0 = List.replicate cs.length zC := by simp [halfC]
theorem halfC_all (cs : List Cs) : halfC cs cs.length = cs := by simp [halfC]
theorem halfC_len (cs : List Cs) (k : Nat) (h : k ≤ cs.length) : (halfC cs k).length = cs.length := by simp [halfC]; omega
theorem halfC_succ (cs : List Cs) (k : Nat) (h : k < cs.length) : (halfC cs k).set k (csAt cs k) = halfC cs (k + 1) := by
  unfold halfC
  rw [List.set_append, if_neg (by simp; omega), List.length_take, Nat.min_eq_left (Nat.le_of_lt h), Nat.sub_self, show cs.length - k = cs.length - (k + 1) + 1 by omega, List.replicate_succ, List.set_cons_zero, List.take_succ_eq_append_getElem h, csAt_is h, List.append_assoc]
  rfl
theorem halfC_at (cs : List Cs) (k : Nat) (h : k < cs.length) : csAt (halfC cs k) k = zC := by
  simp [csAt, halfC, List.getD_eq_getElem?_getD, List.getElem?_append, Nat.min_eq_left (Nat.le_of_lt h), List.getElem?_replicate]
  split <;> rfl
theorem infoC : (Try.prog.info? 57).map (fun i => (i.zero, i.size, i.bytes)) = some (some (.agg #[.int .i64 0, .int .i64 0, .int .i64 0, .int .i64 0, .int .i64 0, .int .i64 0, .int .i64 0, .int .i64 0, .int .i64 0, .bool false, .int .i64 0, .int .i64 0]), 12, 96) := by kernel_rfl
theorem cells_repC (m : Nat) : (madeCells (Value.agg #[.int .i64 0, .int .i64 0, .int .i64 0, .int .i64 0, .int .i64 0, .int .i64 0, .int .i64 0, .int .i64 0, .int .i64 0, .bool false, .int .i64 0, .int .i64 0]).cells (m * 12)).toList = cscells (List.replicate m zC) := by
  apply List.ext_getElem?
  intro j
  by_cases hj : j < m * 12
  · have hq : j / 12 < (List.replicate m zC).length := by simp; omega
    have ha : csAt (List.replicate m zC) (j / 12) = zC := by
      simp [csAt, List.getD_eq_getElem?_getD, List.getElem?_replicate]; split <;> rfl
    have h := cscells_at _ (j / 12) (j % 12) hq (by omega)
    rw [ha, show j / 12 * 12 + j % 12 = j by omega] at h
    rw [h]
    have hl : (madeCells (Value.agg #[.int .i64 0, .int .i64 0, .int .i64 0, .int .i64 0, .int .i64 0, .int .i64 0, .int .i64 0, .int .i64 0, .int .i64 0, .bool false, .int .i64 0, .int .i64 0]).cells (m * 12)).toList[j]? = some ((#[.int .i64 0, .int .i64 0, .int .i64 0, .int .i64 0, .int .i64 0, .int .i64 0, .int .i64 0, .int .i64 0, .int .i64 0, .bool false, .int .i64 0, .int .i64 0] : Array Value)[j % 12]!) := by
      simp [madeCells, hj, Value.cells]
    rw [hl]
    rcases (show j % 12 = 0 ∨ j % 12 = 1 ∨ j % 12 = 2 ∨ j % 12 = 3 ∨ j % 12 = 4 ∨ j % 12 = 5 ∨ j % 12 = 6 ∨ j % 12 = 7 ∨ j % 12 = 8 ∨ j % 12 = 9 ∨ j % 12 = 10 ∨ j % 12 = 11 by omega) with e | e | e | e | e | e | e | e | e | e | e | e <;> rw [e] <;> rfl
  · rw [List.getElem?_eq_none (by simp [madeCells]; omega), List.getElem?_eq_none (by rw [cscells_len]; simp; omega)]

set_option maxHeartbeats 6400000 in
theorem toCaseS_any (ao : Option Addr) (cap : Nat) (cs : List Cs) (w : World) (hz : CasesAt w ao cs) (hn : cs.length ≤ 1048576) :
    Calls Try.prog 33 #[.slice ao cs.length cap] w fun e w' => e = .returned (.slice (some ⟨w.heap.size, 0, none⟩) cs.length cs.length) ∧
      w'.ownsRow w.heap.size 57 12 (.slice (some ⟨w.heap.size, 0, none⟩) cs.length cs.length) cs.length (cscells cs) ∧ Below w.heap.size w w' := by
  obtain ⟨i0, hi, hz0, hz1, hz2⟩ := info_parts infoC
  have hm0 := cells_repC cs.length
  have HZ : Hid (CasesAt w ao cs) := hz
  clear hz
  go_enter Try.func33, Try.ntmps33
  go_wp2_with (refine wpList_make_full _ rfl (.tmp 6) (.tmp 6) 34 rfl w.heap.size 57 i0 _ 12 Try.underlying34 hi hz0 hz1 .i64 .i64 _ _ cs.length rfl rfl rfl rfl (by rw [hz2]; omega) (by unfold maxLen; omega) (Nat.le_refl _) ?_; intro w1 hown hg)
  rw [hm0, ← halfC_zero cs] at hown
  have hb1 : Below w.heap.size w w1 := (Below.refl _ _).grown hg (Nat.le_refl _) (fun k hk => by cases hk)
  clear hm0 hg
  go_loopw [4] (fun i wr => ∃ k : Nat, k ≤ cs.length ∧ i = .int .i64 k ∧ wr.ownsRow w.heap.size 57 12 (.slice (some ⟨w.heap.size, 0, none⟩) cs.length cs.length) cs.length (cscells (halfC cs k)) ∧ Below w.heap.size w wr) (fun i _ => cs.length - (intOf i).toNat)
  case atStart => exact ⟨0, Nat.zero_le _, rfl, hown, hb1⟩
  case round =>
    obtain ⟨k, hk, rfl, ho, hbr⟩ := hrel
    clear hown hb1
    by_cases hlt : k < cs.length
    · have hki : (k : Int) < (cs.length : Int) := by omega
      obtain ⟨b, off, ha, hb, cx⟩ := CasesAt.at (CasesAt.below HZ.out hbr) hlt
      subst ha
      have HS : Hid _ := halfC_succ cs k hlt
      have HT : Hid _ := cscells_set (halfC cs k) (csAt cs k) k (by rw [halfC_len cs k hk]; exact hlt)
      have HA : Hid _ := halfC_at cs k hlt
      obtain ⟨⟨iss, acq, cur, am, st, rsn, cl, bk, fee, cop, sta, due⟩, hf⟩ : ∃ f, csAt cs k = f := ⟨_, rfl⟩
      rw [hf] at cx HS HT
      obtain ⟨x0, x1, x2, x3, x4, x5, x6, x7, x8, x9, x10, x11⟩ := cx
      simp only at x0 x1 x2 x3 x4 x5 x6 x7 x8 x9 x10 x11 HT
      have HO : Hid (wr.ownsRow w.heap.size 57 12 (.slice (some ⟨w.heap.size, 0, none⟩) cs.length cs.length) cs.length (cscells (halfC cs k))) := ho
      have HBR : Hid (Below w.heap.size w wr) := hbr
      have HTC : Hid (∀ u, Calls Try.prog 57 #[.agg #[.int .i64 iss, .int .i64 acq, .int .i64 cur, .int .i64 am, .int .i64 st, .int .i64 rsn, .int .i64 cl, .int .i64 bk, .int .i64 fee, .bool cop, .int .i64 sta, .int .i64 due]] u fun e w' => e = .returned (.agg #[.int .i64 iss, .int .i64 acq, .int .i64 cur, .int .i64 am, .int .i64 st, .int .i64 rsn, .int .i64 cl, .int .i64 bk, .int .i64 fee, .bool cop, .int .i64 sta, .int .i64 due]) ∧ Below u.heap.size u w') := fun u => toCase_any ⟨iss, acq, cur, am, st, rsn, cl, bk, fee, cop, sta, due⟩ u
      clear hf ho hbr hb
      go_wp2_with fail
      refine (HTC.out _).mono ?_
      rintro e w2 ⟨rfl, b2⟩
      have ho := keepL HO.out b2
      have hat : ∀ j, j < 12 → (cscells (halfC cs k))[k * 12 + j]? = (ccs zC).toList[j]? := fun j hj => by rw [cscells_at _ k j (by rw [halfC_len cs k hk]; exact hlt) hj, HA.out]
      have y0 : w2.cell? ⟨w.heap.size, k * 12, none⟩ = some (.int .i64 0) := by rw [ho.cellAt (k * 12) (by omega)]; exact hat 0 (by omega)
      have z0 : w2.frozen? ⟨w.heap.size, k * 12, none⟩ = false := ho.frozenAt _
      have y1 : w2.cell? ⟨w.heap.size, k * 12 + 1, none⟩ = some (.int .i64 0) := by rw [ho.cellAt (k * 12 + 1) (by omega)]; exact hat 1 (by omega)
      have z1 : w2.frozen? ⟨w.heap.size, k * 12 + 1, none⟩ = false := ho.frozenAt _
      have y2 : w2.cell? ⟨w.heap.size, k * 12 + 2, none⟩ = some (.int .i64 0) := by rw [ho.cellAt (k * 12 + 2) (by omega)]; exact hat 2 (by omega)
      have z2 : w2.frozen? ⟨w.heap.size, k * 12 + 2, none⟩ = false := ho.frozenAt _
      have y3 : w2.cell? ⟨w.heap.size, k * 12 + 3, none⟩ = some (.int .i64 0) := by rw [ho.cellAt (k * 12 + 3) (by omega)]; exact hat 3 (by omega)
      have z3 : w2.frozen? ⟨w.heap.size, k * 12 + 3, none⟩ = false := ho.frozenAt _
      have y4 : w2.cell? ⟨w.heap.size, k * 12 + 4, none⟩ = some (.int .i64 0) := by rw [ho.cellAt (k * 12 + 4) (by omega)]; exact hat 4 (by omega)
      have z4 : w2.frozen? ⟨w.heap.size, k * 12 + 4, none⟩ = false := ho.frozenAt _
      have y5 : w2.cell? ⟨w.heap.size, k * 12 + 5, none⟩ = some (.int .i64 0) := by rw [ho.cellAt (k * 12 + 5) (by omega)]; exact hat 5 (by omega)
      have z5 : w2.frozen? ⟨w.heap.size, k * 12 + 5, none⟩ = false := ho.frozenAt _
      have y6 : w2.cell? ⟨w.heap.size, k * 12 + 6, none⟩ = some (.int .i64 0) := by rw [ho.cellAt (k * 12 + 6) (by omega)]; exact hat 6 (by omega)
      have z6 : w2.frozen? ⟨w.heap.size, k * 12 + 6, none⟩ = false := ho.frozenAt _
      have y7 : w2.cell? ⟨w.heap.size, k * 12 + 7, none⟩ = some (.int .i64 0) := by rw [ho.cellAt (k * 12 + 7) (by omega)]; exact hat 7 (by omega)
      have z7 : w2.frozen? ⟨w.heap.size, k * 12 + 7, none⟩ = false := ho.frozenAt _
      have y8 : w2.cell? ⟨w.heap.size, k * 12 + 8, none⟩ = some (.int .i64 0) := by rw [ho.cellAt (k * 12 + 8) (by omega)]; exact hat 8 (by omega)
      have z8 : w2.frozen? ⟨w.heap.size, k * 12 + 8, none⟩ = false := ho.frozenAt _
      have y9 : w2.cell? ⟨w.heap.size, k * 12 + 9, none⟩ = some (.bool false) := by rw [ho.cellAt (k * 12 + 9) (by omega)]; exact hat 9 (by omega)
      have z9 : w2.frozen? ⟨w.heap.size, k * 12 + 9, none⟩ = false := ho.frozenAt _
      have y10 : w2.cell? ⟨w.heap.size, k * 12 + 10, none⟩ = some (.int .i64 0) := by rw [ho.cellAt (k * 12 + 10) (by omega)]; exact hat 10 (by omega)
      have z10 : w2.frozen? ⟨w.heap.size, k * 12 + 10, none⟩ = false := ho.frozenAt _
      have y11 : w2.cell? ⟨w.heap.size, k * 12 + 11, none⟩ = some (.int .i64 0) := by rw [ho.cellAt (k * 12 + 11) (by omega)]; exact hat 11 (by omega)
      have z11 : w2.frozen? ⟨w.heap.size, k * 12 + 11, none⟩ = false := ho.frozenAt _
      have HR : Hid (((((((((((((w2.setCell ⟨w.heap.size, k * 12, none⟩ (.int .i64 iss)).setCell ⟨w.heap.size, k * 12 + 1, none⟩ (.int .i64 acq)).setCell ⟨w.heap.size, k * 12 + 2, none⟩ (.int .i64 cur)).setCell ⟨w.heap.size, k * 12 + 3, none⟩ (.int .i64 am)).setCell ⟨w.heap.size, k * 12 + 4, none⟩ (.int .i64 st)).setCell ⟨w.heap.size, k * 12 + 5, none⟩ (.int .i64 rsn)).setCell ⟨w.heap.size, k * 12 + 6, none⟩ (.int .i64 cl)).setCell ⟨w.heap.size, k * 12 + 7, none⟩ (.int .i64 bk)).setCell ⟨w.heap.size, k * 12 + 8, none⟩ (.int .i64 fee)).setCell ⟨w.heap.size, k * 12 + 9, none⟩ (.bool cop)).setCell ⟨w.heap.size, k * 12 + 10, none⟩ (.int .i64 sta)).setCell ⟨w.heap.size, k * 12 + 11, none⟩ (.int .i64 due)).ownsRow w.heap.size 57 12 (.slice (some ⟨w.heap.size, 0, none⟩) cs.length cs.length) cs.length (cscells (halfC cs (k + 1)))) := by
        have R := ((((((((((((ho.stored (k * 12) (.int .i64 iss)).1.stored (k * 12 + 1) (.int .i64 acq)).1.stored (k * 12 + 2) (.int .i64 cur)).1.stored (k * 12 + 3) (.int .i64 am)).1.stored (k * 12 + 4) (.int .i64 st)).1.stored (k * 12 + 5) (.int .i64 rsn)).1.stored (k * 12 + 6) (.int .i64 cl)).1.stored (k * 12 + 7) (.int .i64 bk)).1.stored (k * 12 + 8) (.int .i64 fee)).1.stored (k * 12 + 9) (.bool cop)).1.stored (k * 12 + 10) (.int .i64 sta)).1.stored (k * 12 + 11) (.int .i64 due)).1
        rw [HT.out, HS.out] at R
        exact R
      have HBB : Hid (Below w.heap.size w ((((((((((((w2.setCell ⟨w.heap.size, k * 12, none⟩ (.int .i64 iss)).setCell ⟨w.heap.size, k * 12 + 1, none⟩ (.int .i64 acq)).setCell ⟨w.heap.size, k * 12 + 2, none⟩ (.int .i64 cur)).setCell ⟨w.heap.size, k * 12 + 3, none⟩ (.int .i64 am)).setCell ⟨w.heap.size, k * 12 + 4, none⟩ (.int .i64 st)).setCell ⟨w.heap.size, k * 12 + 5, none⟩ (.int .i64 rsn)).setCell ⟨w.heap.size, k * 12 + 6, none⟩ (.int .i64 cl)).setCell ⟨w.heap.size, k * 12 + 7, none⟩ (.int .i64 bk)).setCell ⟨w.heap.size, k * 12 + 8, none⟩ (.int .i64 fee)).setCell ⟨w.heap.size, k * 12 + 9, none⟩ (.bool cop)).setCell ⟨w.heap.size, k * 12 + 10, none⟩ (.int .i64 sta)).setCell ⟨w.heap.size, k * 12 + 11, none⟩ (.int .i64 due))) := (((((((((((((HBR.out.trans (b2.mono HBR.out.size)).setCell (Nat.le_refl _) _).setCell (Nat.le_refl _) _).setCell (Nat.le_refl _) _).setCell (Nat.le_refl _) _).setCell (Nat.le_refl _) _).setCell (Nat.le_refl _) _).setCell (Nat.le_refl _) _).setCell (Nat.le_refl _) _).setCell (Nat.le_refl _) _).setCell (Nat.le_refl _) _).setCell (Nat.le_refl _) _).setCell (Nat.le_refl _) _)
      clear ho hat b2 HS HT HA HO HBR x0 x1 x2 x3 x4 x5 x6 x7 x8 x9 x10 x11
      go_wp2
      go_roundw
      case rel => exact ⟨k + 1, by omega, by go_num, HR.out, HBB.out⟩
      case measure => simp [intOf]; omega
    · have : k = cs.length := by omega
      subst this
      rw [halfC_all] at ho
      go_wp2
      go_ret
      exact ⟨rfl, ho, hbr⟩

end Go.Proofs.Ytkdodamdjajbiaa
