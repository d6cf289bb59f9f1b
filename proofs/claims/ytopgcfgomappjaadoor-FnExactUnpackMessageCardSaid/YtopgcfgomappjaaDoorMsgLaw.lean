/- The laws' own functions over messages: how much one takes, its copy. -/
import Derived.Test.YtopgcfgomappjaaDoorFlds
import Derived.Test.YtopgcfgomappjaaDoorFldLaw
import Derived.OwnWalk
namespace Go.Proofs.YtopgcfgomappjaaDoor
open Go.RowKit

/-- what is left behind the data of all fields -/
def leftFs : List Fld → Int → Int
  | [], left => left
  | f :: r, left => if left - (f.2.length : Int) < 0 then -1 else leftFs r (left - (f.2.length : Int))
def leftM (fs : List Fld) (left : Int) : Int := if left - (fs.length : Int) < 0 then -1 else leftFs fs (left - (fs.length : Int))
theorem leftFs_step (fs : List Fld) (k : Nat) (left : Int) (h : k < fs.length) : leftFs (fs.drop k) left = if left - ((at0 fs k).2.length : Int) < 0 then -1 else leftFs (fs.drop (k + 1)) (left - ((at0 fs k).2.length : Int)) := by
  have e : at0 fs k = fs[k] := by simp [at0, List.getD_eq_getElem?_getD, h]
  rw [List.drop_eq_getElem_cons h, e]; rfl
def sumF (fs : List Fld) : Nat := (fs.map fun f => f.2.length).sum
theorem leftFs_sum (fs : List Fld) : ∀ left, 0 ≤ leftFs fs left → 0 ≤ left → (sumF fs : Int) ≤ left := by
  induction fs with
  | nil => intro left _ h; simpa [sumF] using h
  | cons f r ih =>
    intro left h hl
    simp only [leftFs] at h
    split at h
    · omega
    · have := ih _ h (by omega)
      simp only [sumF, List.map_cons, List.sum_cons] at this ⊢
      omega
theorem leftM_sum {fs : List Fld} {left : Int} (h : 0 ≤ leftM fs left) : (fs.length : Int) + sumF fs ≤ left := by
  unfold leftM at h
  split at h
  · omega
  · have := leftFs_sum fs _ h (by omega)
    omega
theorem sumF_mem {fs : List Fld} {f : Fld} (h : f ∈ fs) : f.2.length ≤ sumF fs := by
  induction fs with
  | nil => cases h
  | cons g r ih =>
    simp only [sumF, List.map_cons, List.sum_cons] at ih ⊢
    rcases List.mem_cons.1 h with rfl | hr
    · omega
    · have := ih hr; omega
theorem at0_mem {fs : List Fld} {k : Nat} (h : k < fs.length) : at0 fs k ∈ fs := by
  have e : at0 fs k = fs[k] := by simp [at0, List.getD_eq_getElem?_getD, h]
  rw [e]; exact List.getElem_mem h
theorem at0_le {fs : List Fld} {k n : Nat} (h : k < fs.length) (hs : sumF fs ≤ n) : (at0 fs k).2.length ≤ n := Nat.le_trans (sumF_mem (at0_mem h)) hs

set_option maxHeartbeats 800000 in
theorem szFieldS_any (ao : Option Addr) (cap : Nat) (fs : List Fld) (w : World) (hz : FldsAt w ao fs) (hd : FldsBd fs) :
    Calls Tryd.prog 17 #[.slice ao fs.length cap, .int .i64 1048576] w fun e w' => e = .returned (.int .i64 (leftM fs 1048576)) ∧ Below w.heap.size w w' := by
  have hn : fs.length ≤ 9223372036854775807 := by have := hd.1; unfold maxLen at this; omega
  have HD : Hid (∀ k, k < fs.length → (at0 fs k).2.length ≤ 9223372036854775807) := by
    intro k hk; have := hd.2 _ (at0_mem hk); unfold maxLen at this; omega
  clear hd
  by_cases hneg : (1048576 : Int) - (fs.length : Int) < 0
  · have HE : Hid (leftM fs 1048576 = -1) := if_pos hneg
    go_enter Tryd.func17, Tryd.ntmps17
    go_wp2
    go_ret
    exact ⟨one_int HE.out.symm, Below.refl _ _⟩
  · have HE : Hid (leftM fs 1048576 = leftFs fs (1048576 - (fs.length : Int))) := if_neg hneg
    rcases hz with rfl | ⟨b, off, rfl, hb, hcell⟩
    · go_enter Tryd.func17, Tryd.ntmps17
      go_wp2
      refine wp_loop_rounds 1 ?_
      rw [rounds_succ]
      go_wp2
      go_ret
      exact ⟨rfl, Below.refl _ _⟩
    · have HC : Hid (∀ i, i < fs.length → w.cell? ⟨b, off + i * 2, none⟩ = some (.int .i64 (at0 fs i).1) ∧ w.cell? ⟨b, off + i * 2 + 1, none⟩ = some (.string ⟨(at0 fs i).2.toArray⟩)) := hcell
      clear hcell
      go_enter Tryd.func17, Tryd.ntmps17
      go_wp2
      go_loopw [1, 5] (fun v i wr => ∃ (k : Nat) (l : Int), k ≤ fs.length ∧ i = .int .i64 k ∧ v = .int .i64 l ∧ 0 ≤ l ∧ l ≤ 1048576 ∧ leftM fs 1048576 = leftFs (fs.drop k) l ∧ Below w.heap.size w wr) (fun _ i _ => fs.length - (intOf i).toNat)
      case atStart => exact ⟨0, _, Nat.zero_le _, rfl, rfl, by omega, by omega, HE.out, Below.refl _ _⟩
      case round =>
        obtain ⟨k, l, hk, rfl, rfl, h0, h1, hleft, hbr⟩ := hrel
        by_cases hlt : k < fs.length
        · have c1 : wr.cell? ⟨b, off + k * 2, none⟩ = some (.int .i64 (at0 fs k).1) := (hbr.cell (p := ⟨b, off + k * 2, none⟩) hb).trans (HC.out k hlt).1
          have c2 : wr.cell? ⟨b, off + k * 2 + 1, none⟩ = some (.string ⟨(at0 fs k).2.toArray⟩) := (hbr.cell (p := ⟨b, off + k * 2 + 1, none⟩) hb).trans (HC.out k hlt).2
          have hki : (k : Int) < (fs.length : Int) := by omega
          have hst := leftFs_step fs k l hlt
          have hdk := HD.out k hlt
          obtain ⟨⟨n, s⟩, hf⟩ : ∃ f, at0 fs k = f := ⟨_, rfl⟩
          rw [hf] at c1 c2 hst hdk
          simp only at c1 c2 hst hdk
          by_cases hng : l - (s.length : Int) < 0
          · have HN : Hid (leftM fs 1048576 = -1) := by rw [Hid, hleft, hst, if_pos hng]
            have HF : Hid (leftF s l = -1) := if_pos hng
            clear hst hf hleft
            go_wp2_with fail
            refine (szField_any _ _ _ _ ⟨h1, h0⟩ hdk).mono ?_
            rintro e w1 ⟨rfl, b1⟩
            rw [HF.out]
            go_wp2
            go_ret
            exact ⟨one_int HN.out.symm, hbr.trans (b1.mono hbr.size)⟩
          · have HN : Hid (leftM fs 1048576 = leftFs (fs.drop (k + 1)) (l - (s.length : Int))) := by rw [Hid, hleft, hst, if_neg hng]
            have HF : Hid (leftF s l = l - (s.length : Int)) := if_neg hng
            clear hst hf hleft
            go_wp2_with fail
            refine (szField_any _ _ _ _ ⟨h1, h0⟩ hdk).mono ?_
            rintro e w1 ⟨rfl, b1⟩
            rw [HF.out]
            go_wp2
            go_roundw
            case rel => exact ⟨k + 1, _, by omega, by go_num, rfl, by omega, by omega, HN.out, hbr.trans (b1.mono hbr.size)⟩
            case measure => simp [intOf]; omega
        · have : k = fs.length := by omega
          subst this
          have HN : Hid (leftM fs 1048576 = l) := by rw [Hid, hleft, List.drop_of_length_le (Nat.le_refl _)]; rfl
          clear hleft
          go_wp2
          go_ret
          exact ⟨one_int HN.out.symm, hbr⟩

end Go.Proofs.YtopgcfgomappjaaDoor
