/- Deadlines of the days that the stories begin at, reckoned. No Go in sight. -/
import Derived.Test.YtenbhmmknejcjaaDoorJP93a
namespace Go.Proofs.YtenbhmmknejcjaaDoor

/-- day by day to the n-th working day -/
def run (zs : List Int) : Nat → Int → Nat → Option Int
  | _, d, 0 => some d
  | 0, _, _ + 1 => none
  | k + 1, d, n + 1 => if wk zs (d + 1) = true then run zs k (d + 1) n else run zs k (d + 1) (n + 1)
theorem run_adv (zs : List Int) : ∀ (k f n : Nat) (d e : Int), run zs k d n = some e → k ≤ f → d = 80000 - (f : Int) → adv zs f n = some e := by
  intro k
  induction k with
  | zero =>
    intro f n d e h _ hd
    cases n with
    | zero => rw [adv_zero, ← hd]; exact h
    | succ n => cases h
  | succ k ih =>
    intro f n d e h hk hd
    cases n with
    | zero => rw [adv_zero, ← hd]; exact h
    | succ n =>
      cases f with
      | zero => omega
      | succ f =>
        have hd1 : d + 1 = 80000 - (f : Int) := by omega
        simp only [run] at h
        rw [hd1] at h
        cases hw : wk zs (80000 - (f : Int))
        · rw [hw, if_neg (by decide)] at h
          rw [adv_no hw]
          exact ih f (n + 1) _ e h (by omega) rfl
        · rw [hw, if_pos rfl] at h
          rw [adv_yes hw]
          exact ih f n _ e h (by omega) rfl
/-- the holidays of the stories -/
def offS : List Int := [9010, 9020, 9055, 9100]
theorem offS_ok : offOk offS = true := by decide
set_option maxRecDepth 100000 in
theorem runs : ∀ i : Fin 60, ∀ n ∈ [45, 65, 85], (match run offS 200 (9000 + (i.val : Int)) n with | some e => decide (e ≤ 79999) | none => false) = true := by decide +kernel
theorem due_story {d : Int} {n : Nat} (h1 : 9000 ≤ d) (h2 : d ≤ 9059) (hn : n = 45 ∨ n = 65 ∨ n = 85) : ∃ e, addV d n offS = some e ∧ d ≤ e ∧ e ≤ 79999 := by
  have hr := runs ⟨(d - 9000).toNat, by omega⟩ n (by rcases hn with rfl | rfl | rfl <;> simp)
  simp only at hr
  rw [show 9000 + (((d - 9000).toNat : Nat) : Int) = d by omega] at hr
  cases he : run offS 200 d n with
  | none => rw [he] at hr; cases hr
  | some e =>
    rw [he] at hr
    have hle : e ≤ 79999 := of_decide_eq_true hr
    have ha := run_adv offS 200 (80000 - d).toNat n d e he (by omega) (by omega)
    have hb := adv_bd (by omega) ha
    refine ⟨e, ?_, by omega, hle⟩
    unfold addV
    rw [if_pos ⟨dOk_pos (by omega) (by omega), by omega, by omega, offS_ok⟩, show ((n : Int)).toNat = n from rfl]
    exact ha

end Go.Proofs.YtenbhmmknejcjaaDoor
