/- Chapter 8, the reasons: what the program and the specification answer of a code. -/
import Derived.Test.YtjnekdihmchlpaaGreatDoorJT1a
import Derived.Test.YtjnekdihmchlpaaGreatDoorJT0a
import Derived.Handy
import Derived.Deep.RegionWith
import Derived.Deep.RegionHeld3
namespace Go.Proofs.YtjnekdihmchlpaaGreatDoor
open Go.RowKit
set_option maxRecDepth 100000

def txF : ByteArray := ⟨#[102, 114, 97, 117, 100]⟩
def txN : ByteArray := ⟨#[110, 111, 110, 101]⟩
def txT : ByteArray := ⟨#[116, 119, 105, 99, 101]⟩
def txA : ByteArray := ⟨#[97, 109, 111, 117, 110, 116]⟩
def txQ : ByteArray := ⟨#[113, 117, 97, 108, 105, 116, 121]⟩
def txC : ByteArray := ⟨#[99, 97, 110, 99, 101, 108, 108, 101, 100]⟩
/-- a reason's text; the empty one for another code -/
def rTxt (x : Int) : ByteArray := if x = 4837 then txF else if x = 4855 then txN else if x = 4834 then txT else if x = 4831 then txA else if x = 4853 then txQ else if x = 4841 then txC else ⟨#[]⟩
def rD0 (x : Int) : Int := if x = 4837 then 85 else if x = 4855 then 65 else if x = 4834 then 45 else if x = 4831 then 45 else if x = 4853 then 65 else if x = 4841 then 45 else 0
theorem rD0_no {x : Int} (h : x ≠ 4837 ∧ x ≠ 4855 ∧ x ≠ 4834 ∧ x ≠ 4831 ∧ x ≠ 4853 ∧ x ≠ 4841) : rD0 x = 0 := by simp [rD0, h]
theorem rTxt_no {x : Int} (h : x ≠ 4837 ∧ x ≠ 4855 ∧ x ≠ 4834 ∧ x ≠ 4831 ∧ x ≠ 4853 ∧ x ≠ 4841) : rTxt x = ⟨#[]⟩ := by simp [rTxt, h]
theorem rD0_yes {x : Int} (h : rOk x = true) : rD0 x = rDays x := by
  rcases r_cases x with rfl | rfl | rfl | rfl | rfl | rfl | h'
  iterate 6 rfl
  rw [rOk_no h'] at h; cases h
theorem rDays_bad {x : Int} (h : rOk x = false) : rDays x = -1 := by
  rcases r_cases x with rfl | rfl | rfl | rfl | rfl | rfl | h'
  iterate 6 cases h
  exact rDays_no h'
theorem beq_no {a b : Int} (h : a ≠ b) : (a == b) = false := by simpa using h

def reasV (x : Int) : Value := .tuple #[.agg #[.string (rTxt x), .int .i64 (rD0 x), .bool (rPart x), .bool (rProof x)], .bool (rOk x)]
set_option maxHeartbeats 1600000 in
theorem reasonOf_any (x : Int) (w : World) :
    Calls Tryz.prog 137 #[.int .i64 x] w fun e w' => e = .returned (.tuple #[.agg #[.string (rTxt x), .int .i64 (rD0 x), .bool (rPart x), .bool (rProof x)], .bool (rOk x)]) ∧ Below w.heap.size w w' := by
  rcases r_cases x with rfl | rfl | rfl | rfl | rfl | rfl | h
  iterate 6
    · go_enter Tryz.func137, Tryz.ntmps137
      go_wp2
      go_returns
      exact ⟨rfl, by go_grown⟩
  · have HV : Hid (Ending.returned (.tuple #[.agg #[.string (rTxt x), .int .i64 (rD0 x), .bool (rPart x), .bool (rProof x)], .bool (rOk x)]) = .returned (.tuple #[.agg #[.string ⟨#[]⟩, .int .i64 0, .bool false, .bool false], .bool false])) := by
      rw [Hid, rTxt_no h, rD0_no h, rPart_no h, rProof_no h, rOk_no h]
    obtain ⟨h1, h2, h3, h4, h5, h6⟩ := h
    have g1 := beq_no h1
    have g2 := beq_no h2
    have g3 := beq_no h3
    have g4 := beq_no h4
    have g5 := beq_no h5
    have g6 := beq_no h6
    clear h1 h2 h3 h4 h5 h6
    go_enter Tryz.func137, Tryz.ntmps137
    go_wp2
    go_returns
    exact ⟨HV.out.symm, by go_grown⟩

set_option maxHeartbeats 800000 in
theorem iROk_any (x : Int) (w : World) :
    Calls Tryz.prog 101 #[.int .i64 x] w fun e w' => e = .returned (.bool (rOk x)) ∧ Below w.heap.size w w' := by
  go_enter Tryz.func101, Tryz.ntmps101
  go_wp2_with fail
  refine (reasonOf_any x _).mono ?_
  rintro e w1 ⟨rfl, b1⟩
  go_wp2
  go_ret
  exact ⟨rfl, b1.alloc b1.size _⟩

def rL : List Int := [4837, 4855, 4834, 4831, 4853, 4841]
/-- the place of a reason, or -1 -/
def rAt (x : Int) : Int := if x = 4837 then 0 else if x = 4855 then 1 else if x = 4834 then 2 else if x = 4831 then 3 else if x = 4853 then 4 else if x = 4841 then 5 else -1
theorem rAt_no {x : Int} (h : x ≠ 4837 ∧ x ≠ 4855 ∧ x ≠ 4834 ∧ x ≠ 4831 ∧ x ≠ 4853 ∧ x ≠ 4841) : rAt x = -1 := by simp [rAt, h]
theorem rAt_ok (x : Int) : decide (0 ≤ rAt x) = rOk x := by
  rcases r_cases x with rfl | rfl | rfl | rfl | rfl | rfl | h'
  iterate 6 rfl
  rw [rAt_no h', rOk_no h']; rfl
theorem rL_at {x : Int} {k : Nat} (hk : k < 6) (h : rL.getD k 0 = x) : rAt x = k := by
  rcases (show k = 0 ∨ k = 1 ∨ k = 2 ∨ k = 3 ∨ k = 4 ∨ k = 5 by omega) with rfl | rfl | rfl | rfl | rfl | rfl <;> (subst h; rfl)
theorem rL_none {x : Int} (h : ∀ j, j < 6 → rL.getD j 0 ≠ x) : rAt x = -1 := by
  have h0 := h 0 (by omega)
  have h1 := h 1 (by omega)
  have h2 := h 2 (by omega)
  have h3 := h 3 (by omega)
  have h4 := h 4 (by omega)
  have h5 := h 5 (by omega)
  simp [rL] at h0 h1 h2 h3 h4 h5
  exact rAt_no ⟨by omega, by omega, by omega, by omega, by omega, by omega⟩
set_option maxHeartbeats 1600000 in
theorem l08_any (x : Int) (w : World) :
    Calls Tryz.prog 110 #[.int .i64 x] w fun e w' => e = .returned (.int .i64 (rAt x)) ∧ Below w.heap.size w w' := by
  have hcA : ∀ k, k < 6 → (w.alloc (.cells #[.int .i64 4837, .int .i64 4855, .int .i64 4834, .int .i64 4831, .int .i64 4853, .int .i64 4841] 3)).cell? ⟨w.heap.size, k, none⟩ = some (.int .i64 (rL.getD k 0)) := by
    intro k hk
    rcases (show k = 0 ∨ k = 1 ∨ k = 2 ∨ k = 3 ∨ k = 4 ∨ k = 5 by omega) with rfl | rfl | rfl | rfl | rfl | rfl <;> simp [rL]
  have hbel : Below w.heap.size w (w.alloc (.cells #[.int .i64 4837, .int .i64 4855, .int .i64 4834, .int .i64 4831, .int .i64 4853, .int .i64 4841] 3)) := (Below.refl _ _).alloc (Nat.le_refl _) _
  go_enter Tryz.func110, Tryz.ntmps110
  go_wp2
  go_loop [4] (fun i => ∃ k : Nat, k ≤ 6 ∧ i = .int .i64 k ∧ ∀ j, j < k → rL.getD j 0 ≠ x) (fun i => 6 - (intOf i).toNat)
  case atStart => exact ⟨0, by omega, rfl, fun j hj => by omega⟩
  case round =>
    obtain ⟨k, hk, rfl, hno⟩ := hrel
    have HN : Hid (∀ j, j < k → rL.getD j 0 ≠ x) := hno
    clear hno
    by_cases hlt : k < 6
    · have a1 := hcA k hlt
      clear hcA
      obtain ⟨c, hc⟩ : ∃ c, rL.getD k 0 = c := ⟨_, rfl⟩
      rw [hc] at a1
      have HC : Hid (rL.getD k 0 = c) := hc
      clear hc
      cases he : (c == x)
      · have HE : Hid (rL.getD k 0 ≠ x) := by rw [HC.out]; simpa [Hid] using he
        go_wp2
        go_round
        case rel => exact ⟨k + 1, by omega, by go_num, fun j hj => by rcases (show j < k ∨ j = k from by omega) with h | rfl; exact HN.out j h; exact HE.out⟩
        case measure => simp [intOf]; omega
      · have HE : Hid (rL.getD k 0 = x) := by rw [HC.out]; simpa [Hid] using he
        go_wp2
        go_ret
        exact ⟨one_int (rL_at hlt HE.out).symm, hbel⟩
    · have : k = 6 := by omega
      subst this
      clear hcA
      go_wp2
      go_ret
      exact ⟨one_int (rL_none HN.out).symm, hbel⟩
set_option maxHeartbeats 800000 in
theorem sROk_any (x : Int) (w : World) :
    Calls Tryz.prog 63 #[.int .i64 x] w fun e w' => e = .returned (.bool (rOk x)) ∧ Below w.heap.size w w' := by
  have HV : Hid _ := rAt_ok x
  go_enter Tryz.func63, Tryz.ntmps63
  go_wp2_with fail
  refine (l08_any x _).mono ?_
  rintro e w1 ⟨rfl, b1⟩
  go_wp2
  go_ret
  exact ⟨one_bool HV.out, b1⟩
set_option maxHeartbeats 800000 in
theorem sRPart_any (x : Int) (w : World) :
    Calls Tryz.prog 163 #[.int .i64 x] w fun e w' => e = .returned (.bool (rPart x)) ∧ w' = w := by
  obtain ⟨p, hp⟩ : ∃ p, (x == 4831) = p := ⟨_, rfl⟩
  have HV : Hid (rPart x = (p || x == 4853)) := by rw [Hid, rPart, hp]
  cases p
  · go_enter Tryz.func163, Tryz.ntmps163
    go_wp2
    go_ret
    exact ⟨one_bool (by rw [HV.out]; rfl), rfl⟩
  · go_enter Tryz.func163, Tryz.ntmps163
    go_wp2
    go_ret
    exact ⟨one_bool (by rw [HV.out]; rfl), rfl⟩
set_option maxHeartbeats 800000 in
theorem sRProof_any (x : Int) (w : World) :
    Calls Tryz.prog 162 #[.int .i64 x] w fun e w' => e = .returned (.bool (rProof x)) ∧ w' = w := by
  obtain ⟨p, hp⟩ : ∃ p, (x == 4837) = p := ⟨_, rfl⟩
  have HV : Hid (rProof x = (p || x == 4834)) := by rw [Hid, rProof, hp]
  cases p
  · go_enter Tryz.func162, Tryz.ntmps162
    go_wp2
    go_ret
    exact ⟨one_bool (by rw [HV.out]; rfl), rfl⟩
  · go_enter Tryz.func162, Tryz.ntmps162
    go_wp2
    go_ret
    exact ⟨one_bool (by rw [HV.out]; rfl), rfl⟩
theorem rDays_at {x : Int} (h : rOk x = true) : ∃ k : Nat, k < 6 ∧ rAt x = k ∧ rDays x = ([85, 65, 45, 45, 65, 45] : List Int).getD k 0 := by
  rcases r_cases x with rfl | rfl | rfl | rfl | rfl | rfl | h'
  · exact ⟨0, by decide, rfl, rfl⟩
  · exact ⟨1, by decide, rfl, rfl⟩
  · exact ⟨2, by decide, rfl, rfl⟩
  · exact ⟨3, by decide, rfl, rfl⟩
  · exact ⟨4, by decide, rfl, rfl⟩
  · exact ⟨5, by decide, rfl, rfl⟩
  · rw [rOk_no h'] at h; cases h
set_option maxHeartbeats 1600000 in
theorem sRDays_any (x : Int) (w : World) :
    Calls Tryz.prog 164 #[.int .i64 x] w fun e w' => e = .returned (.int .i64 (rDays x)) ∧ Below w.heap.size w w' := by
  cases h : rOk x
  · have HV : Hid _ := rDays_bad h
    have hA : rAt x = -1 := by
      rcases r_cases x with rfl | rfl | rfl | rfl | rfl | rfl | h'
      iterate 6 cases h
      exact rAt_no h'
    have HA : Hid _ := hA
    clear hA
    go_enter Tryz.func164, Tryz.ntmps164
    go_wp2_with fail
    refine (l08_any x _).mono ?_
    rintro e w1 ⟨rfl, b1⟩
    rw [HA.out]
    go_wp2
    go_ret
    exact ⟨one_int HV.out.symm, b1⟩
  · obtain ⟨k, hk, hA, hD⟩ := rDays_at h
    have HA : Hid _ := hA
    have HD : Hid _ := hD
    clear hA hD
    go_enter Tryz.func164, Tryz.ntmps164
    go_wp2_with fail
    refine (l08_any x _).mono ?_
    rintro e w1 ⟨rfl, b1⟩
    rw [HA.out]
    have bel : Below w.heap.size w (w1.alloc (.cells #[.int .i64 85, .int .i64 65, .int .i64 45, .int .i64 45, .int .i64 65, .int .i64 45] 3)) := b1.alloc b1.size _
    have hc : (w1.alloc (.cells #[.int .i64 85, .int .i64 65, .int .i64 45, .int .i64 45, .int .i64 65, .int .i64 45] 3)).cell? ⟨w1.heap.size, k, none⟩ = some (.int .i64 (([85, 65, 45, 45, 65, 45] : List Int).getD k 0)) := by
      rcases (show k = 0 ∨ k = 1 ∨ k = 2 ∨ k = 3 ∨ k = 4 ∨ k = 5 by omega) with rfl | rfl | rfl | rfl | rfl | rfl <;> simp
    obtain ⟨v, hv⟩ : ∃ v, ([85, 65, 45, 45, 65, 45] : List Int).getD k 0 = v := ⟨_, rfl⟩
    rw [hv] at hc
    have HV : Hid _ := hv
    have HB : Hid _ := bel
    clear hv bel b1 h
    go_wp2
    go_ret
    exact ⟨one_int (by rw [HD.out, HV.out]), HB.out⟩

end Go.Proofs.YtjnekdihmchlpaaGreatDoor
