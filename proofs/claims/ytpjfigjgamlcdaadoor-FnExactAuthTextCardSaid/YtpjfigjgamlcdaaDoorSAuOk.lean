/- The contract of the specification's AuthOk: what it returns for every authorization. -/
import Derived.Test.YtpjfigjgamlcdaaDoorAuSl
import Derived.Test.YtpjfigjgamlcdaaDoorAWith
import Derived.Test.YtpjfigjgamlcdaaDoorDLeaf
import Derived.Test.YtpjfigjgamlcdaaDoorSLed
namespace Go.Proofs.YtpjfigjgamlcdaaDoor
open Go.RowKit
set_option maxRecDepth 100000

theorem in_is {x a b : Int} {q : Bool} (h : inB x a b = q) (w : World) : Calls Tryd.prog 62 #[.int .i64 x, .int .i64 a, .int .i64 b] w fun e w' => e = .returned (.bool q) ∧ w' = w := by rw [← h]; exact in_any x a b w

set_option maxHeartbeats 3200000 in
theorem sAuthOk_any (a : Au) (w : World) (hl : a.ref.length ≤ 1099511627776) :
    Calls Tryd.prog 73 #[auv a] w fun e w' => e = .returned (.bool (auOk a)) ∧ Below w.heap.size w w' := by
  obtain ⟨r, i, c, m, d, u⟩ := a
  simp only [auv] at hl ⊢
  have HV : Hid (auOk ⟨r, i, c, m, d, u⟩ = ((decide (r.length = 12) && within 33 126 r) && (acctOk i && (decide (0 ≤ digs c) && (decide (1 ≤ m ∧ m ≤ 100000000000) && dOk d))))) := rfl
  obtain ⟨W, hW⟩ : ∃ W, w.alloc (.cells #[.string ⟨r.toArray⟩, .int .i64 i, .int .i64 c, .int .i64 m, .int .i64 d, .bool u] 61) = W := ⟨_, rfl⟩
  have bW : Below w.heap.size w W := hW ▸ (Below.refl _ _).alloc (Nat.le_refl _) _
  have HBW : Hid (Below w.heap.size w W) := bW
  have c0 : W.cell? ⟨w.heap.size, 0, none⟩ = some (.string ⟨r.toArray⟩) := by rw [← hW]; simp
  have c1 : W.cell? ⟨w.heap.size, 1, none⟩ = some (.int .i64 i) := by rw [← hW]; simp
  have c2 : W.cell? ⟨w.heap.size, 2, none⟩ = some (.int .i64 c) := by rw [← hW]; simp
  have c3 : W.cell? ⟨w.heap.size, 3, none⟩ = some (.int .i64 m) := by rw [← hW]; simp
  have c4 : W.cell? ⟨w.heap.size, 4, none⟩ = some (.int .i64 d) := by rw [← hW]; simp
  have lW : w.heap.size < W.heap.size := by rw [← hW]; simp
  have HW : Hid _ := hW
  clear hW bW
  go_enter Tryd.func73, Tryd.ntmps73
  go_wp2
  rw [HW.out]
  clear HW
  go_loopw [3] (fun i wr => ∃ k : Nat, k ≤ r.length ∧ i = .int .i64 k ∧ within 33 126 r = within 33 126 (r.drop k) ∧ wr = W) (fun i _ => r.length - (intOf i).toNat)
  case atStart => exact ⟨0, Nat.zero_le _, rfl, rfl, rfl⟩
  case round =>
    obtain ⟨k, hk, rfl, ht, hwr⟩ := hrel
    subst hwr
    by_cases hlt : k < r.length
    · have hki : (k : Int) < (r.length : Int) := by omega
      have hs := within_step 33 126 r k hlt
      obtain ⟨b, hb⟩ : ∃ b, (⟨r.toArray⟩ : ByteArray)[k]'(by rw [ba_size]; exact hlt) = b := ⟨_, rfl⟩
      rw [(byte_at r k hlt).trans hb, ← in_byte b 33 126] at hs
      have HS : Hid _ := ht.trans hs
      have hwc := wrap_byte b
      clear hs ht
      cases hin : inB (b.toNat : Int) 33 126
      · have HN : Hid (within 33 126 r = false) := by rw [Hid, HS.out]; simp [hin]
        clear HS
        go_wp2_with fail
        refine (in_is hin _).mono ?_
        rintro e w1 ⟨rfl, hw1⟩
        subst hw1
        go_wp2
        go_ret
        exact ⟨one_bool (by rw [HV.out, HN.out]; simp), HBW.out⟩
      · have HY : Hid (within 33 126 r = within 33 126 (r.drop (k + 1))) := by rw [Hid, HS.out]; simp [hin]
        clear HS
        go_wp2_with fail
        refine (in_is hin _).mono ?_
        rintro e w1 ⟨rfl, hw1⟩
        subst hw1
        go_wp2
        go_roundw
        case rel => exact ⟨k + 1, by omega, by go_num, HY.out, trivial⟩
        case measure => simp [intOf]; omega
    · have hke : k = r.length := by omega
      subst hke
      have HE : Hid (within 33 126 r = true) := by rw [Hid, ht, within_end]
      clear ht
      by_cases h12 : r.length = 12
      · have hq : ((r.length : Int) == 12) = true := by simp [h12]
        have HV1 : Hid (auOk ⟨r, i, c, m, d, u⟩ = (acctOk i && (decide (0 ≤ digs c) && (decide (1 ≤ m ∧ m ≤ 100000000000) && dOk d)))) := by rw [Hid, HV.out, HE.out, decide_eq_true h12]; rfl
        clear h12 HV HE
        cases hi : acctOk i
        · go_wp2_with fail
          refine (acct_is hi _).mono ?_
          rintro e w1 ⟨rfl, hw1⟩
          subst hw1
          go_wp2
          go_ret
          exact ⟨one_bool (by rw [HV1.out, hi]; rfl), HBW.out⟩
        · go_wp2_with fail
          refine (acct_is hi _).mono ?_
          rintro e w1 ⟨rfl, hw1⟩
          subst hw1
          go_wp2_with fail
          refine (sDigits_any c _).mono ?_
          rintro e w2 ⟨rfl, b2⟩
          have e3 : w2.cell? ⟨w.heap.size, 3, none⟩ = some (.int .i64 m) := (b2.cell (p := ⟨w.heap.size, 3, none⟩) lW).trans c3
          have e4 : w2.cell? ⟨w.heap.size, 4, none⟩ = some (.int .i64 d) := (b2.cell (p := ⟨w.heap.size, 4, none⟩) lW).trans c4
          have HB : Hid (Below w.heap.size w w2) := HBW.out.trans (b2.mono HBW.out.size)
          rw [hi] at HV1
          clear c0 c1 c2 c3 c4 b2 HBW
          by_cases hd : 0 ≤ digs c
          · cases hin : inB m 1 100000000000
            · have HVV : Hid (auOk ⟨r, i, c, m, d, u⟩ = false) := by
                have : decide (1 ≤ m ∧ m ≤ 100000000000) = false := hin
                rw [Hid, HV1.out, decide_eq_true hd, this]; rfl
              clear HV1
              generalize digs c = g at hd
              go_wp2_with fail
              refine (in_is hin _).mono ?_
              rintro e w3 ⟨rfl, hw3⟩
              subst hw3
              go_wp2
              go_ret
              exact ⟨one_bool HVV.out.symm, HB.out⟩
            · have HVV : Hid (auOk ⟨r, i, c, m, d, u⟩ = dOk d) := by
                have : decide (1 ≤ m ∧ m ≤ 100000000000) = true := hin
                rw [Hid, HV1.out, decide_eq_true hd, this]; rfl
              clear HV1
              generalize digs c = g at hd
              go_wp2_with fail
              refine (in_is hin _).mono ?_
              rintro e w3 ⟨rfl, hw3⟩
              subst hw3
              go_wp2_with fail
              refine (sDayOk_any d _).mono ?_
              rintro e w3 ⟨rfl, hw3⟩
              subst hw3
              generalize dOk d = q at HVV
              go_wp2
              go_ret
              exact ⟨one_bool HVV.out.symm, HB.out⟩
          · have HVV : Hid (auOk ⟨r, i, c, m, d, u⟩ = false) := by rw [Hid, HV1.out, decide_eq_false hd]; rfl
            clear HV1
            generalize digs c = g at hd
            go_wp2
            go_ret
            exact ⟨one_bool HVV.out.symm, HB.out⟩
      · have hq : ((r.length : Int) == 12) = false := by simp; omega
        have HV1 : Hid (auOk ⟨r, i, c, m, d, u⟩ = false) := by rw [Hid, HV.out, decide_eq_false h12]; rfl
        clear h12 HV HE
        go_wp2
        go_ret
        exact ⟨one_bool HV1.out.symm, HBW.out⟩

end Go.Proofs.YtpjfigjgamlcdaaDoor
