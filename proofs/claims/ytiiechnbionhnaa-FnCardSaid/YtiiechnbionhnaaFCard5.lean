/- The contracts of Turned, the program's and the specification's. -/
import Derived.Test.YtiiechnbionhnaaFCard4
namespace Go.Proofs.Ytiiechnbionhnaa
open Go.RowKit
set_option maxRecDepth 100000

/-- two digits changed for each other -/
def turnK (l : List UInt8) (k : Nat) : List UInt8 := (l.set k (l.getD (k + 1) 0)).set (k + 1) (l.getD k 0)
def turnOk (l : List UInt8) (i : Int) : Bool := hasB l.length i 2 && within 48 57 ((l.drop i.toNat).take 2)
def turnL (l : List UInt8) (i : Int) : List UInt8 := if turnOk l i then turnK l i.toNat else l

theorem turn_cut {l : List UInt8} {k : Nat} (h : k + 2 ≤ l.length) : turnK l k = ((l.take k ++ [l.getD (k + 1) 0]) ++ [l.getD k 0]) ++ l.drop (k + 2) := by
  refine List.ext_getElem (by simp [turnK]; omega) fun i h1 h2 => ?_
  simp only [turnK, List.getElem_set, List.getElem_append, List.length_take, List.length_append, List.length_singleton, List.getElem_take, List.getElem_drop, List.getElem_singleton]
  have hm : min k l.length = k := by omega
  simp only [hm]
  by_cases ha : i < k
  · rw [if_neg (by omega), if_neg (by omega), dif_pos (by omega), dif_pos (by omega), dif_pos ha]
  · by_cases hb : i = k
    · subst hb
      rw [if_neg (by omega), if_pos rfl, dif_pos (by omega), dif_pos (by omega), dif_neg (by omega)]
    · by_cases hc : i = k + 1
      · subst hc
        rw [if_pos rfl, dif_pos (by omega), dif_neg (by omega)]
      · rw [if_neg (by omega), if_neg (by omega), dif_neg (by omega)]
        congr 1
        omega

set_option maxHeartbeats 1600000 in
theorem iTurned_any (l : List UInt8) (i : Int) (w : World) (hl : l.length ≤ 1099511627776) :
    Calls Try.prog 20 #[.string ⟨l.toArray⟩, .int .i64 i] w fun e w' => e = .returned (.string ⟨(turnL l i).toArray⟩) ∧ Below w.heap.size w w' := by
  cases hb : hasB l.length i 2
  · have HV : Hid (turnL l i = l) := by rw [Hid, turnL, turnOk, hb]; rfl
    go_enter Try.func20, Try.ntmps20
    go_wp2_with fail
    refine (hasBytes_any l i 2 _ hl).mono ?_
    rintro e w1 ⟨rfl, hw⟩
    subst hw
    rw [hb]
    go_wp2_with fail
    refine (clone_any l _ hl).mono ?_
    rintro e w2 ⟨rfl, b2⟩
    go_wp2
    go_ret
    exact ⟨one_str (by rw [HV.out]), b2⟩
  · have hin := hasB_in hb
    obtain ⟨k, rfl⟩ := Int.eq_ofNat_of_zero_le hin.1
    have hk : k + 2 ≤ l.length := by omega
    have HP : Hid _ := piece_eq l k 2
    have hk1 : (k : Int) ≤ (k : Int) + 2 := by omega
    have hk2 : (k : Int) + 2 ≤ (l.length : Int) := by omega
    have hpl : ((l.drop k).take 2).length ≤ 1099511627776 := by simp; omega
    cases hd : within 48 57 ((l.drop k).take 2)
    · have HV : Hid (turnL l k = l) := by rw [Hid, turnL, turnOk, hb, Int.toNat_natCast, hd]; rfl
      clear hin
      go_enter Try.func20, Try.ntmps20
      go_wp2_with fail
      refine (hasBytes_any l k 2 _ hl).mono ?_
      rintro e w1 ⟨rfl, hw⟩
      subst hw
      rw [hb]
      clear hb
      go_wp2_with fail
      rw [HP.out]
      refine (iDigits_any _ _ hpl).mono ?_
      rintro e w1 ⟨rfl, hw⟩
      subst hw
      rw [hd]
      go_wp2_with fail
      refine (clone_any l _ hl).mono ?_
      rintro e w2 ⟨rfl, b2⟩
      go_wp2
      go_ret
      exact ⟨one_str (by rw [HV.out]), b2⟩
    · have HV : Hid (turnL l k = ((l.take k ++ [l.getD (k + 1) 0]) ++ [l.getD k 0]) ++ l.drop (k + 2)) := by rw [Hid, turnL, turnOk, hb, Int.toNat_natCast, hd, ← turn_cut hk]; rfl
      have e1 := ext_head l k
      have e2 := ext_one l (k + 1) (by omega)
      have e3 := ext_one l k (by omega)
      have e4 := ext_tail l (k + 2)
      have g1 := cat_any (l.take k) [l.getD (k + 1) 0] (by simp; omega)
      have g2 := cat_any (l.take k ++ [l.getD (k + 1) 0]) [l.getD k 0] (by simp; omega)
      have g3 := cat_any ((l.take k ++ [l.getD (k + 1) 0]) ++ [l.getD k 0]) (l.drop (k + 2)) (by simp; omega)
      rw [← HV.out] at g3
      obtain ⟨A, hA⟩ : ∃ A : ByteArray, ⟨(l.take k).toArray⟩ = A := ⟨_, rfl⟩
      obtain ⟨B, hB⟩ : ∃ B : ByteArray, ⟨[l.getD (k + 1) 0].toArray⟩ = B := ⟨_, rfl⟩
      obtain ⟨C, hC⟩ : ∃ C : ByteArray, ⟨[l.getD k 0].toArray⟩ = C := ⟨_, rfl⟩
      obtain ⟨D, hD⟩ : ∃ D : ByteArray, ⟨(l.drop (k + 2)).toArray⟩ = D := ⟨_, rfl⟩
      obtain ⟨E, hE⟩ : ∃ E : ByteArray, ⟨(l.take k ++ [l.getD (k + 1) 0]).toArray⟩ = E := ⟨_, rfl⟩
      obtain ⟨F, hF⟩ : ∃ F : ByteArray, ⟨((l.take k ++ [l.getD (k + 1) 0]) ++ [l.getD k 0]).toArray⟩ = F := ⟨_, rfl⟩
      rw [hA] at e1
      rw [hB] at e2
      rw [hC] at e3
      rw [hD] at e4
      rw [hA, hB, hE] at g1
      rw [hE, hC, hF] at g2
      rw [hF, hD] at g3
      have hk9 : (k : Int) ≤ (l.length : Int) := by omega
      have s1 := slice_is l (k + 1) (k + 2) (by omega) (by omega)
      have s2 := slice_is l k (k + 1) (by omega) (by omega)
      have s3 := slice_end l (k + 2) (by omega)
      rw [e2] at s1
      rw [e3] at s2
      rw [e4] at s3
      simp only [Int.natCast_add, Int.cast_ofNat_Int] at s1 s2 s3
      clear e2 e3 e4
      clear hA hB hC hD hE hF HV
      go_enter Try.func20, Try.ntmps20
      go_wp2_with fail
      refine (hasBytes_any l k 2 _ hl).mono ?_
      rintro e w1 ⟨rfl, hw⟩
      subst hw
      rw [hb]
      clear hb hin
      go_wp2_with fail
      rw [HP.out]
      refine (iDigits_any _ _ hpl).mono ?_
      rintro e w1 ⟨rfl, hw⟩
      subst hw
      rw [hd]
      clear hd hpl HP
      go_wp2
      go_quiet (fail)
      go_wp2
      go_ret
      exact ⟨rfl, below_drewN (Below.refl _ _) _⟩

theorem in_has (n : Nat) (i : Int) : inB i 0 ((n : Int) - 2) = hasB n i 2 := by
  unfold inB hasB
  by_cases h : 0 ≤ i ∧ i ≤ (n : Int) - 2
  · rw [decide_eq_true h, decide_eq_true (by omega)]
  · rw [decide_eq_false h, decide_eq_false (by omega)]

set_option maxHeartbeats 1600000 in
theorem sTurned_any (l : List UInt8) (i : Int) (w : World) (hl : l.length ≤ 1099511627776) :
    Calls Try.prog 19 #[.string ⟨l.toArray⟩, .int .i64 i] w fun e w' => e = .returned (.string ⟨(turnL l i).toArray⟩) ∧ Below w.heap.size w w' := by
  have hlw : IntKind.i64.wrap ((l.length : Int) - 2) = (l.length : Int) - 2 := by rw [IntKind.wrap_i64]; omega
  have hih := in_has l.length i
  cases hb : hasB l.length i 2
  · have HV : Hid (turnL l i = l) := by rw [Hid, turnL, turnOk, hb]; rfl
    rw [hb] at hih
    go_enter Try.func19, Try.ntmps19
    go_wp2_with fail
    refine (in_any _ _ _ _).mono ?_
    rintro e w1 ⟨rfl, hw⟩
    subst hw
    rw [hih]
    go_wp2
    go_ret
    exact ⟨one_str (by rw [HV.out]), Below.refl _ _⟩
  · have hin := hasB_in hb
    rw [hb] at hih
    obtain ⟨k, rfl⟩ := Int.eq_ofNat_of_zero_le hin.1
    have hk : k + 2 ≤ l.length := by omega
    have HP : Hid _ := piece_eq l k 2
    have hk1 : (k : Int) ≤ (k : Int) + 2 := by omega
    have hk2 : (k : Int) + 2 ≤ (l.length : Int) := by omega
    have hpl : ((l.drop k).take 2).length ≤ 1099511627776 := by simp; omega
    cases hd : within 48 57 ((l.drop k).take 2)
    · have HV : Hid (turnL l k = l) := by rw [Hid, turnL, turnOk, hb, Int.toNat_natCast, hd]; rfl
      clear hin hb
      go_enter Try.func19, Try.ntmps19
      go_wp2_with fail
      refine (in_any _ _ _ _).mono ?_
      rintro e w1 ⟨rfl, hw⟩
      subst hw
      rw [hih]
      clear hih
      go_wp2_with fail
      rw [HP.out]
      refine (sDigits_any _ _ hpl).mono ?_
      rintro e w1 ⟨rfl, hw⟩
      subst hw
      rw [hd]
      go_wp2
      go_ret
      exact ⟨one_str (by rw [HV.out]), Below.refl _ _⟩
    · have HV : Hid (turnL l k = turnK l k) := by rw [Hid, turnL, turnOk, hb, Int.toNat_natCast, hd]; rfl
      obtain ⟨cap5, w5, hcv, hba, b5⟩ := conv_bytes l w
      have HB5 : Hid (Below w.heap.size w w5) := b5
      have hc1 : (⟨l.toArray⟩ : ByteArray)[k + 1]'(by rw [ba_size]; omega) = l.getD (k + 1) 0 := (byte_at l (k + 1) (by omega)).symm
      have hc0 : (⟨l.toArray⟩ : ByteArray)[k]'(by rw [ba_size]; omega) = l.getD k 0 := (byte_at l k (by omega)).symm
      obtain ⟨x, hx⟩ : ∃ x, l.getD (k + 1) 0 = x := ⟨_, rfl⟩
      obtain ⟨y, hy⟩ : ∃ y, l.getD k 0 = y := ⟨_, rfl⟩
      rw [hx] at hc1
      rw [hy] at hc0
      have f0 := hba.2 k (by omega)
      have f1 := hba.2 (k + 1) (by omega)
      rw [hx] at f1
      rw [hy] at f0
      have x0 : w5.cell? ⟨w.heap.size, k, none⟩ = some (.int .u8 (y.toNat : Int)) := f0.1
      have z0 := f0.2
      have x1 : w5.cell? ⟨w.heap.size, k + 1, none⟩ = some (.int .u8 (x.toNat : Int)) := f1.1
      have z1 := f1.2
      have hb1 : BAt (w5.setCell ⟨w.heap.size, k, none⟩ (.int .u8 x.toNat)) w.heap.size (l.set k x) := hba.put (by omega) x
      have hb2 := hb1.put (i := k + 1) (by rw [List.length_set]; omega) y
      have HT : Hid ((l.set k x).set (k + 1) y = turnL l k) := by rw [Hid, HV.out, turnK, hx, hy]
      rw [HT.out] at hb2
      have hln : (turnL l k).length = l.length := by rw [← HT.out]; simp
      have hcv2 := hb2.text (cap := cap5)
      rw [hln] at hcv2
      have hki1 : (k : Int) < (l.length : Int) := by omega
      have hki2 : (k : Int) + 1 < (l.length : Int) := by omega
      clear hb hba b5 hx hy f0 f1 hb1 hb2 hln HT HV
      go_enter Try.func19, Try.ntmps19
      go_wp2_with fail
      refine (in_any _ _ _ _).mono ?_
      rintro e w1 ⟨rfl, hw⟩
      subst hw
      rw [hih]
      clear hih
      go_wp2_with fail
      rw [HP.out]
      refine (sDigits_any _ _ hpl).mono ?_
      rintro e w1 ⟨rfl, hw⟩
      subst hw
      rw [hd]
      clear hd hpl HP
      go_wp2
      go_ret
      exact ⟨rfl, (HB5.out.setCell (Nat.le_refl _) _).setCell (Nat.le_refl _) _⟩

end Go.Proofs.Ytiiechnbionhnaa
