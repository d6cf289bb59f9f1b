/- The contracts of the specification's Mask, and of Turned, the program's and the specification's. -/
import Derived.Test.YtiiechnbionhnaaFCard3
namespace Go.Proofs.Ytiiechnbionhnaa
open Go.RowKit
set_option maxRecDepth 100000

theorem BAt.put {w : World} {g i : Nat} {l : List UInt8} (h : BAt w g l) (hi : i < l.length) (c : UInt8) : BAt (w.setCell ⟨g, i, none⟩ (.int .u8 c.toNat)) g (l.set i c) := by
  refine ⟨by simpa using h.1, fun j hj => ?_⟩
  rw [List.length_set] at hj
  refine ⟨?_, by rw [World.frozen?_setCell]; exact (h.2 j hj).2⟩
  by_cases hji : j = i
  · subst hji
    rw [World.cell?_setCell_same _ _ _ (h.2 j hj).1]
    simp [List.getD_eq_getElem?_getD, hj, cell]
  · rw [World.cell?_setCell_other _ _ _ _ (by simp), (h.2 j hj).1]
    simp [List.getD_eq_getElem?_getD, Ne.symm hji]

/-- behind j rounds -/
def starL (l : List UInt8) (j : Nat) : List UInt8 := l.take 6 ++ (List.replicate j 42 ++ l.drop (6 + j))
theorem star_zero (l : List UInt8) : starL l 0 = l := by simp [starL]
theorem star_len {l : List UInt8} {j : Nat} (h : 6 + j ≤ l.length) : (starL l j).length = l.length := by simp [starL]; omega
theorem star_step {l : List UInt8} {j : Nat} (h : 6 + j < l.length) : (starL l j).set (6 + j) 42 = starL l (j + 1) := by
  refine List.ext_getElem (by rw [List.length_set, star_len (by omega), star_len (by omega)]) fun i h1 h2 => ?_
  rw [List.getElem_set]
  simp only [starL, List.getElem_append, List.length_take, List.length_replicate, List.getElem_take, List.getElem_replicate, List.getElem_drop]
  have hm : min 6 l.length = 6 := by omega
  simp only [hm]
  by_cases h6 : i < 6
  · rw [if_neg (by omega), dif_pos h6, dif_pos h6]
  · rw [dif_neg h6, dif_neg h6]
    by_cases hj : i - 6 < j
    · rw [if_neg (by omega), dif_pos hj, dif_pos (by omega)]
    · by_cases he : 6 + j = i
      · rw [if_pos he, dif_pos (by omega)]
      · rw [if_neg he, dif_neg hj, dif_neg (by omega)]
        congr 1
        omega
theorem star_mask {l : List UInt8} (hc : cardOk l = true) : starL l (l.length - 10) = maskL l := by
  have h := (card_in hc).1
  rw [maskL, hc, if_pos rfl, starL, show 6 + (l.length - 10) = l.length - 4 from by omega]

set_option maxHeartbeats 1600000 in
theorem sMask_any (l : List UInt8) (w : World) (hl : l.length ≤ 1099511627776) :
    Calls Try.prog 15 #[.string ⟨l.toArray⟩] w fun e w' => e = .returned (.string ⟨(maskL l).toArray⟩) ∧ Below w.heap.size w w' := by
  cases hc : cardOk l
  · have HV : Hid (maskL l = []) := by rw [Hid, maskL, hc]; rfl
    go_enter Try.func15, Try.ntmps15
    go_wp2_with fail
    refine (sCardOk_any l _ hl).mono ?_
    rintro e w1 ⟨rfl, hw⟩
    subst hw
    rw [hc]
    go_wp2
    go_ret
    exact ⟨one_str (by rw [HV.out]), Below.refl _ _⟩
  · have HM : Hid _ := star_mask hc
    have hin := (card_in hc).1
    have hw4 : IntKind.i64.wrap ((l.length : Int) - 4) = (l.length : Int) - 4 := by rw [IntKind.wrap_i64]; omega
    obtain ⟨cap5, w5, hcv, hba, b5⟩ := conv_bytes l w
    have HBA : Hid (BAt w5 w.heap.size l) := hba
    have HB5 : Hid (Below w.heap.size w w5) := b5
    clear hba b5
    go_enter Try.func15, Try.ntmps15
    go_wp2_with fail
    refine (sCardOk_any l _ hl).mono ?_
    rintro e w1 ⟨rfl, hw⟩
    subst hw
    rw [hc]
    clear hc
    go_wp2
    go_loopw [4] (fun v wr => ∃ j : Nat, 6 + j + 4 ≤ l.length ∧ v = .int .i64 ((6 + j : Nat) : Int) ∧ BAt wr w1.heap.size (starL l j) ∧ Below w1.heap.size w1 wr) (fun v _ => l.length - (intOf v).toNat)
    case atStart => exact ⟨0, by omega, rfl, by rw [star_zero]; exact HBA.out, HB5.out⟩
    case round =>
      obtain ⟨j, hj, rfl, hba, hbi⟩ := hrel
      have HBI : Hid (BAt wr w1.heap.size (starL l j)) := hba
      have HBi : Hid _ := hbi
      clear hba hbi
      obtain ⟨i, hi⟩ : ∃ i, 6 + j = i := ⟨_, rfl⟩
      by_cases hil : i + 4 < l.length
      · have hii : (i : Int) < (l.length : Int) - 4 := by omega
        have hcell := HBI.out.2 i (by rw [star_len (by omega)]; omega)
        have x1 := hcell.1
        have x2 := hcell.2
        have hil2 : (i : Int) < (l.length : Int) := by omega
        have HR : Hid (BAt (wr.setCell ⟨w1.heap.size, i, none⟩ (.int .u8 42)) w1.heap.size (starL l (j + 1))) := by
          rw [Hid, ← star_step (by omega), hi]
          exact HBI.out.put (by rw [star_len (by omega)]; omega) 42
        rw [hi]
        generalize cell ((starL l j).getD i 0) = cc at x1
        clear hcell
        go_wp2
        go_roundw
        case rel => exact ⟨j + 1, by omega, by congr 1; omega, HR.out, HBi.out.setCell (Nat.le_refl _) _⟩
        case measure => simp [intOf]; omega
      · have hii : (l.length : Int) - 4 ≤ (i : Int) := by omega
        have hje : j = l.length - 10 := by omega
        rw [hje, HM.out] at HBI
        have hln : (maskL l).length = l.length := by rw [← HM.out]; exact star_len (by omega)
        have hcv2 := HBI.out.text (cap := cap5)
        rw [hln] at hcv2
        rw [hi]
        clear hln
        go_wp2
        go_ret
        exact ⟨rfl, HBi.out⟩

end Go.Proofs.Ytiiechnbionhnaa
