/- AddWork and WorkBetween, the specification's. -/
import Derived.Test.YtlmbddifogmlbaaIBet
namespace Go.Proofs.Ytlmbddifogmlbaa
open Go.RowKit

set_option maxHeartbeats 1000000 in
theorem sAdd_any (d n : Int) (ao : Option Addr) (c : Nat) (zs : List Int) (w : World) (hx : IntsAt w ao zs) (h1 : zs.length ≤ 1099511627776) :
    Calls Try.prog 11 #[.int .i64 d, .int .i64 n, .slice ao zs.length c] w fun e w' => e = .returned (.tuple #[.int .i64 ((addV d n zs).getD 0), .bool (addV d n zs).isSome]) ∧ Below w.heap.size w w' := by
  have HX : Hid (IntsAt w ao zs) := hx
  clear hx
  cases hd : dOk d
  · have HN : Hid _ := addV_no (n := n) (zs := zs) (.inl hd)
    go_enter Try.func11, Try.ntmps11
    go_wp2_with fail
    refine (sDayOk_any _ _).mono ?_
    rintro e w' ⟨rfl, hw⟩
    subst hw
    go_wp2
    go_ret2
    exact ⟨two_eq (by rw [HN.out]; rfl) (by rw [HN.out]; rfl), Below.refl _ _⟩
  · cases hn : inB n 0 400
    · have HN : Hid (addV d n zs = none) := by
        refine addV_no ?_
        by_cases h0 : n < 0
        · exact .inr (.inl h0)
        · by_cases h4 : 400 < n
          · exact .inr (.inr (.inl h4))
          · rw [inB_pos (by omega) (by omega)] at hn; cases hn
      go_enter Try.func11, Try.ntmps11
      go_wp2_with fail
      refine (sDayOk_any _ _).mono ?_
      rintro e w' ⟨rfl, hw⟩
      subst hw
      go_wp2_with fail
      refine (in_any _ _ _ _).mono ?_
      rintro e w' ⟨rfl, hw⟩
      subst hw
      go_wp2
      go_ret2
      exact ⟨two_eq (by rw [HN.out]; rfl) (by rw [HN.out]; rfl), Below.refl _ _⟩
    · have hnb : 0 ≤ n ∧ n ≤ 400 := by simpa [inB] using hn
      cases ho : offOk zs
      · have HN : Hid _ := addV_no (d := d) (n := n) (.inr (.inr (.inr ho)))
        go_enter Try.func11, Try.ntmps11
        go_wp2_with fail
        refine (sDayOk_any _ _).mono ?_
        rintro e w' ⟨rfl, hw⟩
        subst hw
        go_wp2_with fail
        refine (in_any _ _ _ _).mono ?_
        rintro e w' ⟨rfl, hw⟩
        subst hw
        go_wp2_with fail
        refine (sOff_any _ _ zs _ HX.out h1).mono ?_
        rintro e w1 ⟨rfl, b1⟩
        go_wp2
        go_ret2
        exact ⟨two_eq (by rw [HN.out]; rfl) (by rw [HN.out]; rfl), b1⟩
      · have HV : Hid _ := addV_yes hd hnb.1 hnb.2 ho
        have hdb := dOk_bd hd
        go_enter Try.func11, Try.ntmps11
        go_wp2_with fail
        refine (sDayOk_any _ _).mono ?_
        rintro e w' ⟨rfl, hw⟩
        subst hw
        go_wp2_with fail
        refine (in_any _ _ _ _).mono ?_
        rintro e w' ⟨rfl, hw⟩
        subst hw
        go_wp2_with fail
        refine (sOff_any _ _ zs _ HX.out h1).mono ?_
        rintro e w1 ⟨rfl, b1⟩
        have HX1 : Hid (IntsAt w1 ao zs) := IntsAt.below HX.out b1
        go_wp2
        go_loop [0, 1] (fun p q => ∃ (f m : Nat), f ≤ 80000 ∧ m ≤ 400 ∧ p = .int .i64 (80000 - f) ∧ q = .int .i64 m ∧ adv zs f m = adv zs (80000 - d).toNat n.toNat) (fun p _ => (80000 - intOf p).toNat)
        case atStart => exact ⟨(80000 - d).toNat, n.toNat, by omega, by omega, val_int (by omega), val_int (by omega), rfl⟩
        case round =>
          obtain ⟨f, m, hf, hm, rfl, rfl, ht⟩ := hrel
          have HT : Hid _ := ht
          clear ht
          obtain ⟨y, hy⟩ : ∃ y : Int, 80000 - (f : Int) = y := ⟨_, rfl⟩
          rw [hy]
          have hy1 : 0 ≤ y := by omega
          have hy2 : y ≤ 80000 := by omega
          have HY : Hid _ := hy
          cases m with
          | zero =>
            have HE : Hid (addV d n zs = some y) := by rw [Hid, HV.out, ← HT.out, adv_zero, hy]
            clear hy
            go_wp2
            go_ret2
            exact ⟨two_eq (by rw [HE.out]; rfl) (by rw [HE.out]; rfl), b1⟩
          | succ m =>
            have hmp : (0 : Int) < ((m + 1 : Nat) : Int) := by omega
            cases f with
            | zero =>
              have hye : y = 80000 := by omega
              have HE : Hid (addV d n zs = none) := by rw [Hid, HV.out, ← HT.out, adv_end]
              have hdk : dOk (y + 1) = false := dOk_neg (by omega)
              clear hy
              go_wp2_with fail
              refine (sDayOk_any _ _).mono ?_
              rintro e w' ⟨rfl, hw⟩
              subst hw
              go_wp2
              go_ret2
              exact ⟨two_eq (by rw [HE.out]; rfl) (by rw [HE.out]; rfl), b1⟩
            | succ f =>
              have HF : Hid (80000 - (f : Int) = y + 1) := by rw [Hid]; omega
              have hye : y ≤ 79999 := by omega
              have hdk : dOk (y + 1) = true := dOk_pos (by omega) (by omega)
              cases hw2 : wk zs (y + 1)
              · have HR : Hid (adv zs f (m + 1) = adv zs (80000 - d).toNat n.toNat) := by rw [Hid, ← HT.out, adv_no (by rw [HF.out]; exact hw2)]
                clear hy
                go_wp2_with fail
                refine (sDayOk_any _ _).mono ?_
                rintro e w' ⟨rfl, hw⟩
                subst hw
                go_wp2_with fail
                refine (sWorks2_any _ _ _ zs _ HX1.out h1 hdk).mono ?_
                rintro e w' ⟨rfl, hw⟩
                subst hw
                go_wp2
                go_round
                case rel => exact ⟨f, m + 1, by omega, hm, val_int HF.out.symm, rfl, HR.out⟩
                case measure => simp [intOf]; omega
              · have HR : Hid (adv zs f m = adv zs (80000 - d).toNat n.toNat) := by rw [Hid, ← HT.out, adv_yes (by rw [HF.out]; exact hw2)]
                clear hy
                go_wp2_with fail
                refine (sDayOk_any _ _).mono ?_
                rintro e w' ⟨rfl, hw⟩
                subst hw
                go_wp2_with fail
                refine (sWorks2_any _ _ _ zs _ HX1.out h1 hdk).mono ?_
                rintro e w' ⟨rfl, hw⟩
                subst hw
                go_wp2
                go_round
                case rel => exact ⟨f, m, by omega, by omega, val_int HF.out.symm, val_int (by omega), HR.out⟩
                case measure => simp [intOf]; omega

end Go.Proofs.Ytlmbddifogmlbaa
