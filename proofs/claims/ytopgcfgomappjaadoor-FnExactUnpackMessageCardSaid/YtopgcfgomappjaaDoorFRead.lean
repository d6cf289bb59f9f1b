/- The contracts of the program's readers of a message's parts: each answers, or it panics with a fault. -/
import Derived.Test.YtopgcfgomappjaaDoorFGetF
import Derived.Test.YtopgcfgomappjaaDoorFGSet
import Derived.WalkLawsBesides
namespace Go.Proofs.YtopgcfgomappjaaDoor
open Go.RowKit

def faultV (c a : Int) : Value := .iface 61 (.agg #[.int .i64 c, .int .i64 a])
/-- a panic with a fault of the message -/
def faultE (c a : Int) : Ending := .panicked [{ v := faultV c a, recovered := false }]

def kindE (l : List UInt8) : Ending := if kindOk l = true then .returned (.int .i64 (numOf (l.take 4))) else faultE 1 0
theorem kindE_no {l : List UInt8} (h : kindOk l = false) : kindE l = faultE 1 0 := by unfold kindE; rw [h]; rfl
theorem kindE_yes {l : List UInt8} (h : kindOk l = true) : kindE l = .returned (.int .i64 (numOf (l.take 4))) := by unfold kindE; rw [h]; rfl
theorem four_eq (l : List UInt8) : (⟨l.toArray⟩ : ByteArray).extract 0 4 = ⟨(l.take 4).toArray⟩ := piece_eq l 0 4

set_option maxRecDepth 100000 in
set_option maxHeartbeats 800000 in
theorem readKind_any (l : List UInt8) (w : World) (hl : l.length ≤ 1048576) :
    Calls Tryd.prog 60 #[.string ⟨l.toArray⟩] w fun e w' => e = kindE l ∧ w' = w := by
  cases hb : hasB l.length 0 4
  · have HK : Hid _ := kindE_no (l := l) (by simp [kindOk, hb])
    go_enter Tryd.func60, Tryd.ntmps60
    go_wp2_with fail
    refine (hasBytes_any _ _ _ _ (by omega)).mono ?_
    rintro e w1 ⟨rfl, hw1⟩
    subst hw1
    rw [hb]
    go_wp2
    exact ⟨rfl, HK.out.symm, rfl⟩
  · have hin := hasB_in hb
    have i2 : (4 : Int) ≤ (l.length : Int) := by omega
    have HP : Hid _ := four_eq l
    have hpl : (l.take 4).length ≤ 1099511627776 := by simp; omega
    cases hd : within 48 57 (l.take 4)
    · have HK : Hid _ := kindE_no (l := l) (by simp [kindOk, hd])
      have HB : Hid _ := hb
      clear hb hin
      go_enter Tryd.func60, Tryd.ntmps60
      go_wp2_with fail
      refine (hasBytes_any _ _ _ _ (by omega)).mono ?_
      rintro e w1 ⟨rfl, hw1⟩
      subst hw1
      rw [HB.out]
      go_wp2_with fail
      rw [HP.out]
      refine (iDigits_any _ _ hpl).mono ?_
      rintro e w1 ⟨rfl, hw1⟩
      subst hw1
      rw [hd]
      go_wp2
      exact ⟨rfl, HK.out.symm, rfl⟩
    · have HK : Hid _ := kindE_yes (l := l) (by simp [kindOk, hd, hb])
      have HB : Hid _ := hb
      clear hb hin
      go_enter Tryd.func60, Tryd.ntmps60
      go_wp2_with fail
      refine (hasBytes_any _ _ _ _ (by omega)).mono ?_
      rintro e w1 ⟨rfl, hw1⟩
      subst hw1
      rw [HB.out]
      go_wp2_with fail
      rw [HP.out]
      refine (iDigits_any _ _ hpl).mono ?_
      rintro e w1 ⟨rfl, hw1⟩
      subst hw1
      rw [hd]
      go_wp2_with fail
      rw [HP.out]
      refine (iNumOf_any _ _ hpl).mono ?_
      rintro e w1 ⟨rfl, hw1⟩
      subst hw1
      go_wp2
      go_ret
      exact ⟨HK.out.symm, rfl⟩

/-- a list of one's own and a place, or a fault -/
def Nums (w : World) (l : List UInt8) (e : Ending) (w' : World) : Prop :=
  if getSI l 4 < 0 then e = faultE 2 4 ∧ Below w.heap.size w w' else Sets w (getSL l 4) (getSI l 4) e w'

set_option maxRecDepth 100000 in
set_option maxHeartbeats 800000 in
theorem readNums_any (l : List UInt8) (w : World) (hl : l.length ≤ 1048576) :
    Calls Tryd.prog 61 #[.string ⟨l.toArray⟩] w fun e w' => Nums w l e w' := by
  go_enter Tryd.func61, Tryd.ntmps61
  go_wp2_with fail
  refine (iGetSet_any _ _ _ hl).mono ?_
  rintro e w1 ⟨ao, cap, rfl, ho, hb⟩
  have HU : Hid _ := show Nums w l = fun e w' => (if getSI l 4 < 0 then e = faultE 2 4 ∧ Below w.heap.size w w' else Sets w (getSL l 4) (getSI l 4) e w') from rfl
  obtain ⟨p, hp⟩ : ∃ p, getSI l 4 = p := ⟨_, rfl⟩
  rw [hp] at HU ⊢
  by_cases h : p < 0
  · have HQ : Hid (∀ w', Below w.heap.size w w' → Nums w l (faultE 2 4) w') := fun w' hb => by rw [HU.out]; simp only [if_pos h]; exact ⟨trivial, hb⟩
    clear hp HU
    go_wp2
    exact ⟨rfl, HQ.out _ hb⟩
  · have HQ : Hid (∀ e w', Sets w (getSL l 4) p e w' → Nums w l e w') := fun e w' hs => by rw [HU.out]; simp only [if_neg h]; exact hs
    have h' : 0 ≤ p := by omega
    clear hp HU h
    go_wp2
    go_ret2
    exact HQ.out _ _ ⟨ao, cap, rfl, ho, hb⟩

end Go.Proofs.YtopgcfgomappjaaDoor
