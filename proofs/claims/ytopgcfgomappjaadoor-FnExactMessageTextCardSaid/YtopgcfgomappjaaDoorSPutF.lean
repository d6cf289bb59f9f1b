/- The contract of the specification's bytes of a right field. -/
import Derived.Test.YtopgcfgomappjaaDoorFPutF
import Derived.Test.YtopgcfgomappjaaDoorSPut
import Derived.Test.YtopgcfgomappjaaDoorFPutV
import Derived.Test.YtopgcfgomappjaaDoorBox
namespace Go.Proofs.YtopgcfgomappjaaDoor
open Go.RowKit

theorem putD_pk {d : List UInt8} (h : within 48 57 d = true) (hl : d.length ≤ 100) : (putD d).getD [] = pkD d := by rw [putD_yes h hl]; rfl
theorem putV_2 {d : List UInt8} (hl : d.length ≤ 99) : (putV d 2).getD [] = padT d.length 2 ++ d := by rw [putV_yes (by decide) (by simp [lim]; omega)]; rfl
theorem putV_3 {d : List UInt8} (hl : d.length ≤ 999) : (putV d 3).getD [] = padT d.length 3 ++ d := by rw [putV_yes (by decide) (by simp [lim]; omega)]; rfl

set_option maxRecDepth 100000 in
set_option maxHeartbeats 1600000 in
theorem l04Put_any (n : Int) (d : List UInt8) (w : World) (hok : fieldOk n d = true) :
    Calls Tryd.prog 19 #[.agg #[.int .i64 n, .string ⟨d.toArray⟩]] w fun e w' => e = .returned (.string ⟨(putFld n d).toArray⟩) ∧ Below w.heap.size w w' := by
  have hd : d.length ≤ 999 := by rcases fieldOk_K hok with h | h | h | h | h <;> omega
  have hl : d.length ≤ 1099511627776 := by omega
  have HOK : Hid _ := hok
  clear hok
  go_enter Tryd.func19, Tryd.ntmps19
  go_wp2_with fail
  refine (l04Form_any _ _).mono ?_
  rintro e w1 ⟨rfl, hw1⟩
  subst hw1
  go_wp2_with fail
  refine (sPutDigits_any _ _ hl).mono ?_
  rintro e w2 ⟨rfl, b2⟩
  obtain ⟨c0, c1, q2, _⟩ := box2 b2
  clear b2
  go_wp2_with fail
  refine (sPutVar_any _ _ _ hl).mono ?_
  rintro e w3 ⟨rfl, b3⟩
  obtain ⟨c0, c1⟩ := keep2 c0 c1 b3
  have q3 := next q2 b3
  clear b3 q2
  go_wp2_with fail
  refine (sPutVar_any _ _ _ hl).mono ?_
  rintro e w4 ⟨rfl, b4⟩
  obtain ⟨c0, c1⟩ := keep2 c0 c1 b4
  have q4 := next q3 b4
  clear b4 q3
  have HV2 : Hid (d.length ≤ 99 → (putV d 2).getD [] = padT d.length 2 ++ d) := fun h => putV_2 h
  have HV3 : Hid ((putV d 3).getD [] = padT d.length 3 ++ d) := putV_3 hd
  have HD : Hid (within 48 57 d = true → d.length ≤ 100 → (putD d).getD [] = pkD d) := putD_pk
  obtain ⟨v2, hv2⟩ : ∃ v, (putV d 2).getD [] = v := ⟨_, rfl⟩
  obtain ⟨v3, hv3⟩ : ∃ v, (putV d 3).getD [] = v := ⟨_, rfl⟩
  obtain ⟨dg', hdg⟩ : ∃ v, (putD d).getD [] = v := ⟨_, rfl⟩
  have hdl := putD_len d
  rw [hv2] at HV2 ⊢
  rw [hv3] at HV3 ⊢
  rw [hdg] at HD hdl ⊢
  clear hv2 hv3 hdg
  generalize (putV d 2).isSome = s2
  generalize (putV d 3).isSome = s3
  generalize (putD d).isSome = s1
  rcases fieldOk_K HOK.out with ⟨hk, _, hw, hx⟩ | ⟨hk, _, hw, hx⟩ | ⟨hk, _, hw, hx⟩ | ⟨hk, _, hw, hx⟩ | ⟨hk, _, hw, hx⟩
  · have HP : Hid _ := put1 (d := d) hk
    have HE : Hid _ := HD.out hw (by omega)
    rw [hk]
    clear hk
    go_wp2
    go_ret
    exact ⟨one_str (by rw [HP.out, HE.out]), q4⟩
  · have HP : Hid _ := put2 (d := d) hk
    have HE : Hid _ := HD.out hw (by omega)
    rw [hk]
    clear hk
    go_wp2_with fail
    refine (sPadNum_any _ _ _).mono ?_
    rintro e w5 ⟨rfl, b5⟩
    have hpl := padT_l d.length 2
    have q5 := next q4 b5
    clear b5 q4
    obtain ⟨p, hp⟩ : ∃ p, padT (↑d.length) 2 = p := ⟨_, rfl⟩
    rw [hp] at hpl ⊢
    have HPP : Hid _ := hp
    clear hp
    go_wp2
    go_ret
    exact ⟨one_str (by rw [HP.out, HPP.out, ← HE.out]; exact ba_append p dg'), q5⟩
  · have HP : Hid _ := put3 (d := d) hk
    rw [hk]
    clear hk
    go_wp2
    go_ret
    exact ⟨one_str (by rw [HP.out]), q4⟩
  · have HP : Hid _ := put4 (d := d) hk
    have HE : Hid _ := HV2.out (by omega)
    rw [hk]
    clear hk
    go_wp2
    go_ret
    exact ⟨one_str (by rw [HP.out, HE.out]), q4⟩
  · have HP : Hid _ := put5 (d := d) hk
    rw [hk]
    clear hk
    go_wp2
    go_ret
    exact ⟨one_str (by rw [HP.out, HV3.out]), q4⟩

end Go.Proofs.YtopgcfgomappjaaDoor
