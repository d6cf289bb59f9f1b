/- The text of an authorization, plainly; the contracts of AuthText, the program's and the specification's. -/
import Derived.Test.YtpjfigjgamlcdaaDoorXMTxt
import Derived.Test.YtpjfigjgamlcdaaDoorYDTxt
import Derived.Test.YtpjfigjgamlcdaaDoorFAuOk
import Derived.Test.YtpjfigjgamlcdaaDoorSAuOk
import Derived.Test.YtpjfigjgamlcdaaDoorAuBox
import Derived.Test.YtpjfigjgamlcdaaDoorOver
import Derived.Deep.RegionHeld3
import Derived.Deep.DeepCutAuto
import Derived.Sort.Grow
namespace Go.Proofs.YtpjfigjgamlcdaaDoor.Mo
open Go.RowKit

theorem mtxt_le (x : Int) (d : Nat) (h1 : -1000000000000 ≤ x) (h2 : x ≤ 1000000000000) (hd : d ≤ 3) : (mtxt x d).length ≤ 30 := by
  have hs : (Lib.decDigits x.natAbs).length ≤ 21 := dec_len _ (by omega)
  have hp := pad_len d (Lib.decDigits x.natAbs)
  have hq : (pointed d (Lib.decDigits x.natAbs)).length ≤ 23 := by
    by_cases h0 : d = 0
    · rw [pointed, if_pos h0]; omega
    · rw [pointed_pos h0]
      simp only [List.length_append, List.length_cons, List.length_take, List.length_drop]
      omega
  unfold mtxt
  split
  · simp only [List.length_append, List.length_cons, List.length_nil]; omega
  · rw [List.nil_append]; omega
theorem moneyT_le {x cur : Int} : (moneyT x cur).length ≤ 30 := by
  unfold moneyT
  split
  · rename_i h
    simp only [textOk, Bool.and_eq_true, decide_eq_true_eq] at h
    have hb := mOk_bd h.1
    have := digs_bd cur
    exact mtxt_le _ _ hb.1 hb.2 (by omega)
  · simp

end Go.Proofs.YtpjfigjgamlcdaaDoor.Mo
namespace Go.Proofs.YtpjfigjgamlcdaaDoor
open Go.RowKit
set_option maxRecDepth 100000

def decI (n : Int) : List UInt8 := Lib.decDigits n.toNat
def useT (u : Bool) : List UInt8 := if u = true then [117, 115, 101, 100] else [102, 114, 101, 101]
def authT (a : Au) : List UInt8 := if auOk a = true then a.ref ++ [32] ++ decI a.iss ++ [32] ++ decI a.cur ++ [32] ++ Mo.moneyT a.am a.cur ++ [32] ++ Dt.dtxt a.day ++ [32] ++ useT a.used else []
theorem authT_no {a : Au} (h : auOk a = false) : authT a = [] := if_neg (by rw [h]; decide)
theorem authT_yes {a : Au} (h : auOk a = true) : authT a = a.ref ++ [32] ++ decI a.iss ++ [32] ++ decI a.cur ++ [32] ++ Mo.moneyT a.am a.cur ++ [32] ++ Dt.dtxt a.day ++ [32] ++ useT a.used := if_pos h
theorem au_small {a : Au} (h : auOk a = true) : a.ref.length = 12 ∧ (1 ≤ a.iss ∧ a.iss ≤ 9999) ∧ (0 ≤ a.cur ∧ a.cur ≤ 1000) ∧ (1 ≤ a.am ∧ a.am ≤ 100000000000) ∧ dOk a.day = true := by
  obtain ⟨h1, h2, h3, h4, h5⟩ := auOk_parts h
  have hr : a.ref.length = 12 := by simp [refOk] at h1; exact h1.1
  have hi : 1 ≤ a.iss ∧ a.iss ≤ 9999 := by simpa [acctOk] using h2
  refine ⟨hr, hi, ?_, h4, h5⟩
  have hc : isCur a.cur = true := by rw [isCur_iff]; exact decide_eq_true h3
  rcases cur_cases hc with h | h | h | h | h | h | h | h <;> omega
theorem grow_below (w : World) (q : Nat) (os : Array Obj) : Below w.heap.size w (Go.Sort.grow (w.drewN q) os) :=
  ⟨rfl, rfl, rfl, by simp [Go.Sort.grow, World.drewN], fun k hk => by simp [Go.Sort.grow, World.drewN, Array.getElem?_append, hk]⟩
theorem itoaI {n : Int} {w : World} (h0 : 0 ≤ n) (h1 : n ≤ 1000000000000) (ht : Mo.Pow10 w) :
    Calls Tryd.prog 78 #[.int .i64 n] w fun e w' => e = .returned (.string ⟨(decI n).toArray⟩) ∧ Below w.heap.size w w' := by
  refine (Tryd.strconv_Itoa n (by omega) (by omega) w ht).mono ?_
  rintro e w' ⟨rfl, k, os, rfl⟩
  exact ⟨by rw [Lib.itoa, if_neg (by omega)]; rfl, grow_below w k os⟩
theorem decII {n : Int} (w : World) (h0 : 0 ≤ n) (h1 : n ≤ 1000000000000) :
    Calls Tryd.prog 74 #[.int .i64 n] w fun e w' => e = .returned (.string ⟨(decI n).toArray⟩) ∧ Below w.heap.size w w' := by
  obtain ⟨m, rfl⟩ := Int.eq_ofNat_of_zero_le h0
  refine (Mo.dec_up m w (by omega)).mono ?_
  rintro e w' ⟨rfl, rfl⟩
  exact ⟨rfl, Below.refl _ _⟩
theorem join6 (r A C M D F : List UInt8) : Lib.join [r, A, C, M, D, F] [32] = r ++ [32] ++ A ++ [32] ++ C ++ [32] ++ M ++ [32] ++ D ++ [32] ++ F := by
  simp [Lib.join]

set_option maxHeartbeats 6400000 in
theorem sAuthText_any (a : Au) (w : World) (hl : a.ref.length ≤ 1099511627776) :
    Calls Tryd.prog 36 #[auv a] w fun e w' => e = .returned (.string ⟨(authT a).toArray⟩) ∧ Below w.heap.size w w' := by
  obtain ⟨q, hq⟩ : ∃ q, auOk a = q := ⟨_, rfl⟩
  have HO : Hid (∀ u, Calls Tryd.prog 73 #[auv a] u fun e w' => e = .returned (.bool q) ∧ Below u.heap.size u w') := fun u => by rw [← hq]; exact sAuthOk_any a u hl
  obtain ⟨W, hW⟩ : ∃ W, W = w.alloc (.cells #[.string ⟨a.ref.toArray⟩, .int .i64 a.iss, .int .i64 a.cur, .int .i64 a.am, .int .i64 a.day, .bool a.used] 61) := ⟨_, rfl⟩
  have B : AuB w.heap.size a W := by rw [hW]; exact AuB.new w a _
  have HBB : Hid (AuB w.heap.size a W) := B
  have HBW : Hid (Below w.heap.size w W) := by rw [Hid, hW]; exact (Below.refl _ _).alloc (Nat.le_refl _) _
  cases q
  · have HE : Hid (authT a = []) := authT_no hq
    clear hq HBB hl
    obtain ⟨r, i, c, m, d, u⟩ := a
    unfold auv at HO ⊢
    simp only at hW HO ⊢
    have HW : Hid _ := hW
    obtain ⟨f0, f1, f2, f3, f4, f5⟩ := B
    clear hW
    go_enter Tryd.func36, Tryd.ntmps36
    go_upto_region 1 with fail
    rw [← HW.out]
    go_wp2_with fail
    refine (HO.out _).mono ?_
    rintro e u1 ⟨rfl, b1⟩
    have HB1 : Hid (Below w.heap.size w u1) := next HBW.out b1
    clear b1 f0 f1 f2 f3 f4 f5
    go_wp2
    go_ret
    exact ⟨one_str (by rw [HE.out]), HB1.out⟩
  obtain ⟨h1, h2, h3, h4, h5⟩ := au_small hq
  have HE : Hid (authT a = a.ref ++ [32] ++ decI a.iss ++ [32] ++ decI a.cur ++ [32] ++ Mo.moneyT a.am a.cur ++ [32] ++ Dt.dtxt a.day ++ [32] ++ useT a.used) := authT_yes hq
  have HIA : Hid (∀ v, Calls Tryd.prog 74 #[.int .i64 a.iss] v fun e w' => e = .returned (.string ⟨(decI a.iss).toArray⟩) ∧ Below v.heap.size v w') := fun v => decII v (by omega) (by omega)
  have HIC : Hid (∀ v, Calls Tryd.prog 74 #[.int .i64 a.cur] v fun e w' => e = .returned (.string ⟨(decI a.cur).toArray⟩) ∧ Below v.heap.size v w') := fun v => decII v (by omega) (by omega)
  have HIM : Hid (∀ v, Calls Tryd.prog 75 #[.int .i64 a.am, .int .i64 a.cur] v fun e w' => e = .returned (.string ⟨(Mo.moneyT a.am a.cur).toArray⟩) ∧ Below v.heap.size v w') := fun v => Mo.sMoneyText_any a.am a.cur v
  have HID : Hid (∀ v, Calls Tryd.prog 76 #[.int .i64 a.day] v fun e w' => e = .returned (.string ⟨(Dt.dtxt a.day).toArray⟩) ∧ Below v.heap.size v w') := fun v => Dt.sDateText_any a.day v
  have l1 : (decI a.iss).length ≤ 21 := Mo.dec_len _ (by omega)
  have l2 : (decI a.cur).length ≤ 21 := Mo.dec_len _ (by omega)
  have l3 : (Mo.moneyT a.am a.cur).length ≤ 30 := Mo.moneyT_le
  have l4 : (Dt.dtxt a.day).length ≤ 10 := by rw [(Dt.dtxt_props h5).1]; omega
  obtain ⟨A, hA⟩ : ∃ x, decI a.iss = x := ⟨_, rfl⟩
  obtain ⟨C, hC⟩ : ∃ x, decI a.cur = x := ⟨_, rfl⟩
  obtain ⟨M, hM⟩ : ∃ x, Mo.moneyT a.am a.cur = x := ⟨_, rfl⟩
  obtain ⟨D, hD⟩ : ∃ x, Dt.dtxt a.day = x := ⟨_, rfl⟩
  rw [hA] at HE HIA l1
  rw [hC] at HE HIC l2
  rw [hM] at HE HIM l3
  rw [hD] at HE HID l4
  clear hA hC hM hD hq h2 h3 h4 h5 hl
  obtain ⟨r, i, c, m, d, u⟩ := a
  unfold auv at HO ⊢
  simp only at hW HO HE HIA HIC HIM HID h1 ⊢
  have HW : Hid _ := hW
  obtain ⟨f0, f1, f2, f3, f4, f5⟩ := B
  clear hW
  cases u
  all_goals
    go_enter Tryd.func36, Tryd.ntmps36
    go_upto_region 1 with fail
    rw [← HW.out]
    go_wp2_with fail
    refine (HO.out _).mono ?_
    rintro e u1 ⟨rfl, b1⟩
    have HB1 : Hid (Below w.heap.size w u1) := next HBW.out b1
    have B1 := HBB.out.below b1
    clear b1 f0 f1 f2 f3 f4 f5
    obtain ⟨f0, f1, f2, f3, f4, f5⟩ := B1
    simp only at f0 f1 f2 f3 f4 f5
    go_upto_region 6 with fail
    have hne := over_ne u1
    have g0 := over_cell f0
    have g1 := over_cell f1
    have g2 := over_cell f2
    have g3 := over_cell f3
    have g4 := over_cell f4
    refine wp_region_over (by kernel_rfl) (by kernel_rfl) ?_
    repeat (go_big_quiet_step (first | with_reducible exact over_of (HIA.out _) | with_reducible exact over_of (HIC.out _) | with_reducible exact over_of (HIM.out _) | with_reducible exact over_of (HID.out _)))
    refine wpQuiet_nil ?_
    rintro w6 ⟨⟨wz, b6⟩, hw6⟩
    subst hw6
    have HB6 : Hid (Below w.heap.size w w6) := next HB1.out b6
    clear b6 g0 g1 g2 g3 g4 hne HIA HIC HIM HID f0 f1 f2 f3 f4 f5
    go_wp2
    go_ret
    exact ⟨one_str (by rw [HE.out]; simp only [useT, ba_append]; try rfl), HB6.out⟩

set_option maxHeartbeats 6400000 in
theorem iAuthText_any (a : Au) (w : World) (hl : a.ref.length ≤ 1099511627776) (hc : wf64 a.cur) (ht : MonthTab w) (hp : Mo.Pow10 w) :
    Calls Tryd.prog 38 #[auv a] w fun e w' => e = .returned (.string ⟨(authT a).toArray⟩) ∧ Below w.heap.size w w' := by
  obtain ⟨q, hq⟩ : ∃ q, auOk a = q := ⟨_, rfl⟩
  have HO : Hid (∀ u, Calls Tryd.prog 77 #[auv a] u fun e w' => e = .returned (.bool q) ∧ Below u.heap.size u w') := fun u => by rw [← hq]; exact iAuthOk_any a u hl hc
  obtain ⟨W, hW⟩ : ∃ W, W = w.alloc (.cells #[.string ⟨a.ref.toArray⟩, .int .i64 a.iss, .int .i64 a.cur, .int .i64 a.am, .int .i64 a.day, .bool a.used] 61) := ⟨_, rfl⟩
  have B : AuB w.heap.size a W := by rw [hW]; exact AuB.new w a _
  have HBB : Hid (AuB w.heap.size a W) := B
  have HBW : Hid (Below w.heap.size w W) := by rw [Hid, hW]; exact (Below.refl _ _).alloc (Nat.le_refl _) _
  cases q
  · have HE : Hid (authT a = []) := authT_no hq
    clear hq HBB hl hc ht hp
    obtain ⟨r, i, c, m, d, u⟩ := a
    unfold auv at HO ⊢
    simp only at hW HO ⊢
    have HW : Hid _ := hW
    obtain ⟨f0, f1, f2, f3, f4, f5⟩ := B
    clear hW
    go_enter Tryd.func38, Tryd.ntmps38
    go_upto_region 1 with fail
    rw [← HW.out]
    go_wp2_with fail
    refine (HO.out _).mono ?_
    rintro e u1 ⟨rfl, b1⟩
    have HB1 : Hid (Below w.heap.size w u1) := next HBW.out b1
    clear b1 f0 f1 f2 f3 f4 f5
    go_wp2
    go_ret
    exact ⟨one_str (by rw [HE.out]), HB1.out⟩
  obtain ⟨h1, h2, h3, h4, h5⟩ := au_small hq
  have HE : Hid (authT a = a.ref ++ [32] ++ decI a.iss ++ [32] ++ decI a.cur ++ [32] ++ Mo.moneyT a.am a.cur ++ [32] ++ Dt.dtxt a.day ++ [32] ++ useT a.used) := authT_yes hq
  have HIA : Hid (∀ v, Below w.heap.size w v → Calls Tryd.prog 78 #[.int .i64 a.iss] v fun e w' => e = .returned (.string ⟨(decI a.iss).toArray⟩) ∧ Below v.heap.size v w') := fun v hv => itoaI (by omega) (by omega) (Mo.Pow10.below hp hv)
  have HIC : Hid (∀ v, Below w.heap.size w v → Calls Tryd.prog 78 #[.int .i64 a.cur] v fun e w' => e = .returned (.string ⟨(decI a.cur).toArray⟩) ∧ Below v.heap.size v w') := fun v hv => itoaI (by omega) (by omega) (Mo.Pow10.below hp hv)
  have HIM : Hid (∀ v, Below w.heap.size w v → Calls Tryd.prog 79 #[.int .i64 a.am, .int .i64 a.cur] v fun e w' => e = .returned (.string ⟨(Mo.moneyT a.am a.cur).toArray⟩) ∧ Below v.heap.size v w') := fun v hv => Mo.iMoneyText_any a.am a.cur v hc (Mo.Pow10.below hp hv)
  have HID : Hid (∀ v, Below w.heap.size w v → Calls Tryd.prog 80 #[.int .i64 a.day] v fun e w' => e = .returned (.string ⟨(Dt.dtxt a.day).toArray⟩) ∧ Below v.heap.size v w') := fun v hv => Dt.iDateText_any a.day v (MonthTab.below ht hv) (Dt.Pow10.below hp hv)
  have l1 : (decI a.iss).length ≤ 21 := Mo.dec_len _ (by omega)
  have l2 : (decI a.cur).length ≤ 21 := Mo.dec_len _ (by omega)
  have l3 : (Mo.moneyT a.am a.cur).length ≤ 30 := Mo.moneyT_le
  have l4 : (Dt.dtxt a.day).length ≤ 10 := by rw [(Dt.dtxt_props h5).1]; omega
  obtain ⟨A, hA⟩ : ∃ x, decI a.iss = x := ⟨_, rfl⟩
  obtain ⟨C, hC⟩ : ∃ x, decI a.cur = x := ⟨_, rfl⟩
  obtain ⟨M, hM⟩ : ∃ x, Mo.moneyT a.am a.cur = x := ⟨_, rfl⟩
  obtain ⟨D, hD⟩ : ∃ x, Dt.dtxt a.day = x := ⟨_, rfl⟩
  rw [hA] at HE HIA l1
  rw [hC] at HE HIC l2
  rw [hM] at HE HIM l3
  rw [hD] at HE HID l4
  obtain ⟨F, hF⟩ : ∃ x, useT a.used = x := ⟨_, rfl⟩
  have l5 : F.length = 4 := by rw [← hF]; unfold useT; split <;> rfl
  have HFF : Hid (useT a.used = F) := hF
  rw [hF] at HE
  have HJ : Hid (∀ (v : World) (bk : Nat), bk < v.heap.size → v.cell? ⟨bk, 0, none⟩ = some (.string ⟨a.ref.toArray⟩) → v.cell? ⟨bk, 1, none⟩ = some (.string ⟨A.toArray⟩) → v.cell? ⟨bk, 2, none⟩ = some (.string ⟨C.toArray⟩) → v.cell? ⟨bk, 3, none⟩ = some (.string ⟨M.toArray⟩) → v.cell? ⟨bk, 4, none⟩ = some (.string ⟨D.toArray⟩) → v.cell? ⟨bk, 5, none⟩ = some (.string ⟨F.toArray⟩) →
      Calls Tryd.prog 81 #[.slice (some ⟨bk, 0, none⟩) 6 6, .string ⟨#[32]⟩] v fun e w' => e = .returned (.string ⟨(a.ref ++ [32] ++ A ++ [32] ++ C ++ [32] ++ M ++ [32] ++ D ++ [32] ++ F).toArray⟩) ∧ Below v.heap.size v w') := fun v bk hb c0 c1 c2 c3 c4 c5 => by
    have hjn : Lib.join (([⟨a.ref.toArray⟩, ⟨A.toArray⟩, ⟨C.toArray⟩, ⟨M.toArray⟩, ⟨D.toArray⟩, ⟨F.toArray⟩] : List ByteArray).map (·.data.toList)) (⟨#[32]⟩ : ByteArray).data.toList = a.ref ++ [32] ++ A ++ [32] ++ C ++ [32] ++ M ++ [32] ++ D ++ [32] ++ F := join6 a.ref A C M D F
    have := Tryd.strings_Join bk 0 6 [⟨a.ref.toArray⟩, ⟨A.toArray⟩, ⟨C.toArray⟩, ⟨M.toArray⟩, ⟨D.toArray⟩, ⟨F.toArray⟩] ⟨#[32]⟩ v (fun j x hj => by
      rw [Nat.zero_add]
      have hlt : j < 6 := by have := (List.getElem?_eq_some_iff.1 hj).1; simpa using this
      rcases (show j = 0 ∨ j = 1 ∨ j = 2 ∨ j = 3 ∨ j = 4 ∨ j = 5 by omega) with rfl | rfl | rfl | rfl | rfl | rfl
      · simp at hj; rw [← hj]; exact c0
      · simp at hj; rw [← hj]; exact c1
      · simp at hj; rw [← hj]; exact c2
      · simp at hj; rw [← hj]; exact c3
      · simp at hj; rw [← hj]; exact c4
      · simp at hj; rw [← hj]; exact c5) hb (by simp) (by simp) (by rw [hjn]; simp only [List.length_append, List.length_cons, List.length_nil]; omega)
    rw [hjn] at this
    exact this
  clear hA hC hM hD hF hq h2 h3 h4 h5 hl hc ht hp
  obtain ⟨r, i, c, m, d, u⟩ := a
  unfold auv at HO ⊢
  simp only at hW HO HE HIA HIC HIM HID HJ HFF h1 ⊢
  have HW : Hid _ := hW
  obtain ⟨f0, f1, f2, f3, f4, f5⟩ := B
  clear hW
  cases u
  · obtain rfl : F = [102, 114, 101, 101] := HFF.out.symm
    go_enter Tryd.func38, Tryd.ntmps38
    go_upto_region 1 with fail
    rw [← HW.out]
    go_wp2_with fail
    refine (HO.out _).mono ?_
    rintro e u1 ⟨rfl, b1⟩
    have HB1 : Hid (Below w.heap.size w u1) := next HBW.out b1
    have B1 := HBB.out.below b1
    have HKK : Hid (∀ v, Below u1.heap.size u1 v → v.cell? ⟨w.heap.size, 0, none⟩ = some (.string ⟨r.toArray⟩) ∧ v.cell? ⟨w.heap.size, 1, none⟩ = some (.int .i64 i) ∧ v.cell? ⟨w.heap.size, 2, none⟩ = some (.int .i64 c) ∧ v.cell? ⟨w.heap.size, 3, none⟩ = some (.int .i64 m) ∧ v.cell? ⟨w.heap.size, 4, none⟩ = some (.int .i64 d)) := fun v hv => by
      obtain ⟨t0, t1, t2, t3, t4, t5⟩ := B1.below hv
      exact ⟨t0, t1, t2, t3, t4⟩
    clear b1 f0 f1 f2 f3 f4 f5
    obtain ⟨f0, f1, f2, f3, f4, f5⟩ := B1
    simp only at f0 f1 f2 f3 f4 f5
    go_upto_region 6 with fail
    have q0 : Below u1.heap.size u1 u1 := Below.refl _ _
    go_region_held3 (fun w' => w'.cell? ⟨w.heap.size, 0, none⟩ = some (.string ⟨r.toArray⟩) ∧ w'.cell? ⟨w.heap.size, 1, none⟩ = some (.int .i64 i) ∧ w'.cell? ⟨w.heap.size, 2, none⟩ = some (.int .i64 c) ∧ w'.cell? ⟨w.heap.size, 3, none⟩ = some (.int .i64 m) ∧ w'.cell? ⟨w.heap.size, 4, none⟩ = some (.int .i64 d)) (first | exact HKK.out _ q4 | exact HKK.out _ q3 | exact HKK.out _ q2 | exact HKK.out _ q1 | exact HKK.out _ q0 | exact HKK.out _ (q4.alloc q4.size _) | exact HKK.out _ q0.drew | (simp [go_sem, World.cell?_alloc_some]; done)) ((first
      | (go_at_call_of 78 (Value.int .i64 i); (first | with_reducible refine (HIA.out _ (next HB1.out q0)).mono ?_ | with_reducible refine (HIA.out _ (next HB1.out q0.drew)).mono ?_ | refine (HIA.out _ (next HB1.out (by go_grown))).mono ?_); rintro e v1 ⟨rfl, b1⟩; have q1 : Below u1.heap.size u1 v1 := next (by go_grown) b1)
      | (go_at_call_of 78 (Value.int .i64 c); refine (HIC.out _ (next HB1.out q1)).mono ?_; rintro e v2 ⟨rfl, b2⟩; have q2 : Below u1.heap.size u1 v2 := next q1 b2)
      | (go_at_call 79; refine (HIM.out _ (next HB1.out q2)).mono ?_; rintro e v3 ⟨rfl, b3⟩; have q3 : Below u1.heap.size u1 v3 := next q2 b3)
      | (go_at_call 80; refine (HID.out _ (next HB1.out q3)).mono ?_; rintro e v4 ⟨rfl, b4⟩; have q4 : Below u1.heap.size u1 v4 := next q3 b4)))
    all_goals
      have HQ4 : Hid (Below w.heap.size w v4) := next HB1.out q4
      clear f0 f1 f2 f3 f4 f5
      go_wp2_with fail
      refine (HJ.out _ _ (by simp) (by simp) (by simp) (by simp) (by simp) (by simp) (by simp)).mono ?_
      rintro e v5 ⟨rfl, b5⟩
      have HB5 : Hid (Below w.heap.size w v5) := next (HQ4.out.alloc HQ4.out.size _) b5
      clear b5
      go_wp2
      go_ret
      exact ⟨one_str (by rw [HE.out]; simp), HB5.out⟩
  · obtain rfl : F = [117, 115, 101, 100] := HFF.out.symm
    go_enter Tryd.func38, Tryd.ntmps38
    go_upto_region 1 with fail
    rw [← HW.out]
    go_wp2_with fail
    refine (HO.out _).mono ?_
    rintro e u1 ⟨rfl, b1⟩
    have HB1 : Hid (Below w.heap.size w u1) := next HBW.out b1
    have B1 := HBB.out.below b1
    have HKK : Hid (∀ v, Below u1.heap.size u1 v → v.cell? ⟨w.heap.size, 0, none⟩ = some (.string ⟨r.toArray⟩) ∧ v.cell? ⟨w.heap.size, 1, none⟩ = some (.int .i64 i) ∧ v.cell? ⟨w.heap.size, 2, none⟩ = some (.int .i64 c) ∧ v.cell? ⟨w.heap.size, 3, none⟩ = some (.int .i64 m) ∧ v.cell? ⟨w.heap.size, 4, none⟩ = some (.int .i64 d)) := fun v hv => by
      obtain ⟨t0, t1, t2, t3, t4, t5⟩ := B1.below hv
      exact ⟨t0, t1, t2, t3, t4⟩
    clear b1 f0 f1 f2 f3 f4 f5
    obtain ⟨f0, f1, f2, f3, f4, f5⟩ := B1
    simp only at f0 f1 f2 f3 f4 f5
    go_upto_region 6 with fail
    have q0 : Below u1.heap.size u1 u1 := Below.refl _ _
    go_region_held3 (fun w' => w'.cell? ⟨w.heap.size, 0, none⟩ = some (.string ⟨r.toArray⟩) ∧ w'.cell? ⟨w.heap.size, 1, none⟩ = some (.int .i64 i) ∧ w'.cell? ⟨w.heap.size, 2, none⟩ = some (.int .i64 c) ∧ w'.cell? ⟨w.heap.size, 3, none⟩ = some (.int .i64 m) ∧ w'.cell? ⟨w.heap.size, 4, none⟩ = some (.int .i64 d)) (first | exact HKK.out _ q4 | exact HKK.out _ q3 | exact HKK.out _ q2 | exact HKK.out _ q1 | exact HKK.out _ q0 | exact HKK.out _ (q4.alloc q4.size _) | exact HKK.out _ q0.drew | (simp [go_sem, World.cell?_alloc_some]; done)) ((first
      | (go_at_call_of 78 (Value.int .i64 i); (first | with_reducible refine (HIA.out _ (next HB1.out q0)).mono ?_ | with_reducible refine (HIA.out _ (next HB1.out q0.drew)).mono ?_ | refine (HIA.out _ (next HB1.out (by go_grown))).mono ?_); rintro e v1 ⟨rfl, b1⟩; have q1 : Below u1.heap.size u1 v1 := next (by go_grown) b1)
      | (go_at_call_of 78 (Value.int .i64 c); refine (HIC.out _ (next HB1.out q1)).mono ?_; rintro e v2 ⟨rfl, b2⟩; have q2 : Below u1.heap.size u1 v2 := next q1 b2)
      | (go_at_call 79; refine (HIM.out _ (next HB1.out q2)).mono ?_; rintro e v3 ⟨rfl, b3⟩; have q3 : Below u1.heap.size u1 v3 := next q2 b3)
      | (go_at_call 80; refine (HID.out _ (next HB1.out q3)).mono ?_; rintro e v4 ⟨rfl, b4⟩; have q4 : Below u1.heap.size u1 v4 := next q3 b4)))
    all_goals
      have HQ4 : Hid (Below w.heap.size w v4) := next HB1.out q4
      clear f0 f1 f2 f3 f4 f5
      go_wp2_with fail
      refine (HJ.out _ _ (by simp) (by simp) (by simp) (by simp) (by simp) (by simp) (by simp)).mono ?_
      rintro e v5 ⟨rfl, b5⟩
      have HB5 : Hid (Below w.heap.size w v5) := next (HQ4.out.alloc HQ4.out.size _) b5
      clear b5
      go_wp2
      go_ret
      exact ⟨one_str (by rw [HE.out]; simp), HB5.out⟩

end Go.Proofs.YtpjfigjgamlcdaaDoor
