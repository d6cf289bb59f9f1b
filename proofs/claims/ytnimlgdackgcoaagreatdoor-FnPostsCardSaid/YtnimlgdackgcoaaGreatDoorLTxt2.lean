/- The contracts of LedgerText, the specification's and the program's. -/
import Derived.Test.YtnimlgdackgcoaaGreatDoorLTxt
namespace Go.Proofs.YtnimlgdackgcoaaGreatDoor
open Go.RowKit
set_option maxRecDepth 100000

theorem lineT_ne (x : Ln) : lineT x ≠ [] := by simp [lineT]
theorem textL_ne {ls : List Ln} (h : ls ≠ []) : textL ls ≠ [] := by
  cases ls with
  | nil => exact absurd rfl h
  | cons y r =>
    rw [textL, List.map_cons, Lib.join_cons]
    intro e
    exact lineT_ne y (List.append_eq_nil_iff.1 e).1
/-- what stands behind k lines, with what parts two -/
def preT (ls : List Ln) (k : Nat) : List UInt8 := if k = 0 then [] else textL (ls.take k) ++ [59]
theorem textL_step (ls : List Ln) (k : Nat) (h : k < ls.length) : textL (ls.take (k + 1)) = preT ls k ++ lineT (lnAt ls k) := by
  cases k with
  | zero => rw [Nat.zero_add, textL_first ls h]; rfl
  | succ k => rw [textL_next ls k h, preT, if_neg (by omega)]
theorem infoS : (Tryz.prog.info? 9).map (fun i => (i.zero, i.size, i.bytes)) = some (some (.string ByteArray.empty), 1, 16) := by kernel_rfl

set_option maxHeartbeats 3200000 in
theorem sLedgerText_any (ao : Option Addr) (cap : Nat) (ls : List Ln) (w : World) (hz : LinesAt w ao ls) (hn : ls.length ≤ 1099511627776) :
    Calls Tryz.prog 16 #[.agg #[.slice ao ls.length cap]] w fun e w' => e = .returned (.string ⟨(ledT ls).toArray⟩) ∧ Below w.heap.size w w' := by
  obtain ⟨W, hW⟩ : ∃ W, W = w.alloc (.cells #[.slice ao ls.length cap] 26) := ⟨_, rfl⟩
  have bW : Below w.heap.size w W := by rw [hW]; go_grown
  have l0 : W.cell? ⟨w.heap.size, 0, none⟩ = some (.slice ao ls.length cap) := by rw [hW]; simp
  have HZ : Hid (LinesAt W ao ls) := hz.below bW
  have HBW : Hid (Below w.heap.size w W) := bW
  clear hz bW
  cases hL : ledgerOk ls
  · have HE : Hid _ := ledT_no hL
    have HC : Hid (Calls Tryz.prog 10 #[.agg #[.slice ao ls.length cap]] W fun e w' => e = .returned (.bool false) ∧ Below W.heap.size W w') := by
      have h := sLedgerOk_any ao cap ls W HZ.out hn
      rw [hL] at h; exact h
    clear hL
    go_enter Tryz.func16, Tryz.ntmps16
    go_upto_region 1 with fail
    rw [← hW]
    clear hW
    go_wp2_with fail
    refine HC.out.mono ?_
    rintro e w1 ⟨rfl, b1⟩
    have q1 := next HBW.out b1
    clear b1
    go_wp2
    go_ret
    exact ⟨one_str (by rw [HE.out]), q1⟩
  have HC : Hid (Calls Tryz.prog 10 #[.agg #[.slice ao ls.length cap]] W fun e w' => e = .returned (.bool true) ∧ Below W.heap.size W w') := by
    have h := sLedgerOk_any ao cap ls W HZ.out hn
    rw [hL] at h; exact h
  have HOK : Hid (∀ x ∈ ls, lnOk x = true) := linesOk_mem (by simp only [ledgerOk, Bool.and_eq_true] at hL; exact hL.1)
  have hl4 : ls.length ≤ 400 := by simp only [ledgerOk, Bool.and_eq_true, decide_eq_true_eq] at hL; exact hL.2.1
  have HLK : Hid (ledgerOk ls = true) := hL
  clear hL
  go_enter Tryz.func16, Tryz.ntmps16
  go_upto_region 1 with fail
  rw [← hW]
  clear hW
  go_wp2_with fail
  refine HC.out.mono ?_
  rintro e w1 ⟨rfl, b1⟩
  have q1 := next HBW.out b1
  have HZ1 : Hid (LinesAt w1 ao ls) := HZ.out.below b1
  have HL1 : Hid (w1.cell? ⟨w.heap.size, 0, none⟩ = some (.slice ao ls.length cap)) := (b1.cell (p := ⟨w.heap.size, 0, none⟩) (World.block_lt_of_cell? W _ l0)).trans l0
  have hws : w.heap.size < w1.heap.size := World.block_lt_of_cell? w1 _ HL1.out
  clear b1 l0 HC HZ
  go_wp2
  go_loopw [3, 4] (fun o i wr => ∃ k : Nat, k ≤ ls.length ∧ i = .int .i64 k ∧ o = .string ⟨(textL (ls.take k)).toArray⟩ ∧ Below w1.heap.size w1 wr) (fun _ i _ => ls.length - (intOf i).toNat)
  case atStart => exact ⟨0, Nat.zero_le _, rfl, rfl, Below.refl _ _⟩
  case round =>
    obtain ⟨k, hk, rfl, rfl, hbr⟩ := hrel
    have l1 := (hbr.cell (p := ⟨w.heap.size, 0, none⟩) hws).trans HL1.out
    by_cases hlt : k < ls.length
    · have hki : (k : Int) < (ls.length : Int) := by omega
      obtain ⟨b, off, rfl, hb2, c1, c2, c3⟩ := (HZ1.out.below hbr).at hlt
      have HST : Hid _ := textL_step ls k hlt
      have hok := HOK.out _ (lnAt_mem hlt)
      have hTl := textL_le (ls := ls.take k) (fun x hx => HOK.out x (List.mem_of_mem_take hx))
      obtain ⟨⟨x, y, z⟩, hx⟩ : ∃ x, lnAt ls k = x := ⟨_, rfl⟩
      rw [hx] at c1 c2 c3 HST hok
      simp only at c1 c2 c3
      obtain ⟨h1, h2, h3, _⟩ := lnOk_is hok
      have hc := cur_mem h2
      simp [curL] at hc
      simp only at h1 h2 h3 hc
      have t1 := dec_len x.toNat (by omega)
      have t2 := dec_len y.toNat (by omega)
      have t3 := moneyT_le (x := z) (cur := y)
      obtain ⟨A, hA⟩ : ∃ q, Lib.decDigits x.toNat = q := ⟨_, rfl⟩
      obtain ⟨C, hC⟩ : ∃ q, Lib.decDigits y.toNat = q := ⟨_, rfl⟩
      obtain ⟨M, hM⟩ : ∃ q, moneyT z y = q := ⟨_, rfl⟩
      rw [hA] at t1
      rw [hC] at t2
      rw [hM] at t3
      have HLT : Hid (lineT (x, y, z) = A ++ [32] ++ C ++ [32] ++ M) := by rw [Hid, lineT]; simp only [hA, hC, hM]
      obtain ⟨V, hV⟩ : ∃ V, V = wr.alloc (.cells #[.int .i64 x, .int .i64 y, .int .i64 z] 49) := ⟨_, rfl⟩
      have HBV : Hid (Below w1.heap.size w1 V) := by rw [Hid, hV]; exact hbr.alloc hbr.size _
      have hne := over_ne V
      have g0 := over_cell (W := V) (a := ⟨wr.heap.size, 0, none⟩) (v := .int .i64 x) (by rw [hV]; simp)
      have g1 := over_cell (W := V) (a := ⟨wr.heap.size, 1, none⟩) (v := .int .i64 y) (by rw [hV]; simp)
      have g2 := over_cell (W := V) (a := ⟨wr.heap.size, 2, none⟩) (v := .int .i64 z) (by rw [hV]; simp)
      have HIA : Hid (∀ z : Over V, Calls Tryz.prog 38 #[.int .i64 x] z.x fun e w' => e = .returned (.string ⟨A.toArray⟩) ∧ Below z.x.heap.size z.x w') := fun u => by rw [← hA]; exact dec_nn _ (by omega) (by omega)
      have HIC : Hid (∀ z : Over V, Calls Tryz.prog 38 #[.int .i64 y] z.x fun e w' => e = .returned (.string ⟨C.toArray⟩) ∧ Below z.x.heap.size z.x w') := fun u => by rw [← hC]; exact dec_nn _ (by omega) (by omega)
      have HIM : Hid (∀ u : Over V, Calls Tryz.prog 39 #[.int .i64 z, .int .i64 y] u.x fun e w' => e = .returned (.string ⟨M.toArray⟩) ∧ Below u.x.heap.size u.x w') := fun u => by rw [← hM]; exact sMoneyText_any z y u.x
      have htk : (ls.take k).length = k := by simp; omega
      rw [htk] at hTl
      obtain ⟨T, hT⟩ : ∃ T, textL (ls.take k) = T := ⟨_, rfl⟩
      have HT0 : Hid (k = 0 → T = [] ∧ preT ls k = []) := by rintro rfl; exact ⟨by rw [← hT]; rfl, rfl⟩
      have HTS : Hid (k ≠ 0 → preT ls k = T ++ [59]) := by intro h; rw [preT, if_neg h, hT]
      rw [hT] at hTl
      rw [hT]
      clear hA hC hM hok h1 h2 h3 hc hx htk hT
      by_cases h0 : k = 0
      · have hkp : ¬ (0 : Int) < (k : Int) := by omega
        have HPR : Hid (T = [] ∧ preT ls k = []) := HT0.out h0
        clear HT0 HTS h0
        go_upto_region 10 with fail
        rw [← hV]
        clear hV
        refine wp_region_over (by kernel_rfl) (by kernel_rfl) ?_
        repeat (go_big_quiet_step (first | with_reducible exact over_of (HIA.out _) | with_reducible exact over_of (HIC.out _) | with_reducible exact over_of (HIM.out _)))
        refine wpQuiet_nil ?_
        rintro w6 ⟨⟨wz, b6⟩, hw6⟩
        subst hw6
        have HB6 : Hid (Below w1.heap.size w1 w6) := next HBV.out b6
        clear b6 g0 g1 g2 hne HIA HIC HIM c1 c2 c3 l1
        go_wp2
        go_roundw
        case rel => exact ⟨k + 1, by omega, by go_num, by rw [HST.out, HPR.out.2, HLT.out, HPR.out.1, show (⟨#[32]⟩ : ByteArray) = ⟨[32].toArray⟩ from rfl, ba_append, ba_append, ba_append, ba_append, ba_append]; simp, HB6.out⟩
        case measure => simp [intOf]; omega
      · have HPR : Hid (preT ls (k) = T ++ [59]) := HTS.out h0
        have hkp : (0 : Int) < (k : Int) := by omega
        clear HT0 HTS h0
        go_upto_region 10 with fail
        rw [← hV]
        clear hV
        refine wp_region_over (by kernel_rfl) (by kernel_rfl) ?_
        repeat (go_big_quiet_step (first | with_reducible exact over_of (HIA.out _) | with_reducible exact over_of (HIC.out _) | with_reducible exact over_of (HIM.out _)))
        refine wpQuiet_nil ?_
        rintro w6 ⟨⟨wz, b6⟩, hw6⟩
        subst hw6
        have HB6 : Hid (Below w1.heap.size w1 w6) := next HBV.out b6
        clear b6 g0 g1 g2 hne HIA HIC HIM c1 c2 c3 l1
        go_wp2
        go_roundw
        case rel => exact ⟨k + 1, by omega, by go_num, by rw [HST.out, HPR.out, HLT.out, show (⟨#[32]⟩ : ByteArray) = ⟨[32].toArray⟩ from rfl, show (⟨#[59]⟩ : ByteArray) = ⟨[59].toArray⟩ from rfl, ba_append, ba_append, ba_append, ba_append, ba_append, ba_append]; simp, HB6.out⟩
        case measure => simp [intOf]; omega
    · have hke : k = ls.length := by omega
      subst hke
      have hki : ¬ (ls.length : Int) < (ls.length : Int) := by omega
      rw [List.take_length]
      have q2 := next q1 hbr
      by_cases h0 : ls = []
      · have HE : Hid _ := ledT_none HLK.out h0
        have hT : textL ls = [] := by rw [h0]; rfl
        rw [hT]
        clear h0 hT hbr
        go_wp2
        go_ret
        exact ⟨one_str (by rw [HE.out]), q2⟩
      · have HE : Hid _ := ledT_yes HLK.out h0
        have hT := textL_ne h0
        obtain ⟨T, hTe⟩ : ∃ T, textL ls = T := ⟨_, rfl⟩
        rw [hTe] at hT HE ⊢
        clear h0 hbr hTe
        cases T with
        | nil => exact absurd rfl hT
        | cons c r =>
        clear hT
        go_wp2
        go_ret
        exact ⟨one_str (by rw [HE.out]), q2⟩

end Go.Proofs.YtnimlgdackgcoaaGreatDoor
