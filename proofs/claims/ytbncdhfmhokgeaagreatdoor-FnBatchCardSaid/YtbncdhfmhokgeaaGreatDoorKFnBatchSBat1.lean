/- The contracts of the specification's l06Head and l06Tail. -/
import Derived.Test.YtbncdhfmhokgeaaGreatDoorKFnBatchFBat2
import Derived.Test.YtbncdhfmhokgeaaGreatDoorJFnBatch0a
namespace Go.Proofs.YtbncdhfmhokgeaaGreatDoor
open Go.RowKit
set_option maxRecDepth 100000

set_option maxHeartbeats 400000 in
theorem l06Head_any (w : World) :
    Calls Tryz.prog 61 #[] w fun e w' => e = .returned (.agg #[.int .i64 1644, .slice (some ⟨w.heap.size + 1, 0, none⟩) 2 2]) ∧ FldsAt w' (some ⟨w.heap.size + 1, 0, none⟩) head1 ∧ Below w.heap.size w w' := by
  go_enter Tryz.func61, Tryz.ntmps61
  go_wp2
  go_returns
  refine ⟨rfl, ?_, ?_⟩
  · refine .inr ⟨w.heap.size + 1, 0, rfl, by simp, fun i hi => ?_⟩
    have hi2 : i < 2 := by simpa [head1] using hi
    rcases (show i = 0 ∨ i = 1 by omega) with rfl | rfl
    · exact ⟨by simp [go_sem, at0, head1], by simp [go_sem, at0, head1]⟩
    · exact ⟨by simp [go_sem, at0, head1], by simp [go_sem, at0, head1]⟩
  · go_grown

/-- what l06Tail answers -/
def TailR (w : World) (ms : List Msg) (e : Ending) (w' : World) : Prop :=
  ∃ kd ao n cap, e = .returned (.tuple #[.agg #[.int .i64 kd, .slice ao n cap], .bool (decide (sumA ms < 1000000000000))]) ∧ (sumA ms < 1000000000000 → kd = 1644 ∧ n = 3 ∧ FldsAt w' ao (tailF ms)) ∧ Below w.heap.size w w'

set_option maxHeartbeats 1600000 in
theorem l06Tail_any (ao : Option Addr) (cap : Nat) (xs : List MV) (w : World) (hz : MsgsAt w ao xs) (hs : SmallM xs) (hn : xs.length ≤ 198) (hok : allOk (plainM xs) = true) :
    Calls Tryz.prog 60 #[.slice ao xs.length cap] w (TailR w (plainM xs)) := by
  have HZ : Hid (MsgsAt w ao xs) := hz
  have HS : Hid (SmallM xs) := hs
  have HSB : Hid (∀ k, k ≤ xs.length → 0 ≤ sumA ((plainM xs).take k) ∧ sumA ((plainM xs).take k) ≤ 1000000000000 * 198) := fun k hk => by
    have := sum_bd (allOk_take hok k)
    rw [List.length_take, plainM_len] at this
    omega
  have HA : Hid (∀ k, k < xs.length → 0 ≤ amtOf ((vAt xs k).kd, (vAt xs k).fs) ∧ amtOf ((vAt xs k).kd, (vAt xs k).fs) < 1000000000000) := fun k hk => amt_bd (allOk_mem hok _ (plainM_mem (vAt_mem hk)))
  obtain ⟨W, hW⟩ : ∃ W, W = w.alloc (.cells #[.int .i64 0, .slice none 0 0] 26) := ⟨_, rfl⟩
  have HB : Hid (Below w.heap.size w W) := by rw [hW, Hid]; go_grown
  have HX : Hid (W.cell? ⟨w.heap.size, 0, none⟩ = some (.int .i64 0) ∧ W.cell? ⟨w.heap.size, 1, none⟩ = some (.slice none 0 0) ∧ W.frozen? ⟨w.heap.size, 0, none⟩ = false ∧ W.frozen? ⟨w.heap.size, 1, none⟩ = false) := by
    rw [hW, Hid]; exact ⟨by simp, by simp, by simp [go_sem], by simp [go_sem]⟩
  have hsW : w.heap.size < W.heap.size := by rw [hW]; simp
  clear hz hs hok
  go_enter Tryz.func60, Tryz.ntmps60
  go_wp2
  rw [← hW]
  clear hW
  go_loopw [4, 5] (fun s i wr => ∃ (k : Nat), k ≤ xs.length ∧ i = .int .i64 k ∧ s = .int .i64 (sumA ((plainM xs).take k)) ∧ Below W.heap.size W wr) (fun _ i _ => xs.length - (intOf i).toNat)
  case atStart => exact ⟨0, Nat.zero_le _, rfl, rfl, Below.refl _ _⟩
  case round =>
    obtain ⟨k, hk, rfl, rfl, hbr⟩ := hrel
    have hsb := HSB.out k hk
    have hbw := next HB.out hbr
    by_cases hlt : k < xs.length
    · obtain ⟨b, off, rfl, hb, c1, c2, hf⟩ := (HZ.out.below hbw).at hlt
      have hki : (k : Int) < (xs.length : Int) := by omega
      have hst := sumA_step (plainM xs) k (by rw [plainM_len]; exact hlt)
      rw [plainM_at hlt] at hst
      have hsm := HS.out _ (vAt_mem hlt)
      have ham := HA.out k hlt
      obtain ⟨⟨kd, fa, fc, fs⟩, hx⟩ : ∃ x, vAt xs k = x := ⟨_, rfl⟩
      rw [hx] at c1 c2 hf hst hsm ham
      simp only at c1 c2 hf hst hsm ham
      obtain ⟨S, hS⟩ : ∃ S, sumA ((plainM xs).take k) = S := ⟨_, rfl⟩
      rw [hS] at hst hsb ⊢
      have HCF : Hid (FldsAt wr fa fs) := hf
      clear hx hS hf
      have HST : Hid _ := hst
      clear hst hbw
      cases hd : fOf fs 4 with
      | none =>
        have HN : Hid (sumA ((plainM xs).take (k + 1)) = S) := by rw [Hid, HST.out, amtOf]; simp only [hd]; simp
        have HC : Hid (Calls Tryz.prog 107 #[.agg #[.int .i64 kd, .slice fa fs.length fc], .int .i64 4] wr fun e w' => e = .returned (.tuple #[.string ⟨#[]⟩, .bool false]) ∧ Below wr.heap.size wr w') := by
          have := sFieldOf_any kd fa fc fs 4 _ HCF.out hsm.1
          rw [hd] at this; exact this
        clear hd HCF ham
        go_wp2_with fail
        refine HC.out.mono ?_
        rintro e w2 ⟨rfl, b2⟩
        have q2 := next hbr b2
        clear HC b2
        go_wp2
        go_roundw
        case rel => exact ⟨k + 1, by omega, by go_num, by rw [HN.out], q2⟩
        case measure => simp [intOf]; omega
      | some d =>
        have hdl := fOf_len hd
        have HN : Hid (sumA ((plainM xs).take (k + 1)) = S + numOf d) := by rw [Hid, HST.out, amtOf]; simp only [hd]; simp
        have hnb : 0 ≤ numOf d ∧ numOf d < 1000000000000 := by have h := ham; rw [amtOf] at h; simp only [hd] at h; simpa using h
        have HC : Hid (Calls Tryz.prog 107 #[.agg #[.int .i64 kd, .slice fa fs.length fc], .int .i64 4] wr fun e w' => e = .returned (.tuple #[.string ⟨d.toArray⟩, .bool true]) ∧ Below wr.heap.size wr w') := by
          have := sFieldOf_any kd fa fc fs 4 _ HCF.out hsm.1
          rw [hd] at this; exact this
        have HD : Hid (d.length ≤ 1099511627776) := by rw [Hid]; omega
        clear hd HCF ham hdl
        go_wp2_with fail
        refine HC.out.mono ?_
        rintro e w2 ⟨rfl, b2⟩
        have q2 := next hbr b2
        clear HC b2
        go_wp2_with fail
        refine (sNumOf_any d _ HD.out).mono ?_
        rintro e w3 ⟨rfl, hw3⟩
        rw [hw3]
        clear hw3
        obtain ⟨A, hA⟩ : ∃ A, numOf d = A := ⟨_, rfl⟩
        rw [hA] at HN hnb ⊢
        clear hA
        go_wp2
        go_roundw
        case rel => exact ⟨k + 1, by omega, by go_num, by rw [HN.out], q2⟩
        case measure => simp [intOf]; omega
    · have hke : k = xs.length := by omega
      subst hke
      have hS0 : (plainM xs).take xs.length = plainM xs := List.take_of_length_le (by rw [plainM_len]; exact Nat.le_refl _)
      rw [hS0] at hsb ⊢
      have hki : ¬ (xs.length : Int) < (xs.length : Int) := by omega
      have HTF : Hid (tailF (plainM xs) = [(4, padT (sumA (plainM xs)) 12), (24, [54, 57, 53]), (71, padT (xs.length : Nat) 8)]) := by rw [Hid, tailF, plainM_len]
      obtain ⟨F, hF⟩ : ∃ F, tailF (plainM xs) = F := ⟨_, rfl⟩
      obtain ⟨S, hS⟩ : ∃ S, sumA (plainM xs) = S := ⟨_, rfl⟩
      rw [hF] at HTF
      rw [hS] at HTF hsb ⊢
      have HFE : Hid _ := hF
      have HSE : Hid _ := hS
      clear hS0 hF hS HZ HSB HA HS
      by_cases hbig : (1000000000000 : Int) ≤ S
      · obtain ⟨x0, x1, x2, x3⟩ := HX.out
        have x0 := (hbr.cell (p := ⟨w.heap.size, 0, none⟩) hsW).trans x0
        have x1 := (hbr.cell (p := ⟨w.heap.size, 1, none⟩) hsW).trans x1
        have x2 := (hbr.frozen (p := ⟨w.heap.size, 0, none⟩) hsW).trans x2
        have x3 := (hbr.frozen (p := ⟨w.heap.size, 1, none⟩) hsW).trans x3
        have HQ : Hid (Below w.heap.size w ((wr.setCell ⟨w.heap.size, 0, none⟩ (.int .i64 0)).setCell ⟨w.heap.size, 1, none⟩ (.slice none 0 0))) := (hbw.setCell (Nat.le_refl _) _).setCell (Nat.le_refl _) _
        have HBG : Hid ((1000000000000 : Int) ≤ S) := hbig
        go_wp2
        refine bodyPost_ret (by simp [results, Tryz.results60, go_sem, x0, x1]; try rfl) rfl ?_
        exact ⟨0, none, 0, 0, by rw [HSE.out, decide_eq_false (by have := HBG.out; omega)], fun h => by have := HBG.out; rw [HSE.out] at h; omega, HQ.out⟩
      · have hbig' : S < 1000000000000 := by omega
        have HSM : Hid (S < 1000000000000) := hbig'
        go_wp2_with fail
        refine (sPadNum_any _ _ _).mono ?_
        rintro e w2 ⟨rfl, b2⟩
        have q2 := next hbr b2
        obtain ⟨A, hA⟩ : ∃ A, padT S 12 = A := ⟨_, rfl⟩
        rw [hA] at HTF ⊢
        clear b2 hA
        go_wp2_with fail
        refine (sPadNum_any _ _ _).mono ?_
        rintro e w3 ⟨rfl, b3⟩
        have q3 := next q2 b3
        obtain ⟨C, hC⟩ : ∃ C, padT ((xs.length : Nat) : Int) 8 = C := ⟨_, rfl⟩
        rw [hC] at HTF ⊢
        clear b3 hC
        have hs3 : w.heap.size < w3.heap.size := Nat.lt_of_lt_of_le hsW q3.size
        obtain ⟨x0, x1, x2, x3⟩ := HX.out
        have x0 := (q3.cell (p := ⟨w.heap.size, 0, none⟩) hsW).trans x0
        have x1 := (q3.cell (p := ⟨w.heap.size, 1, none⟩) hsW).trans x1
        have x2 := (q3.frozen (p := ⟨w.heap.size, 0, none⟩) hsW).trans x2
        have x3 := (q3.frozen (p := ⟨w.heap.size, 1, none⟩) hsW).trans x3
        have q33 := next HB.out q3
        obtain ⟨V, hV⟩ : ∃ V, V = (w3.setCell ⟨w.heap.size, 0, none⟩ (.int .i64 1644)).setCell ⟨w.heap.size, 1, none⟩ (.slice (some ⟨w3.heap.size, 0, none⟩) 3 3) := ⟨_, rfl⟩
        have y0 : V.cell? ⟨w.heap.size, 0, none⟩ = some (.int .i64 1644) := by rw [hV]; simp [go_sem, x0]
        have y1 : V.cell? ⟨w.heap.size, 1, none⟩ = some (.slice (some ⟨w3.heap.size, 0, none⟩) 3 3) := by rw [hV]; simp [go_sem, x1]
        have hVs : V.heap.size = w3.heap.size := by rw [hV]; simp
        have hsV : w.heap.size < V.heap.size := by omega
        have bV : Below w.heap.size w V := by rw [hV]; exact (q33.setCell (Nat.le_refl _) _).setCell (Nat.le_refl _) _
        have HFL : Hid (FldsAt (V.alloc (.cells #[.int .i64 4, .string ⟨A.toArray⟩, .int .i64 24, .string ⟨#[54, 57, 53]⟩, .int .i64 71, .string ⟨C.toArray⟩] 60)) (some ⟨w3.heap.size, 0, none⟩) F) := by
          rw [Hid, HTF.out, ← hVs]; exact flds3 V 4 24 71 A [54, 57, 53] C _
        have HQ : Hid (Below w.heap.size w (V.alloc (.cells #[.int .i64 4, .string ⟨A.toArray⟩, .int .i64 24, .string ⟨#[54, 57, 53]⟩, .int .i64 71, .string ⟨C.toArray⟩] 60))) := bV.alloc bV.size _
        have z0 : ∀ o, (V.alloc o).cell? ⟨w.heap.size, 0, none⟩ = some (.int .i64 1644) := fun o => (World.cell?_alloc_lt _ _ ⟨w.heap.size, 0, none⟩ hsV).trans y0
        have z1 : ∀ o, (V.alloc o).cell? ⟨w.heap.size, 1, none⟩ = some (.slice (some ⟨w3.heap.size, 0, none⟩) 3 3) := fun o => (World.cell?_alloc_lt _ _ ⟨w.heap.size, 1, none⟩ hsV).trans y1
        have HY : Hid _ := And.intro z0 z1
        have HV : Hid _ := hV
        clear bV y0 y1 hV hVs hsV z0 z1
        have hne3 : ¬ w3.heap.size = w.heap.size := by omega
        have hne4 : ¬ w.heap.size = w3.heap.size := by omega
        go_wp2
        rw [← HV.out]
        obtain ⟨y0, y1⟩ := HY.out
        refine bodyPost_ret (by simp [results, Tryz.results60, go_sem, y0, y1]; try rfl) rfl ?_
        exact ⟨1644, _, 3, 3, by rw [HSE.out, decide_eq_true HSM.out], fun _ => ⟨rfl, rfl, by rw [HFE.out]; exact HFL.out⟩, HQ.out⟩

end Go.Proofs.YtbncdhfmhokgeaaGreatDoor
