/- The contracts of the program's join (of messages) and tailRecord. -/
import Derived.Test.YtbncdhfmhokgeaaGreatDoorJFnBatch3a
import Derived.Test.YtbncdhfmhokgeaaGreatDoorJFnBatch0a
namespace Go.Proofs.YtbncdhfmhokgeaaGreatDoor
open Go.RowKit
set_option maxRecDepth 100000

/-- two slices of messages, laid side by side in a block -/
def TwoM (w : World) (g : Nat) (a1 : Option Addr) (c1 : Nat) (a2 : Option Addr) (c2 : Nat) (xs ys : List MV) : Prop :=
  w.cell? ⟨g, 0, none⟩ = some (.slice a1 xs.length c1) ∧ w.cell? ⟨g, 1, none⟩ = some (.slice a2 ys.length c2) ∧ MsgsAt w a1 xs ∧ MsgsAt w a2 ys
theorem TwoM.below {w w' : World} {g : Nat} {a1 a2 : Option Addr} {c1 c2 : Nat} {xs ys : List MV} (h : TwoM w g a1 c1 a2 c2 xs ys) (hb : Below w.heap.size w w') : TwoM w' g a1 c1 a2 c2 xs ys := by
  obtain ⟨h1, h2, h3, h4⟩ := h
  have hg : g < w.heap.size := World.block_lt_of_cell? w _ h1
  exact ⟨(hb.cell (p := ⟨g, 0, none⟩) hg).trans h1, (hb.cell (p := ⟨g, 1, none⟩) hg).trans h2, h3.below hb, h4.below hb⟩

set_option maxHeartbeats 1600000 in
theorem joinM_any (g : Nat) (a1 a2 : Option Addr) (c1 c2 : Nat) (xs ys : List MV) (w : World) (h : TwoM w g a1 c1 a2 c2 xs ys) (hx : xs.length ≤ 1048576) (hy : ys.length ≤ 1048576) :
    Calls Tryz.prog 55 #[.slice (some ⟨g, 0, none⟩) 2 2] w fun e w' => ∃ v, e = .returned v ∧
      w'.ownsRow w.heap.size 26 2 v (xs.length + ys.length) (mcells (xs ++ ys)) ∧ Below w.heap.size w w' := by
  have HT : Hid (TwoM w g a1 c1 a2 c2 xs ys) := h
  obtain ⟨e1, e2, f1, f2⟩ := h
  have HF1 : Hid _ := f1
  clear f1 f2
  go_enter Tryz.func55, Tryz.ntmps55
  go_wp2
  refine wp_loop_rounds 3 ?_
  rw [rounds_succ]
  go_wp2_with (at_builtin; refine wpList_append_msgs _ rfl (.tmp 12) (.tmp 13) rfl w.heap.size _ 0 [] rfl (World.ownsRow_nil _ _ _ _) a1 c1 xs rfl HF1.out (by omega) (Nat.le_refl _) ?_; intro v2 w2 o2 g2 _)
  have q2 : Below w.heap.size w w2 := (Below.refl _ _).grown g2 (Nat.le_refl _) (fun k hk => by cases hk)
  obtain ⟨_, d2, f1, f2⟩ := HT.out.below q2
  have HF2 : Hid _ := f2
  have HO2 : Hid (w2.ownsRow w.heap.size 26 2 v2 (0 + xs.length) ([] ++ mcells xs)) := o2
  have hs2 := q2.size
  clear e1 e2 f1 f2 o2 g2 HF1
  go_wp2
  rw [rounds_succ]
  go_wp2_with (at_builtin; refine wpList_append_msgs _ rfl (.tmp 12) (.tmp 13) rfl w.heap.size _ _ _ rfl HO2.out a2 c2 ys rfl HF2.out (by omega) hs2 ?_; intro v3 w3 o3 g3 _)
  have q3 : Below w.heap.size w w3 := q2.grown g3 hs2 (fun k hk => (HO2.out.lt k hk).1)
  have HO3 : Hid (w3.ownsRow w.heap.size 26 2 v3 (xs.length + ys.length) (mcells (xs ++ ys))) := by
    rw [mcells_append]
    rw [Nat.zero_add, List.nil_append] at o3
    exact o3
  clear d2 o3 g3 HO2 hs2 HF2
  go_wp2
  rw [rounds_succ]
  go_wp2
  go_ret
  exact ⟨v3, rfl, HO3.out, q3⟩

theorem flds3 (w : World) (a b c : Int) (s t u : List UInt8) (ty : TypeId) : FldsAt (w.alloc (.cells #[.int .i64 a, .string ⟨s.toArray⟩, .int .i64 b, .string ⟨t.toArray⟩, .int .i64 c, .string ⟨u.toArray⟩] ty)) (some ⟨w.heap.size, 0, none⟩) [(a, s), (b, t), (c, u)] := by
  refine .inr ⟨w.heap.size, 0, rfl, by simp, fun i hi => ?_⟩
  have hi3 : i < 3 := by simpa using hi
  rcases (show i = 0 ∨ i = 1 ∨ i = 2 by omega) with rfl | rfl | rfl
  · exact ⟨by simp [go_sem, at0], by simp [go_sem, at0]⟩
  · exact ⟨by simp [go_sem, at0], by simp [go_sem, at0]⟩
  · exact ⟨by simp [go_sem, at0], by simp [go_sem, at0]⟩
theorem FldsAt.set2 {w : World} {g o B : Nat} {v : Value} {fs : List Fld} (h : FldsAt w (some ⟨g, 0, none⟩) fs) (hne : B < g) : FldsAt (w.setCell ⟨B, o, none⟩ v) (some ⟨g, 0, none⟩) fs := by
  rcases h with h | ⟨b, off, h1, h2, h3⟩
  · exact .inl h
  · obtain ⟨rfl, rfl⟩ : g = b ∧ 0 = off := by simpa using h1
    refine .inr ⟨g, 0, rfl, by simpa using h2, fun i hi => ?_⟩
    have a1 : (w.setCell ⟨B, o, none⟩ v).cell? ⟨g, 0 + i * 2, none⟩ = w.cell? ⟨g, 0 + i * 2, none⟩ := World.cell?_setCell_other _ _ _ _ (by first | (simp; done) | (simp; omega))
    have a2 : (w.setCell ⟨B, o, none⟩ v).cell? ⟨g, 0 + i * 2 + 1, none⟩ = w.cell? ⟨g, 0 + i * 2 + 1, none⟩ := World.cell?_setCell_other _ _ _ _ (by first | (simp; done) | (simp; omega))
    rw [a1, a2]; exact h3 i hi
theorem fOf_len {fs : List Fld} {n : Int} {d : List UInt8} (h : fOf fs n = some d) : d.length ≤ sumF fs := sumF_mem (fOf_mem h)
theorem packL_len (kd : Int) (fs : List Fld) : (packL kd fs).length ≤ 200000 := by
  cases h : msgOk kd fs
  · rw [packL_no h]; simp
  · have h1 := padT_l kd 4
    have h2 := setF_len fs
    have h3 := body_bd (msgOk_parts h).2 fs.length
    rw [List.take_of_length_le (Nat.le_refl _)] at h3
    rw [packL_yes h, List.length_append, List.length_append]; omega

/-- messages that a batch may hold: their sizes -/
def SmallM (xs : List MV) : Prop := ∀ x ∈ xs, x.fs.length ≤ 1048576 ∧ sumF x.fs ≤ 1048576

set_option maxHeartbeats 1600000 in
theorem tailRecord_any (ao : Option Addr) (cap : Nat) (xs : List MV) (w : World) (hz : MsgsAt w ao xs) (hs : SmallM xs) (hn : xs.length ≤ 198) (hok : allOk (plainM xs) = true) (ht : Pow10 w) :
    Calls Tryz.prog 58 #[.slice ao xs.length cap] w fun e w' => e = .returned (.tuple #[.string ⟨(packL 1644 (tailF (plainM xs))).toArray⟩, .bool (decide (sumA (plainM xs) < 1000000000000))]) ∧ Below w.heap.size w w' := by
  have HZ : Hid (MsgsAt w ao xs) := hz
  have HS : Hid (SmallM xs) := hs
  have HT : Hid (Pow10 w) := ht
  have HSB : Hid (∀ k, k ≤ xs.length → 0 ≤ sumA ((plainM xs).take k) ∧ sumA ((plainM xs).take k) ≤ 1000000000000 * 198) := fun k hk => by
    have := sum_bd (allOk_take hok k)
    rw [List.length_take, plainM_len] at this
    omega
  have HA : Hid (∀ k, k < xs.length → 0 ≤ amtOf ((vAt xs k).kd, (vAt xs k).fs) ∧ amtOf ((vAt xs k).kd, (vAt xs k).fs) < 1000000000000) := fun k hk => amt_bd (allOk_mem hok _ (plainM_mem (vAt_mem hk)))
  have HTO : Hid (msgOk 1644 (tailF (plainM xs)) = decide (sumA (plainM xs) < 1000000000000)) := tail_ok (sum_bd hok).1 (by rw [plainM_len]; exact hn)
  have HTB : Hid _ := tailF_bd (plainM xs)
  clear hz hs ht hok
  go_enter Tryz.func58, Tryz.ntmps58
  go_wp2
  go_loopw [4, 11] (fun s i wr => ∃ (k : Nat), k ≤ xs.length ∧ i = .int .i64 k ∧ s = .int .i64 (sumA ((plainM xs).take k)) ∧ Below w.heap.size w wr) (fun _ i _ => xs.length - (intOf i).toNat)
  case atStart => exact ⟨0, Nat.zero_le _, rfl, rfl, Below.refl _ _⟩
  case round =>
    obtain ⟨k, hk, rfl, rfl, hbr⟩ := hrel
    have hsb := HSB.out k hk
    by_cases hlt : k < xs.length
    · obtain ⟨b, off, rfl, hb, c1, c2, hf⟩ := (HZ.out.below hbr).at hlt
      have hki : (k : Int) < (xs.length : Int) := by omega
      have hst := sumA_step (plainM xs) k (by rw [plainM_len]; exact hlt)
      rw [plainM_at hlt] at hst
      have hsm := HS.out _ (vAt_mem hlt)
      have ham := HA.out k hlt
      obtain ⟨⟨kd, fa, fc, fs⟩, hx⟩ : ∃ x, vAt xs k = x := ⟨_, rfl⟩
      rw [hx] at c1 c2 hf hst hsm ham
      simp only at c1 c2 hf hst hsm ham
      obtain ⟨S, hS⟩ : ∃ S, sumA ((plainM xs).take k) = S := ⟨_, rfl⟩
      rw [hS] at hst hsb ⊢
      have bx : Below w.heap.size w (wr.alloc (.cells #[.int .i64 kd, .slice fa fs.length fc] 26)) := hbr.alloc hbr.size _
      have HCF : Hid (FldsAt (wr.alloc (.cells #[.int .i64 kd, .slice fa fs.length fc] 26)) fa fs) := hf.below (by go_grown)
      clear hx hS hf
      have HST : Hid _ := hst
      clear hst
      cases hd : fOf fs 4 with
      | none =>
        have HN : Hid (sumA ((plainM xs).take (k + 1)) = S) := by rw [Hid, HST.out, amtOf]; simp only [hd]; simp
        have HC : Hid (Calls Tryz.prog 21 #[.agg #[.int .i64 kd, .slice fa fs.length fc], .int .i64 4] (wr.alloc (.cells #[.int .i64 kd, .slice fa fs.length fc] 26)) fun e w' => e = .returned (.tuple #[.string ⟨#[]⟩, .bool false]) ∧ Below (wr.alloc (.cells #[.int .i64 kd, .slice fa fs.length fc] 26)).heap.size (wr.alloc (.cells #[.int .i64 kd, .slice fa fs.length fc] 26)) w') := by
          have := iFieldOf_any kd fa fc fs 4 _ HCF.out hsm.1 hsm.2
          rw [hd] at this; exact this
        clear hd HCF ham
        go_wp2_with fail
        refine HC.out.mono ?_
        rintro e w2 ⟨rfl, b2⟩
        have q2 := bx.trans (b2.mono bx.size)
        clear HC b2 bx
        go_wp2
        go_roundw
        case rel => exact ⟨k + 1, by omega, by go_num, by rw [HN.out], q2⟩
        case measure => simp [intOf]; omega
      | some d =>
        have hdl := fOf_len hd
        have HN : Hid (sumA ((plainM xs).take (k + 1)) = S + numOf d) := by rw [Hid, HST.out, amtOf]; simp only [hd]; simp
        have hnb : 0 ≤ numOf d ∧ numOf d < 1000000000000 := by have h := ham; rw [amtOf] at h; simp only [hd] at h; simpa using h
        have HC : Hid (Calls Tryz.prog 21 #[.agg #[.int .i64 kd, .slice fa fs.length fc], .int .i64 4] (wr.alloc (.cells #[.int .i64 kd, .slice fa fs.length fc] 26)) fun e w' => e = .returned (.tuple #[.string ⟨d.toArray⟩, .bool true]) ∧ Below (wr.alloc (.cells #[.int .i64 kd, .slice fa fs.length fc] 26)).heap.size (wr.alloc (.cells #[.int .i64 kd, .slice fa fs.length fc] 26)) w') := by
          have := iFieldOf_any kd fa fc fs 4 _ HCF.out hsm.1 hsm.2
          rw [hd] at this; exact this
        have HD : Hid (d.length ≤ 1099511627776) := by rw [Hid]; omega
        clear hd HCF ham hdl
        go_wp2_with fail
        refine HC.out.mono ?_
        rintro e w2 ⟨rfl, b2⟩
        have q2 := bx.trans (b2.mono bx.size)
        clear HC b2 bx
        go_wp2_with fail
        refine (iNumOf_any d _ HD.out).mono ?_
        rintro e w3 ⟨rfl, hw3⟩
        rw [hw3]
        clear hw3
        obtain ⟨A, hA⟩ : ∃ A, numOf d = A := ⟨_, rfl⟩
        rw [hA] at HN hnb ⊢
        clear hA
        go_wp2
        go_roundw
        case rel => exact ⟨k + 1, by omega, by go_num, by rw [HN.out], q2⟩
        case measure => simp [intOf]; omega
    · have hke : k = xs.length := by omega
      subst hke
      have hS0 : (plainM xs).take xs.length = plainM xs := List.take_of_length_le (by rw [plainM_len]; exact Nat.le_refl _)
      rw [hS0] at hsb ⊢
      have hki : ¬ (xs.length : Int) < (xs.length : Int) := by omega
      have HTF : Hid (tailF (plainM xs) = [(4, padT (sumA (plainM xs)) 12), (24, [54, 57, 53]), (71, padT (xs.length : Nat) 8)]) := by rw [Hid, tailF, plainM_len]
      have HT1 : Hid (Pow10 wr) := HT.out.below hbr
      obtain ⟨F, hF⟩ : ∃ F, tailF (plainM xs) = F := ⟨_, rfl⟩
      obtain ⟨S, hS⟩ : ∃ S, sumA (plainM xs) = S := ⟨_, rfl⟩
      rw [hF] at HTO HTF HTB
      rw [hS] at HTO HTF hsb ⊢
      have HFE : Hid _ := hF
      have HSE : Hid _ := hS
      clear hS0 hF hS HZ HSB HA HS
      go_wp2_with fail
      refine (iPadNum_any _ _ _ HT1.out).mono ?_
      rintro e w2 ⟨rfl, b2⟩
      have q2 := next hbr b2
      have HT2 : Hid (Pow10 w2) := HT1.out.below b2
      obtain ⟨A, hA⟩ : ∃ A, padT S 12 = A := ⟨_, rfl⟩
      rw [hA] at HTF ⊢
      clear b2 HT1 hA
      go_wp2_with fail
      refine (iPadNum_any _ _ _ HT2.out).mono ?_
      rintro e w3 ⟨rfl, b3⟩
      have q3 := next q2 b3
      have HT3 : Hid (Pow10 w3) := HT2.out.below b3
      obtain ⟨C, hC⟩ : ∃ C, padT ((xs.length : Nat) : Int) 8 = C := ⟨_, rfl⟩
      rw [hC] at HTF ⊢
      clear b3 HT2 hC
      have HP : Hid (Calls Tryz.prog 9 #[.agg #[.int .i64 1644, .slice (some ⟨w3.heap.size, 0, none⟩) 3 3]] (w3.alloc (.cells #[.int .i64 4, .string ⟨A.toArray⟩, .int .i64 24, .string ⟨#[54, 57, 53]⟩, .int .i64 71, .string ⟨C.toArray⟩] 60)) fun e w' => e = .returned (.tuple #[.string ⟨(packL 1644 F).toArray⟩, .bool (decide (S < 1000000000000))]) ∧ Below (w3.alloc (.cells #[.int .i64 4, .string ⟨A.toArray⟩, .int .i64 24, .string ⟨#[54, 57, 53]⟩, .int .i64 71, .string ⟨C.toArray⟩] 60)).heap.size (w3.alloc (.cells #[.int .i64 4, .string ⟨A.toArray⟩, .int .i64 24, .string ⟨#[54, 57, 53]⟩, .int .i64 71, .string ⟨C.toArray⟩] 60)) w') := by
        have hb := HTB.out
        rw [HTF.out] at hb
        have h5 := iPack_any 1644 (some ⟨w3.heap.size, 0, none⟩) 3 [(4, A), (24, [54, 57, 53]), (71, C)] (w3.alloc (.cells #[.int .i64 4, .string ⟨A.toArray⟩, .int .i64 24, .string ⟨#[54, 57, 53]⟩, .int .i64 71, .string ⟨C.toArray⟩] 60)) (flds3 w3 4 24 71 A [54, 57, 53] C _) (by simp) (by omega) (HT3.out.below (by go_grown))
        have e1 : packL 1644 [(4, A), (24, [54, 57, 53]), (71, C)] = packL 1644 F := by rw [HTF.out]
        have e2 : msgOk 1644 [(4, A), (24, [54, 57, 53]), (71, C)] = decide (S < 1000000000000) := by rw [← HTF.out]; exact HTO.out
        rw [e1, e2] at h5
        exact h5
      have bx : Below w.heap.size w (w3.alloc (.cells #[.int .i64 4, .string ⟨A.toArray⟩, .int .i64 24, .string ⟨#[54, 57, 53]⟩, .int .i64 71, .string ⟨C.toArray⟩] 60)) := q3.alloc q3.size _
      obtain ⟨q, hq⟩ : ∃ q, decide (S < 1000000000000) = q := ⟨_, rfl⟩
      rw [hq] at HP
      have HQE : Hid _ := hq
      clear hq
      clear HTO HTF HTB HT3 q2 hsb
      go_wp2_with fail
      refine HP.out.mono ?_
      rintro e w4 ⟨rfl, b4⟩
      have q4 := bx.trans (b4.mono bx.size)
      clear HP b4 bx
      obtain ⟨r, hr⟩ : ∃ r, packL 1644 F = r := ⟨_, rfl⟩
      rw [hr]
      have HRE : Hid _ := hr
      clear hr
      go_wp2
      go_ret2
      exact ⟨str_ok (by rw [HFE.out, HRE.out]) (by rw [HSE.out, HQE.out]), q4⟩

end Go.Proofs.YtbncdhfmhokgeaaGreatDoor
