/- The contracts of the program's blockAt and putPieces. -/
import Derived.Test.YtbncdhfmhokgeaaFRep
import Derived.Test.YtbncdhfmhokgeaaFLay
import Derived.Deep.RegionHeld3
namespace Go.Proofs.Ytbncdhfmhokgeaa
open Go.RowKit
set_option maxRecDepth 100000

set_option maxRecDepth 100000 in
set_option maxHeartbeats 400000 in
theorem blockAt_any (g n c k : Nat) (w : World) (hk : k * 1014 + 1014 ≤ c) (hk2 : k ≤ 1000000) :
    Calls Try.prog 38 #[.slice (some ⟨g, 0, none⟩) n c, .int .i64 k] w fun e w' => e = .returned (.slice (some ⟨g, k * 1014, none⟩) 1014 1014) ∧ w' = w := by
  have hs := fun W => sl_lhm (g := g) (o := 0) (n := n) (c := c) (x := (k : Int) * 1014) (y := (k : Int) * 1014 + 1014) (z := (k : Int) * 1014 + 1014) (k * 1014) (k * 1014 + 1014) (k * 1014 + 1014) (by omega) (by omega) (by omega) (by omega) (Nat.le_refl _) hk (by omega) W
  rw [Nat.zero_add, Nat.add_sub_cancel_left] at hs
  go_enter Try.func38, Try.ntmps38
  go_wp2
  go_ret
  exact ⟨rfl, rfl⟩

/-- a file of which k pieces are laid -/
def partF (l : List UInt8) (k : Nat) : List UInt8 := fileM (filled l) k ++ List.replicate ((nBlk l.length - k) * 1014) 64
theorem partF_zero (l : List UInt8) : partF l 0 = List.replicate (nBlk l.length * 1014) 64 := by simp [partF, fileM]
theorem partF_all (l : List UInt8) : partF l (nBlk l.length) = fileOf l := by simp [partF, fileOf]
theorem partF_len (l : List UInt8) (k : Nat) (h : k ≤ nBlk l.length) : (partF l k).length = nBlk l.length * 1014 := by
  rw [partF, List.length_append, List.length_replicate, fileM_len _ _ (by rw [filled_len]; exact Nat.mul_le_mul_right _ h), ← Nat.add_mul, Nat.add_sub_cancel' h]
set_option maxRecDepth 20000 in
theorem piece_filled (l : List UInt8) (k : Nat) (h : k < nBlk l.length) : ((filled l).drop (k * 1012)).take 1012 = (l.drop (k * 1012)).take 1012 ++ List.replicate (1012 - ((l.drop (k * 1012)).take 1012).length) 64 := by
  have h1 := nBlk_lt l.length
  have h2 := nBlk_le l.length
  rw [filled, List.drop_append_of_le_length (by omega), List.take_append, List.take_replicate, List.length_drop]
  congr 1
  rw [List.length_take, List.length_drop]
  congr 1
  omega
set_option maxRecDepth 20000 in
theorem partF_step (l : List UInt8) (k : Nat) (h : k < nBlk l.length) : splice (partF l k) (k * 1014) ((l.drop (k * 1012)).take 1012) = partF l (k + 1) := by
  obtain ⟨A, hA⟩ : ∃ A, fileM (filled l) k = A := ⟨_, rfl⟩
  have hal : A.length = k * 1014 := by rw [← hA]; exact fileM_len _ _ (by rw [filled_len]; exact Nat.mul_le_mul_right _ (Nat.le_of_lt h))
  obtain ⟨m, hm⟩ : ∃ m, nBlk l.length = k + 1 + m := ⟨nBlk l.length - (k + 1), by omega⟩
  have hpf := piece_filled l k h
  obtain ⟨cs, hcs⟩ : ∃ cs, (l.drop (k * 1012)).take 1012 = cs := ⟨_, rfl⟩
  have hcl : cs.length ≤ 1012 := by rw [← hcs, List.length_take]; omega
  rw [hcs] at hpf ⊢
  unfold partF splice
  rw [fileM_succ, hpf, hA, hm, ← hal, List.take_left, show k + 1 + m - k = m + 1 by omega, Nat.add_sub_cancel_left]
  rw [List.drop_append, List.drop_of_length_le (by omega), List.nil_append, Nat.add_sub_cancel_left, List.drop_replicate]
  rw [show ([64, 64] : List UInt8) = List.replicate 2 64 from rfl]
  simp only [List.append_assoc, List.replicate_append_replicate]
  congr 3
  omega

set_option maxRecDepth 100000 in
set_option maxHeartbeats 3200000 in
theorem putPieces_any (b c : Nat) (l : List UInt8) (w : World) (hr : Row w b l) (h0 : 0 < l.length) (hl : l.length ≤ 700000) (hc : l.length ≤ c) (hc2 : c ≤ maxLen) :
    Calls Try.prog 24 #[.slice (some ⟨b, 0, none⟩) l.length c] w fun e w' => e = .returned (.string ⟨(fileOf l).toArray⟩) ∧ Below w.heap.size w w' := by
  unfold maxLen at hc2
  have hb0 : 0 < nBlk l.length := by have := nBlk_le l.length; omega
  have hb1 : nBlk l.length ≤ 700 := by unfold nBlk; omega
  have HST : Hid (∀ k, k < nBlk l.length → splice (partF l k) (k * 1014) ((l.drop (k * 1012)).take 1012) = partF l (k + 1)) := fun k hk => partF_step l k hk
  have HPL : Hid (∀ k, k ≤ nBlk l.length → (partF l k).length = nBlk l.length * 1014) := partF_len l
  have HZ : Hid _ := partF_zero l
  have HA : Hid _ := partF_all l
  have HK : Hid (∀ k, k < nBlk l.length → k * 1012 < l.length) := fun k hk => by have := nBlk_lt l.length; omega
  obtain ⟨M, hM⟩ : ∃ M, nBlk l.length = M := ⟨_, rfl⟩
  rw [hM] at hb0 hb1 HST HPL HZ HA HK
  have HR : Hid (Row w b l) := hr
  have hblt := hr.lt
  have HM : Hid _ := hM
  clear hr hM
  go_enter Try.func24, Try.ntmps24
  go_wp2_with fail
  refine (blocksFor_any l.length _ (by omega)).mono ?_
  rintro e w1 ⟨rfl, hw1⟩
  rw [hw1, HM.out]
  clear hw1 w1
  go_wp2_with fail
  rw [show (M : Int) * 1014 = ((M * 1014 : Nat) : Int) by omega]
  refine (repeat_any w.heap.size (M * 1014) 1 _ (by simp [go_sem]) (by omega) (by omega)).mono ?_
  rintro e w2 ⟨rfl, hrow, b2⟩
  rw [World.size_alloc] at hrow ⊢
  obtain ⟨g, hg⟩ : ∃ g, w.heap.size + 1 = g := ⟨_, rfl⟩
  rw [hg] at hrow ⊢
  have q2 : Below w.heap.size w w2 := Below.trans (by go_grown) (b2.mono (by simp))
  rw [← HZ.out] at hrow
  have hgb : w.heap.size < g := by omega
  clear b2 hg
  go_wp2
  go_loopw [14] (fun i wr => ∃ k : Nat, k ≤ M ∧ i = .int .i64 k ∧ Row wr g (partF l k) ∧ Below w.heap.size w wr) (fun i _ => M - (intOf i).toNat)
  case atStart => exact ⟨0, Nat.zero_le _, rfl, hrow, q2⟩
  case round =>
    obtain ⟨k, hk, rfl, hrk, hbr⟩ := hrel
    clear hrow q2
    by_cases hlt : k < M
    · have hki : (k : Int) < (M : Int) := by omega
      have hkl := HK.out k hlt
      have hst := HST.out k hlt
      have hpl := HPL.out k hk
      obtain ⟨cs, hcs⟩ : ∃ cs, (l.drop (k * 1012)).take 1012 = cs := ⟨_, rfl⟩
      have hcl : cs.length = Nat.min (l.length - k * 1012) 1012 := by
        rw [← hcs, List.length_take, List.length_drop]
        show min 1012 (l.length - k * 1012) = min (l.length - k * 1012) 1012
        omega
      have hcl2 : cs.length ≤ 1012 := by rw [hcl]; exact Nat.min_le_right _ _
      have HSRC : Hid (∀ W, Below w.heap.size w W → ∀ (j : Nat) (x : UInt8), cs[j]? = some x → W.cell? ((⟨b, k * 1012, none⟩ : Addr).add j) = some (.int .u8 (x.toNat : Int))) := by
        intro W hW j x hx
        have hj := (List.getElem?_eq_some_iff.1 hx).1
        rw [add_at]
        refine ((HR.out.keep hW hblt).cell _ x ?_)
        rw [← hcs, List.getElem?_take, if_pos (by omega), List.getElem?_drop] at hx
        exact hx
      rw [hcs] at hst
      have HS : Hid (splice (partF l k) (k * 1014) cs = partF l (k + 1)) := hst
      have HRK : Hid (Row wr g (partF l k)) := hrk
      have HCL : Hid (cs.length = Nat.min (l.length - k * 1012) 1012) := hcl
      have HFIT : Hid (k * 1014 + cs.length ≤ (partF l k).length) := by rw [Hid, hpl]; have : (k + 1) * 1014 ≤ M * 1014 := Nat.mul_le_mul_right _ hlt; omega
      have hs1 := fun W => sl_h (g := g) (o := k * 1014) (n := 1014) (c := 1014) (x := 1012) 1012 rfl (by omega) (by omega) W
      have hs2 := fun W => sl_l (g := b) (o := 0) (n := l.length) (c := c) (x := (k : Int) * 1012) (k * 1012) (by omega) (by omega) (by omega) W
      rw [Nat.zero_add] at hs2
      have hkm : k * 1014 + 1014 ≤ M * 1014 := by have : (k + 1) * 1014 ≤ M * 1014 := Nat.mul_le_mul_right _ hlt; omega
      have hwr : IntKind.i64.wrap ((k : Int) * 1012) = (k : Int) * 1012 := by simp [IntKind.wrap, IntKind.bits, IntKind.signed]; omega
      clear hcs hst hrk hcl hpl
      go_wp2
      go_region_held3 (fun _ => True) (trivial) ((first
        | (go_at_call 38; refine (blockAt_any g (M * 1014) (M * 1014) k _ hkm (by omega)).mono ?_; rintro e w4 ⟨rfl, hw4⟩; rw [hw4]; clear hw4)
        | (refine step_copy_row rfl (.tmp 20) (.tmp 24) rfl g (k * 1014) 1012 1014 (partF l k) cs ⟨b, k * 1012, none⟩ (l.length - k * 1012) (c - k * 1012) (by kernel_rfl) (by kernel_rfl) (HRK.out.below (by first | exact Below.refl _ _ | exact (Below.refl _ _).drew | exact below_drewN (Below.refl _ _) _)) HCL.out HFIT.out (HSRC.out _ (by first | exact hbr | exact hbr.drew | exact below_drewN hbr _)) ?_; intro w5 hr5 hb5; rw [HS.out] at hr5; have q5 : Below w.heap.size w w5 := Below.trans (by first | exact hbr | exact hbr.drew | exact below_drewN hbr _) (hb5.mono (by omega)); have HR5 : Hid (Row w5 g (partF l (k + 1))) := hr5; clear hr5 hb5)))
      all_goals
        go_simp
        go_wp2
        go_roundw
        case rel => exact ⟨k + 1, by omega, by go_num, HR5.out, q5⟩
        case measure => simp [intOf]; omega
    · have hkM : k = M := by omega
      subst hkM
      have hpl := HPL.out k hk
      rw [HA.out] at hrk hpl
      have ht := text_at (w := wr) (g := g) (o := 0) (c := k * 1014) (l := fileOf l) (fun j x hx => by rw [Nat.zero_add]; exact hrk.cell j x hx)
      rw [hpl] at ht
      obtain ⟨F, hF⟩ : ∃ F, fileOf l = F := ⟨_, rfl⟩
      rw [hF] at ht
      have HF : Hid _ := hF
      clear hrk hpl HA HZ HST HPL HR hF
      go_wp2
      go_ret
      exact ⟨one_str (by rw [HF.out]), hbr⟩

end Go.Proofs.Ytbncdhfmhokgeaa
