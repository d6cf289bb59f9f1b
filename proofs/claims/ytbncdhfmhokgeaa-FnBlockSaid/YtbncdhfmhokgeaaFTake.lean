/- The contract of the program's takePieces. -/
import Derived.Test.YtbncdhfmhokgeaaFPiece
import Derived.Test.YtbncdhfmhokgeaaFWalk
import Derived.Deep.RegionHeld3
namespace Go.Proofs.Ytbncdhfmhokgeaa
open Go.RowKit
set_option maxRecDepth 100000

set_option maxRecDepth 20000
/-- what is taken behind k blocks -/
def takenK (s : List UInt8) (m k : Nat) : List UInt8 := streamM s k ++ List.replicate ((m - k) * 1012) 0
theorem takenK_zero (s : List UInt8) (m : Nat) : takenK s m 0 = List.replicate (m * 1012) 0 := by simp [takenK, streamM]
theorem takenK_all (s : List UInt8) (m : Nat) : takenK s m m = streamM s m := by simp [takenK]
theorem takenK_len (s : List UInt8) (m k : Nat) (h : k ≤ m) (hl : m * 1014 ≤ s.length) : (takenK s m k).length = m * 1012 := by
  rw [takenK, List.length_append, List.length_replicate, streamM_len s k (by have : k * 1014 ≤ m * 1014 := Nat.mul_le_mul_right _ h; omega), ← Nat.add_mul, Nat.add_sub_cancel' h]
theorem takenK_step (s : List UInt8) (m k : Nat) (h : k < m) (hl : m * 1014 ≤ s.length) : splice (takenK s m k) (k * 1012) (pieceOf s k) = takenK s m (k + 1) := by
  have hkm : (k + 1) * 1014 ≤ m * 1014 := Nat.mul_le_mul_right _ h
  obtain ⟨A, hA⟩ : ∃ A, streamM s k = A := ⟨_, rfl⟩
  have hal : A.length = k * 1012 := by rw [← hA]; exact streamM_len s k (by omega)
  have hcl := pieceOf_len s k (by omega)
  obtain ⟨q, hq⟩ : ∃ q, m = k + 1 + q := ⟨m - (k + 1), by omega⟩
  obtain ⟨cs, hcs⟩ : ∃ cs, pieceOf s k = cs := ⟨_, rfl⟩
  unfold takenK splice
  rw [streamM_succ, hcs, hA, hq, ← hal, List.take_left, show k + 1 + q - k = q + 1 by omega, Nat.add_sub_cancel_left]
  rw [hcs] at hcl
  rw [List.drop_append, List.drop_of_length_le (by omega), List.nil_append, Nat.add_sub_cancel_left, List.drop_replicate, List.append_assoc, hcl, show (q + 1) * 1012 - 1012 = q * 1012 by omega]
theorem endOk_within (s : List UInt8) (k : Nat) (h : k * 1014 + 1014 ≤ s.length) : within 64 64 ((s.drop (k * 1014 + 1012)).take 2) = endOk s k := by
  rw [drop_take_getD s _ (by omega)]
  have f : ∀ c : UInt8, (decide (64 ≤ c.toNat) && decide (c.toNat ≤ 64)) = (c == 64) := fun c => by
    rw [Bool.eq_iff_iff]
    simp only [Bool.and_eq_true, decide_eq_true_eq, beq_iff_eq]
    constructor
    · intro ⟨a, b⟩; apply UInt8.toNat_inj.1; show c.toNat = 64; omega
    · intro a; subst a; decide
  simp only [within, List.all_cons, List.all_nil, Bool.and_true, f, endOk]
theorem own_madeB {w : World} {base g n c : Nat} (h : w.ownsRow base 5 1 (.slice (some ⟨g, 0, none⟩) n c) n (madeCells (Value.int .u8 0).cells (n * 1)).toList) : Row w g (List.replicate n 0) := by
  rw [made5] at h; exact row_of_own h

/-- what takePieces hands back -/
def TakeR (w : World) (s : List UInt8) (m : Nat) (e : Ending) (w' : World) : Prop :=
  (padM s m = true ∧ ∃ g, e = .returned (.tuple #[.slice (some ⟨g, 0, none⟩) (m * 1012) (m * 1012), .bool true]) ∧ w.heap.size ≤ g ∧ Row w' g (streamM s m) ∧ Below w.heap.size w w') ∨
  (padM s m = false ∧ e = .returned (.tuple #[.slice none 0 0, .bool false]) ∧ Below w.heap.size w w')

set_option maxRecDepth 100000 in
set_option maxHeartbeats 3200000 in
theorem takePieces_any (b c m : Nat) (s : List UInt8) (w : World) (hr : Row w b s) (hm : s.length = m * 1014) (h0 : 0 < m) (hl : s.length ≤ 60000) (hc : s.length ≤ c) (hc2 : c ≤ maxLen) :
    Calls Try.prog 27 #[.slice (some ⟨b, 0, none⟩) s.length c] w (TakeR w s m) := by
  unfold maxLen at hc2
  obtain ⟨i0, hi, hz0, hz1, hz2⟩ := info_parts info5
  have hblt := hr.lt
  have HR : Hid (Row w b s) := hr
  have HST : Hid (∀ k, k < m → splice (takenK s m k) (k * 1012) (pieceOf s k) = takenK s m (k + 1)) := fun k hk => takenK_step s m k hk (by omega)
  have HPL : Hid (∀ k, k ≤ m → (takenK s m k).length = m * 1012) := fun k hk => takenK_len s m k hk (by omega)
  have HZ : Hid _ := takenK_zero s m
  have HA : Hid _ := takenK_all s m
  have hm60 : m ≤ 60 := by omega
  have hd : (s.length : Int) / 1014 = (m : Int) := by omega
  have HSL : Hid _ := hm
  obtain ⟨S, hS⟩ : ∃ S, s.length = S := ⟨_, rfl⟩
  rw [hS] at hl hc hd HSL ⊢
  have HS : Hid _ := hS
  clear hr hm hS
  go_enter Try.func27, Try.ntmps27
  go_wp2_with (refine wpList_make_full _ rfl (.tmp 12) (.tmp 12) 22 rfl w.heap.size 5 i0 _ 1 Try.underlying22 hi hz0 hz1 .i64 .i64 _ _ (m * 1012) rfl rfl (by simp) (by simp) (by rw [hz2]; omega) (by unfold maxLen; omega) (Nat.le_refl _) ?_; intro w1 hown hg)
  have hrow := own_madeB hown
  rw [← HZ.out] at hrow
  have q1 : Below w.heap.size w w1 := (Below.refl _ _).grown hg (Nat.le_refl _) (fun k hk => by cases hk)
  clear hown hg
  go_loopw [15] (fun i wr => ∃ k : Nat, k ≤ m ∧ i = .int .i64 k ∧ padM s k = true ∧ Row wr w.heap.size (takenK s m k) ∧ Below w.heap.size w wr) (fun i _ => m - (intOf i).toNat)
  case atStart => exact ⟨0, Nat.zero_le _, rfl, rfl, hrow, q1⟩
  case round =>
    obtain ⟨k, hk, rfl, hpad, hrk, hbr⟩ := hrel
    clear hrow q1
    by_cases hlt : k < m
    · have hki : (k : Int) < (m : Int) := by omega
      have hkm : k * 1014 + 1014 ≤ c := by have : (k + 1) * 1014 ≤ m * 1014 := Nat.mul_le_mul_right _ hlt; have := HSL.out; omega
      have hkS : k * 1014 + 1014 ≤ S := by have : (k + 1) * 1014 ≤ m * 1014 := Nat.mul_le_mul_right _ hlt; have := HSL.out; omega
      have hst := HST.out k hlt
      have hpl := HPL.out k hk
      have HRB : Hid (Row wr b s) := HR.out.keep hbr hblt
      have HF : Hid (∀ (j : Nat) (x : UInt8), ((s.drop (k * 1014 + 1012)).take 2)[j]? = some x → wr.cell? ⟨b, k * 1014 + 1012 + j, none⟩ = some (.int .u8 (x.toNat : Int))) := by
        intro j x hx
        have hj := (List.getElem?_eq_some_iff.1 hx).1
        rw [List.length_take] at hj
        refine HRB.out.cell _ x ?_
        rw [List.getElem?_take, if_pos (by omega), List.getElem?_drop] at hx
        exact hx
      have hfl : ((s.drop (k * 1014 + 1012)).take 2).length = 2 := by rw [List.length_take, List.length_drop, HS.out]; omega
      have hew := endOk_within s k (by rw [HS.out]; omega)
      obtain ⟨fl, hfe⟩ : ∃ fl, (s.drop (k * 1014 + 1012)).take 2 = fl := ⟨_, rfl⟩
      rw [hfe] at HF hfl hew
      have hs1 := fun W => sl_l (g := b) (o := k * 1014) (n := 1014) (c := 1014) (x := 1012) 1012 rfl (by omega) (by omega) W
      have hs1' : ∀ W, (Instr.slice 22 (.slice (some ⟨b, k * 1014, none⟩) 1014 1014) (some (.int .i64 1012)) none none).run Try.prog W = .ok (.slice (some ⟨b, k * 1014 + 1012, none⟩) 2 2) W := hs1
      clear hs1 hfe
      have HFC : Hid (∀ W, W = wr → Calls Try.prog 29 #[.slice (some ⟨b, k * 1014 + 1012, none⟩) 2 2] W fun e w' => e = .returned (.bool (endOk s k)) ∧ w' = W) := fun W hW => by
        subst hW
        have := allFilling_any b (k * 1014 + 1012) 2 fl W HF.out (by omega)
        rw [hfl, hew] at this
        exact this
      clear HF hfl hew
      cases heo : endOk s k
      · have HN : Hid (padM s m = false) := padM_no hlt heo
        have HEO : Hid _ := heo
        clear heo hst hpl hpad
        go_wp2_with fail
        refine (blockAt_any b S c k _ hkm (by omega)).mono ?_
        rintro e w2 ⟨rfl, hw2⟩
        rw [hw2]
        clear hw2
        go_wp2_with fail
        refine (HFC.out _ rfl).mono ?_
        rintro e w3 ⟨rfl, hw3⟩
        rw [hw3, HEO.out]
        clear hw3
        go_wp2
        go_ret2
        exact .inr ⟨HN.out, rfl, hbr⟩
      · have HPAD : Hid (padM s (k + 1) = true) := by rw [Hid, padM_succ, hpad, heo]; rfl
        have HEO : Hid _ := heo
        obtain ⟨cs, hcs⟩ : ∃ cs, pieceOf s k = cs := ⟨_, rfl⟩
        have hcl : cs.length = 1012 := by rw [← hcs]; exact pieceOf_len s k (by rw [HS.out]; omega)
        rw [hcs] at hst
        have HSRC : Hid (∀ W, Below wr.heap.size wr W → ∀ (j : Nat) (x : UInt8), cs[j]? = some x → W.cell? ((⟨b, k * 1014, none⟩ : Addr).add j) = some (.int .u8 (x.toNat : Int))) := by
          intro W hW j x hx
          have hj := (List.getElem?_eq_some_iff.1 hx).1
          rw [add_at]
          refine ((HRB.out.below hW).cell _ x ?_)
          rw [← hcs, pieceOf, List.getElem?_take, if_pos (by omega), List.getElem?_drop] at hx
          exact hx
        have HSP : Hid (splice (takenK s m k) (k * 1012) cs = takenK s m (k + 1)) := hst
        have HRK : Hid (Row wr w.heap.size (takenK s m k)) := hrk
        have HCL : Hid (cs.length = Nat.min 1012 (m * 1012 - k * 1012)) := by
          rw [Hid, hcl]
          have : (k + 1) * 1012 ≤ m * 1012 := Nat.mul_le_mul_right _ hlt
          show 1012 = min 1012 (m * 1012 - k * 1012)
          omega
        have HFIT : Hid (k * 1012 + cs.length ≤ (takenK s m k).length) := by rw [Hid, hpl, hcl]; have : (k + 1) * 1012 ≤ m * 1012 := Nat.mul_le_mul_right _ hlt; omega
        have hs2 := fun W => sl_h (g := b) (o := k * 1014) (n := 1014) (c := 1014) (x := 1012) 1012 rfl (by omega) (by omega) W
        have hs3 := fun W => sl_l (g := w.heap.size) (o := 0) (n := m * 1012) (c := m * 1012) (x := (k : Int) * 1012) (k * 1012) (by omega) (by have : (k + 1) * 1012 ≤ m * 1012 := Nat.mul_le_mul_right _ hlt; omega) (by have : (k + 1) * 1012 ≤ m * 1012 := Nat.mul_le_mul_right _ hlt; omega) W
        rw [Nat.zero_add] at hs3
        have hwr : IntKind.i64.wrap ((k : Int) * 1012) = (k : Int) * 1012 := by simp [IntKind.wrap, IntKind.bits, IntKind.signed]; omega
        have hbs := hbr.size
        clear heo hst hpl hpad hcs hrk hcl
        go_wp2_with fail
        refine (blockAt_any b S c k _ hkm (by omega)).mono ?_
        rintro e w2 ⟨rfl, hw2⟩
        rw [hw2]
        clear hw2
        go_wp2_with fail
        refine (HFC.out _ rfl).mono ?_
        rintro e w3 ⟨rfl, hw3⟩
        rw [hw3, HEO.out]
        clear hw3
        go_wp2
        go_region_held3 (fun _ => True) (trivial) ((first
          | (refine step_copy_row rfl (.tmp 28) (.tmp 30) rfl w.heap.size (k * 1012) (m * 1012 - k * 1012) (m * 1012 - k * 1012) (takenK s m k) cs ⟨b, k * 1014, none⟩ 1012 1014 (by kernel_rfl) (by kernel_rfl) (HRK.out.below (by first | exact Below.refl _ _ | exact (Below.refl _ _).drew | exact below_drewN (Below.refl _ _) _)) HCL.out HFIT.out (HSRC.out _ (by first | exact Below.refl _ _ | exact (Below.refl _ _).drew | exact below_drewN (Below.refl _ _) _)) ?_; intro w5 hr5 hb5; rw [HSP.out] at hr5; have q5 : Below w.heap.size w w5 := Below.trans (by first | exact hbr | exact hbr.drew | exact below_drewN hbr _) hb5; have HR5 : Hid (Row w5 w.heap.size (takenK s m (k + 1))) := hr5; clear hr5 hb5)
          | fail))
        all_goals
          go_simp
          go_wp2
          go_roundw
          case rel => exact ⟨k + 1, by omega, by go_num, HPAD.out, HR5.out, q5⟩
          case measure => simp [intOf]; omega
    · have hkM : k = m := by omega
      subst hkM
      rw [HA.out] at hrk
      have HRR : Hid (Row wr w.heap.size (streamM s k)) := hrk
      clear hrk
      go_wp2
      go_ret2
      exact .inl ⟨hpad, _, rfl, Nat.le_refl _, HRR.out, hbr⟩

end Go.Proofs.Ytbncdhfmhokgeaa
