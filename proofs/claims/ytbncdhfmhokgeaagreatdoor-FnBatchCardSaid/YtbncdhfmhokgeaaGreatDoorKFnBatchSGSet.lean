/- The contract of the specification's GetSet. -/
import Derived.Test.YtbncdhfmhokgeaaGreatDoorKFnBatchFGSet
import Derived.Test.YtbncdhfmhokgeaaGreatDoorKFnBatchSSet
namespace Go.Proofs.YtbncdhfmhokgeaaGreatDoor
open Go.RowKit

theorem sets_lit {w w' W : World} {zs : List Int} {p : Int} {e : Ending} (h : zs = [] ∧ p = -1) (he : e = .returned (.tuple #[.slice (some ⟨W.heap.size, 0, none⟩) 0 0, .int .i64 (-1)])) (hw : w' = W.alloc (.cells #[] 3)) (hb : Below w.heap.size w W) : Sets w zs p e w' := by
  obtain ⟨rfl, rfl⟩ := h
  subst hw
  exact ⟨_, 0, he, World.ownsRow_lit W #[] 0 hb.size (by unfold maxLen; omega) rfl, hb.alloc hb.size _⟩
theorem half_step (x a : Nat) : x / 2 ^ a / 2 = x / 2 ^ (a + 1) := by rw [Nat.div_div_eq_div_mul, Nat.pow_succ]

set_option maxRecDepth 100000 in
set_option maxHeartbeats 2000000 in
set_option maxRecDepth 20000 in
theorem sGet_16 (l : List UInt8) (k : Nat) (w : World) (hl : l.length ≤ 1048576) (hk : k + 8 ≤ l.length) (hc : 128 ≤ (l.getD k 0).toNat) :
    Calls Tryz.prog 51 #[.string ⟨l.toArray⟩, .int .i64 k] w fun e w' => Sets w (getSL l k) (getSI l k) e w' := by
  obtain ⟨i3, hi3, hz30, hz31, hz32⟩ := info_parts info3
  have hm : szB (l.getD k 0) = 16 := by unfold szB; rw [if_pos hc]
  have hkl : k < l.length := by omega
  have hki : (k : Int) < (l.length : Int) := by omega
  have HI : Hid (inB (k : Int) 0 ((l.length : Int) - 8) = true) := inB_pos (by omega) (by omega)
  obtain ⟨c, hce⟩ : ∃ c, (⟨l.toArray⟩ : ByteArray)[k]'(by rw [ba_size]; exact hkl) = c := ⟨_, rfl⟩
  rw [(byte_at l k hkl).trans hce] at hc
  have hci : (128 : Int) ≤ (c.toNat : Int) := by omega
  have hcb : (c.toNat : Int) ≤ 255 := by have := c.toNat_lt; omega
  by_cases hgt : (l.length : Int) - (k : Int) < 16
  · have HN : Hid _ := getS_no (getS_out (l := l) (i := k) (by rw [Int.toNat_natCast, hm]; omega))
    clear hm hc
    go_enter Tryz.func51, Tryz.ntmps51
    go_wp2_with fail
    refine (in_any _ _ _ _).mono ?_
    rintro e w1 ⟨rfl, hw1⟩
    subst hw1
    rw [HI.out]
    go_wp2
    go_ret2
    exact sets_lit HN.out rfl rfl (Below.refl _ _)
  · have hle : 16 ≤ (l.length : Int) - (k : Int) := by omega
    have HG : Hid _ := getS_in (l := l) (k := k) (b := (l.drop k).take 16) hm (by omega) rfl (by omega)
    have HP : Hid _ := piece_eq l k 16
    have HA : Hid (∀ j, j < 16 → ((l.drop k).take 16).getD j 0 = l.getD (k + j) 0) := fun j hj => piece_at hj
    obtain ⟨b, hbe⟩ : ∃ b, (l.drop k).take 16 = b := ⟨_, rfl⟩
    rw [hbe] at HG HP HA
    have hk1 : (k : Int) ≤ (k : Int) + 16 := by omega
    have hk2 : (k : Int) + 16 ≤ (l.length : Int) := by omega
    have own := own03 w
    have bel0 : Below w.heap.size w (w.alloc (.cells #[] 3)) := (Below.refl _ _).alloc (Nat.le_refl _) _
    have hd1 : decide ((l.length : Int) - (k : Int) < 16) = false := decide_eq_false (by omega)
    clear hm hc hbe hgt
    go_enter Tryz.func51, Tryz.ntmps51
    go_wp2_with fail
    refine (in_any _ _ _ _).mono ?_
    rintro e w1 ⟨rfl, hw1⟩
    subst hw1
    rw [HI.out]
    clear HI
    go_wp2
    go_loopw [7, 8, 9, 10] (fun v i _ _ wr => ∃ t : Nat, 1 ≤ t ∧ t ≤ 128 ∧ i = .int .i64 (t + 1 : Nat) ∧ wr.ownsRow w1.heap.size 3 1 v (numsL b t).length ((numsL b t).map (Value.int .i64)) ∧ Below w1.heap.size w1 wr) (fun _ i _ _ _ => 128 + 1 - (intOf i).toNat)
    case atStart => exact ⟨1, Nat.le_refl _, by omega, rfl, by rw [numsL_one]; exact own, bel0⟩
    case round =>
      obtain ⟨t, ht1, ht2, rfl, ho, hbr⟩ := hrel
      clear own bel0
      by_cases hlt : t < 128
      · have hsu := numsL_succ b t ht1
        have hlen := numsL_len b t
        obtain ⟨n, hn⟩ : ∃ n, t + 1 = n := ⟨_, rfl⟩
        obtain ⟨q, hq⟩ : ∃ q, (n - 1) / 8 = q := ⟨_, rfl⟩
        obtain ⟨r, hr⟩ : ∃ r, (n - 1) % 8 = r := ⟨_, rfl⟩
        rw [hn] at hsu ⊢
        have hbd : bitL b n = decide ((b.getD q 0).toNat / 2 ^ (7 - r) % 2 = 1) := by unfold bitL; rw [hq, hr]
        have hba := HA.out q (by omega)
        obtain ⟨a, ha⟩ : ∃ a, k + q = a := ⟨_, rfl⟩
        rw [ha] at hba
        have hal : a < l.length := by omega
        obtain ⟨y, hy⟩ : ∃ y, (⟨l.toArray⟩ : ByteArray)[a]'(by rw [ba_size]; exact hal) = y := ⟨_, rfl⟩
        rw [hba, (byte_at l a hal).trans hy] at hbd
        have hni : (n : Int) ≤ 128 := by omega
        have hn2 : (2 : Int) ≤ (n : Int) := by omega
        have hqi : ((n : Int) - 1) / 8 = (q : Int) := by omega
        have hri : ((n : Int) - 1) % 8 = (r : Int) := by omega
        have hr7 : r ≤ 7 := by omega
        have haz : (k : Int) + (q : Int) = (a : Int) := by omega
        have hai : (a : Int) < (l.length : Int) := by omega
        have hyb := y.toNat_lt
        have HSU : Hid _ := hsu
        have HBD : Hid _ := hbd
        have HO : Hid (wr.ownsRow w1.heap.size 3 1 _ (numsL b t).length ((numsL b t).map (Value.int .i64))) := ho
        have HNN : Hid (t + 1 = n) := hn
        clear hsu ho hq hr hba ha hbd
        go_wp2
        go_loop [9, 10] (fun x i => ∃ c : Nat, r ≤ c ∧ c ≤ 7 ∧ i = .int .i64 c ∧ x = .int .i64 (y.toNat / 2 ^ (c - r) : Nat)) (fun _ i => 7 - (intOf i).toNat)
        case atStart => exact ⟨r, Nat.le_refl _, hr7, by rw [hri], by simp⟩
        case round =>
          obtain ⟨cc, hc1, hc2, rfl, rfl⟩ := hrel
          have hst := half_step y.toNat (cc - r)
          have hxl : y.toNat / 2 ^ (cc - r) ≤ y.toNat := Nat.div_le_self _ _
          by_cases hc7 : cc < 7
          · have hci7 : (cc : Int) < 7 := by omega
            obtain ⟨x, hx⟩ : ∃ x, y.toNat / 2 ^ (cc - r) = x := ⟨_, rfl⟩
            rw [hx] at hst hxl ⊢
            have HST : Hid ((y.toNat / 2 ^ (cc + 1 - r) : Nat) = x / 2) := by rw [Hid, show cc + 1 - r = cc - r + 1 from by omega, hst]
            clear hst hx
            go_wp2
            go_round
            case rel => exact ⟨cc + 1, by omega, by omega, by go_num, by rw [HST.out]; go_num⟩
            case measure => simp [intOf]; omega
          · have hc77 : cc = 7 := by omega
            subst hc77
            obtain ⟨x, hx⟩ : ∃ x, y.toNat / 2 ^ (7 - r) = x := ⟨_, rfl⟩
            rw [hx] at hxl HBD ⊢
            have ho := HO.out
            have hsz := hbr.size
            clear hst hx HO
            by_cases hbit : x % 2 = 1
            · have hxi : (x : Int) % 2 = 1 := by omega
              have HE : Hid (numsL b n = numsL b t ++ [(n : Int)]) := by rw [Hid, HSU.out, HBD.out, decide_eq_true hbit]; simp
              clear HBD hbit
              go_wp2_with (at_builtin; refine wpList_append_own _ rfl (.tmp 58) (.tmp 60) 55 rfl w1.heap.size 3 i3 (.int .i64 0) 1 8 Tryz.underlying55 hi3 hz30 hz31 hz32 rfl (by decide) _ _ _ rfl (ho.alloc _) ⟨wr.heap.size, 0, none⟩ 1 1 [.int .i64 (n : Int)] rfl rfl (cell_one_new _ _ _) (ints_oneCell .i64 [(n : Int)]) (by unfold maxLen; omega) (by omega) (by simp; omega) ?_; intro v' w4 ho4 hg4 hn4)
              have hb4 : Below w1.heap.size w1 w4 := (hbr.alloc hsz _).grown hg4 (by simp; omega) (fun j hj => (ho.lt j hj).1)
              clear hg4 hn4 ho
              go_wp2
              go_roundw
              case rel => exact ⟨n, by omega, by omega, by go_num, by rw [HE.out]; simpa using ho4, hb4⟩
              case measure => simp [intOf]; omega
            · have hxi : (x : Int) % 2 = 0 := by omega
              have HE : Hid (numsL b n = numsL b t) := by rw [Hid, HSU.out, HBD.out, decide_eq_false hbit]; simp
              have HO2 : Hid (wr.ownsRow w1.heap.size 3 1 _ (numsL b t).length ((numsL b t).map (Value.int .i64))) := ho
              clear HBD hbit ho
              go_wp2
              go_roundw
              case rel => exact ⟨n, by omega, by omega, by go_num, by rw [HE.out]; exact HO2.out, hbr⟩
              case measure => simp [intOf]; omega
      · have hte : t = 128 := by omega
        subst hte
        have hlen := numsL_len b 128
        have HG2 : Hid _ := HG.out
        rw [show 8 * 16 = 128 from rfl] at HG2
        obtain ⟨zs, hzs⟩ : ∃ zs, numsL b 128 = zs := ⟨_, rfl⟩
        rw [hzs] at ho hlen HG2
        clear hzs HG
        obtain ⟨ao, cap, hv, hz⟩ := own_ints ho
        subst hv
        have HO : Hid (wr.ownsRow w1.heap.size 3 1 (.slice ao zs.length cap) zs.length (zs.map (Value.int .i64))) := ho
        clear ho
        have hp := HP.out
        go_wp2_with fail
        refine (sPutSet_any _ _ zs _ hz (by omega)).mono ?_
        rintro e w3 ⟨rfl, b3⟩
        have HO3 : Hid (w3.ownsRow w1.heap.size 3 1 (.slice ao zs.length cap) zs.length (zs.map (Value.int .i64))) := own_keep HO.out b3
        have B3 : Below w1.heap.size w1 w3 := next hbr b3
        clear hz HO b3 hbr
        obtain ⟨r, hr⟩ : ∃ r, putS zs = r := ⟨_, rfl⟩
        rw [hr] at HG2 ⊢
        clear hr
        cases r with
        | none =>
          have HN : Hid _ := HG2.out.2 (by simp)
          clear HG2
          simp only [Option.getD_none, Option.isSome_none]
          go_wp2
          go_ret2
          exact sets_lit HN.out rfl rfl B3
        | some r =>
          simp only [Option.getD_some, Option.isSome_some]
          by_cases hrb : r = b
          · have HN : Hid _ := HG2.out.1 (by rw [hrb])
            subst hrb
            clear HG2
            go_wp2
            go_ret2
            exact sets_own HN.out rfl HO3.out B3
          · have HN : Hid _ := HG2.out.2 (by simpa using hrb)
            clear HG2
            have hrb' : (r == b) = false := by simpa using hrb
            go_wp2
            go_ret2
            exact sets_lit HN.out rfl rfl B3

set_option maxRecDepth 100000 in
set_option maxHeartbeats 2000000 in
set_option maxRecDepth 20000 in
theorem sGet_8 (l : List UInt8) (k : Nat) (w : World) (hl : l.length ≤ 1048576) (hk : k + 8 ≤ l.length) (hc : (l.getD k 0).toNat < 128) :
    Calls Tryz.prog 51 #[.string ⟨l.toArray⟩, .int .i64 k] w fun e w' => Sets w (getSL l k) (getSI l k) e w' := by
  obtain ⟨i3, hi3, hz30, hz31, hz32⟩ := info_parts info3
  have hm : szB (l.getD k 0) = 8 := by unfold szB; rw [if_neg (by omega)]
  have hkl : k < l.length := by omega
  have hki : (k : Int) < (l.length : Int) := by omega
  have HI : Hid (inB (k : Int) 0 ((l.length : Int) - 8) = true) := inB_pos (by omega) (by omega)
  obtain ⟨c, hce⟩ : ∃ c, (⟨l.toArray⟩ : ByteArray)[k]'(by rw [ba_size]; exact hkl) = c := ⟨_, rfl⟩
  rw [(byte_at l k hkl).trans hce] at hc
  have hci : (c.toNat : Int) < 128 := by omega
  have hcb : (c.toNat : Int) ≤ 255 := by have := c.toNat_lt; omega
  by_cases hgt : (l.length : Int) - (k : Int) < 8
  · omega
  · have hle : 8 ≤ (l.length : Int) - (k : Int) := by omega
    have HG : Hid _ := getS_in (l := l) (k := k) (b := (l.drop k).take 8) hm (by omega) rfl (by omega)
    have HP : Hid _ := piece_eq l k 8
    have HA : Hid (∀ j, j < 8 → ((l.drop k).take 8).getD j 0 = l.getD (k + j) 0) := fun j hj => piece_at hj
    obtain ⟨b, hbe⟩ : ∃ b, (l.drop k).take 8 = b := ⟨_, rfl⟩
    rw [hbe] at HG HP HA
    have hk1 : (k : Int) ≤ (k : Int) + 8 := by omega
    have hk2 : (k : Int) + 8 ≤ (l.length : Int) := by omega
    have own := own03 w
    have bel0 : Below w.heap.size w (w.alloc (.cells #[] 3)) := (Below.refl _ _).alloc (Nat.le_refl _) _
    have hd1 : decide ((l.length : Int) - (k : Int) < 8) = false := decide_eq_false (by omega)
    clear hm hc hbe hgt
    go_enter Tryz.func51, Tryz.ntmps51
    go_wp2_with fail
    refine (in_any _ _ _ _).mono ?_
    rintro e w1 ⟨rfl, hw1⟩
    subst hw1
    rw [HI.out]
    clear HI
    go_wp2
    go_loopw [7, 8, 9, 10] (fun v i _ _ wr => ∃ t : Nat, 1 ≤ t ∧ t ≤ 64 ∧ i = .int .i64 (t + 1 : Nat) ∧ wr.ownsRow w1.heap.size 3 1 v (numsL b t).length ((numsL b t).map (Value.int .i64)) ∧ Below w1.heap.size w1 wr) (fun _ i _ _ _ => 64 + 1 - (intOf i).toNat)
    case atStart => exact ⟨1, Nat.le_refl _, by omega, rfl, by rw [numsL_one]; exact own, bel0⟩
    case round =>
      obtain ⟨t, ht1, ht2, rfl, ho, hbr⟩ := hrel
      clear own bel0
      by_cases hlt : t < 64
      · have hsu := numsL_succ b t ht1
        have hlen := numsL_len b t
        obtain ⟨n, hn⟩ : ∃ n, t + 1 = n := ⟨_, rfl⟩
        obtain ⟨q, hq⟩ : ∃ q, (n - 1) / 8 = q := ⟨_, rfl⟩
        obtain ⟨r, hr⟩ : ∃ r, (n - 1) % 8 = r := ⟨_, rfl⟩
        rw [hn] at hsu ⊢
        have hbd : bitL b n = decide ((b.getD q 0).toNat / 2 ^ (7 - r) % 2 = 1) := by unfold bitL; rw [hq, hr]
        have hba := HA.out q (by omega)
        obtain ⟨a, ha⟩ : ∃ a, k + q = a := ⟨_, rfl⟩
        rw [ha] at hba
        have hal : a < l.length := by omega
        obtain ⟨y, hy⟩ : ∃ y, (⟨l.toArray⟩ : ByteArray)[a]'(by rw [ba_size]; exact hal) = y := ⟨_, rfl⟩
        rw [hba, (byte_at l a hal).trans hy] at hbd
        have hni : (n : Int) ≤ 64 := by omega
        have hn2 : (2 : Int) ≤ (n : Int) := by omega
        have hqi : ((n : Int) - 1) / 8 = (q : Int) := by omega
        have hri : ((n : Int) - 1) % 8 = (r : Int) := by omega
        have hr7 : r ≤ 7 := by omega
        have haz : (k : Int) + (q : Int) = (a : Int) := by omega
        have hai : (a : Int) < (l.length : Int) := by omega
        have hyb := y.toNat_lt
        have HSU : Hid _ := hsu
        have HBD : Hid _ := hbd
        have HO : Hid (wr.ownsRow w1.heap.size 3 1 _ (numsL b t).length ((numsL b t).map (Value.int .i64))) := ho
        have HNN : Hid (t + 1 = n) := hn
        clear hsu ho hq hr hba ha hbd
        go_wp2
        go_loop [9, 10] (fun x i => ∃ c : Nat, r ≤ c ∧ c ≤ 7 ∧ i = .int .i64 c ∧ x = .int .i64 (y.toNat / 2 ^ (c - r) : Nat)) (fun _ i => 7 - (intOf i).toNat)
        case atStart => exact ⟨r, Nat.le_refl _, hr7, by rw [hri], by simp⟩
        case round =>
          obtain ⟨cc, hc1, hc2, rfl, rfl⟩ := hrel
          have hst := half_step y.toNat (cc - r)
          have hxl : y.toNat / 2 ^ (cc - r) ≤ y.toNat := Nat.div_le_self _ _
          by_cases hc7 : cc < 7
          · have hci7 : (cc : Int) < 7 := by omega
            obtain ⟨x, hx⟩ : ∃ x, y.toNat / 2 ^ (cc - r) = x := ⟨_, rfl⟩
            rw [hx] at hst hxl ⊢
            have HST : Hid ((y.toNat / 2 ^ (cc + 1 - r) : Nat) = x / 2) := by rw [Hid, show cc + 1 - r = cc - r + 1 from by omega, hst]
            clear hst hx
            go_wp2
            go_round
            case rel => exact ⟨cc + 1, by omega, by omega, by go_num, by rw [HST.out]; go_num⟩
            case measure => simp [intOf]; omega
          · have hc77 : cc = 7 := by omega
            subst hc77
            obtain ⟨x, hx⟩ : ∃ x, y.toNat / 2 ^ (7 - r) = x := ⟨_, rfl⟩
            rw [hx] at hxl HBD ⊢
            have ho := HO.out
            have hsz := hbr.size
            clear hst hx HO
            by_cases hbit : x % 2 = 1
            · have hxi : (x : Int) % 2 = 1 := by omega
              have HE : Hid (numsL b n = numsL b t ++ [(n : Int)]) := by rw [Hid, HSU.out, HBD.out, decide_eq_true hbit]; simp
              clear HBD hbit
              go_wp2_with (at_builtin; refine wpList_append_own _ rfl (.tmp 58) (.tmp 60) 55 rfl w1.heap.size 3 i3 (.int .i64 0) 1 8 Tryz.underlying55 hi3 hz30 hz31 hz32 rfl (by decide) _ _ _ rfl (ho.alloc _) ⟨wr.heap.size, 0, none⟩ 1 1 [.int .i64 (n : Int)] rfl rfl (cell_one_new _ _ _) (ints_oneCell .i64 [(n : Int)]) (by unfold maxLen; omega) (by omega) (by simp; omega) ?_; intro v' w4 ho4 hg4 hn4)
              have hb4 : Below w1.heap.size w1 w4 := (hbr.alloc hsz _).grown hg4 (by simp; omega) (fun j hj => (ho.lt j hj).1)
              clear hg4 hn4 ho
              go_wp2
              go_roundw
              case rel => exact ⟨n, by omega, by omega, by go_num, by rw [HE.out]; simpa using ho4, hb4⟩
              case measure => simp [intOf]; omega
            · have hxi : (x : Int) % 2 = 0 := by omega
              have HE : Hid (numsL b n = numsL b t) := by rw [Hid, HSU.out, HBD.out, decide_eq_false hbit]; simp
              have HO2 : Hid (wr.ownsRow w1.heap.size 3 1 _ (numsL b t).length ((numsL b t).map (Value.int .i64))) := ho
              clear HBD hbit ho
              go_wp2
              go_roundw
              case rel => exact ⟨n, by omega, by omega, by go_num, by rw [HE.out]; exact HO2.out, hbr⟩
              case measure => simp [intOf]; omega
      · have hte : t = 64 := by omega
        subst hte
        have hlen := numsL_len b 64
        have HG2 : Hid _ := HG.out
        rw [show 8 * 8 = 64 from rfl] at HG2
        obtain ⟨zs, hzs⟩ : ∃ zs, numsL b 64 = zs := ⟨_, rfl⟩
        rw [hzs] at ho hlen HG2
        clear hzs HG
        obtain ⟨ao, cap, hv, hz⟩ := own_ints ho
        subst hv
        have HO : Hid (wr.ownsRow w1.heap.size 3 1 (.slice ao zs.length cap) zs.length (zs.map (Value.int .i64))) := ho
        clear ho
        have hp := HP.out
        go_wp2_with fail
        refine (sPutSet_any _ _ zs _ hz (by omega)).mono ?_
        rintro e w3 ⟨rfl, b3⟩
        have HO3 : Hid (w3.ownsRow w1.heap.size 3 1 (.slice ao zs.length cap) zs.length (zs.map (Value.int .i64))) := own_keep HO.out b3
        have B3 : Below w1.heap.size w1 w3 := next hbr b3
        clear hz HO b3 hbr
        obtain ⟨r, hr⟩ : ∃ r, putS zs = r := ⟨_, rfl⟩
        rw [hr] at HG2 ⊢
        clear hr
        cases r with
        | none =>
          have HN : Hid _ := HG2.out.2 (by simp)
          clear HG2
          simp only [Option.getD_none, Option.isSome_none]
          go_wp2
          go_ret2
          exact sets_lit HN.out rfl rfl B3
        | some r =>
          simp only [Option.getD_some, Option.isSome_some]
          by_cases hrb : r = b
          · have HN : Hid _ := HG2.out.1 (by rw [hrb])
            subst hrb
            clear HG2
            go_wp2
            go_ret2
            exact sets_own HN.out rfl HO3.out B3
          · have HN : Hid _ := HG2.out.2 (by simpa using hrb)
            clear HG2
            have hrb' : (r == b) = false := by simpa using hrb
            go_wp2
            go_ret2
            exact sets_lit HN.out rfl rfl B3

set_option maxRecDepth 100000 in
set_option maxHeartbeats 400000 in
theorem sGetSet_any (l : List UInt8) (i : Int) (w : World) (hl : l.length ≤ 1048576) :
    Calls Tryz.prog 51 #[.string ⟨l.toArray⟩, .int .i64 i] w fun e w' => Sets w (getSL l i) (getSI l i) e w' := by
  cases h1 : inB i 0 ((l.length : Int) - 8)
  · have h1o : ¬ (0 ≤ i ∧ i ≤ (l.length : Int) - 8) := of_decide_eq_false h1
    have HN : Hid _ := getS_no (getS_out (l := l) (i := i) (by omega))
    go_enter Tryz.func51, Tryz.ntmps51
    go_wp2_with fail
    refine (in_any _ _ _ _).mono ?_
    rintro e w1 ⟨rfl, hw1⟩
    subst hw1
    rw [h1]
    go_wp2
    go_ret2
    exact sets_lit HN.out rfl rfl (Below.refl _ _)
  · have hin : 0 ≤ i ∧ i ≤ (l.length : Int) - 8 := of_decide_eq_true h1
    obtain ⟨k, rfl⟩ := Int.eq_ofNat_of_zero_le hin.1
    by_cases hc : 128 ≤ (l.getD k 0).toNat
    · exact sGet_16 l k w hl (by omega) hc
    · exact sGet_8 l k w hl (by omega) (by omega)

end Go.Proofs.YtbncdhfmhokgeaaGreatDoor
