/- The contract of GetSet, the program's. -/
import Derived.Test.YtbncdhfmhokgeaaGreatDoorJFnBatch1a
import Derived.Test.YtbncdhfmhokgeaaGreatDoorJFnBatch0a
namespace Go.Proofs.YtbncdhfmhokgeaaGreatDoor
open Go.RowKit

/-- what GetSet answers: a list of one's own, and a place -/
def Sets (w : World) (zs : List Int) (p : Int) (e : Ending) (w' : World) : Prop :=
  ∃ ao cap, e = .returned (.tuple #[.slice ao zs.length cap, .int .i64 p]) ∧ w'.ownsRow w.heap.size 3 1 (.slice ao zs.length cap) zs.length (zs.map (Value.int .i64)) ∧ Below w.heap.size w w'
theorem sets_nil {w w' : World} {zs : List Int} {p : Int} {e : Ending} (h : zs = [] ∧ p = -1) (he : e = .returned (.tuple #[.slice none 0 0, .int .i64 (-1)])) (hb : Below w.heap.size w w') : Sets w zs p e w' := by
  obtain ⟨rfl, rfl⟩ := h
  exact ⟨none, 0, he, World.ownsRow_nil _ _ _ _, hb⟩
theorem sets_own {w w' : World} {zs ys : List Int} {p q : Int} {e : Ending} {v : Value} (h : zs = ys ∧ p = q) (he : e = .returned (.tuple #[v, .int .i64 q])) (ho : w'.ownsRow w.heap.size 3 1 v ys.length (ys.map (Value.int .i64))) (hb : Below w.heap.size w w') : Sets w zs p e w' := by
  obtain ⟨rfl, rfl⟩ := h
  obtain ⟨ao, cap, rfl⟩ := own_shape ho
  exact ⟨ao, cap, he, ho, hb⟩
theorem own_keep {w w' : World} {base n : Nat} {v : Value} {xs : List Value} (h : w.ownsRow base 3 1 v n xs) (hb : Below w.heap.size w w') : w'.ownsRow base 3 1 v n xs := by
  obtain ⟨h1, h2⟩ := h
  refine ⟨h1, ?_⟩
  rcases h2 with h2 | ⟨g, cap, cur, a, b, c, d⟩
  · exact .inl h2
  · have hlt : g < w.heap.size := by
      by_cases e : g < w.heap.size
      · exact e
      · rw [Array.getElem?_eq_none (by omega)] at c; cases c
    exact .inr ⟨g, cap, cur, a, b, (hb.block g hlt).trans c, d⟩
theorem own_drew {w w' : World} {base n d : Nat} {v : Value} {xs : List Value} (h : w.ownsRow base 3 1 v n xs) (hw : w' = w.drewN d) : w'.ownsRow base 3 1 v n xs := by
  subst hw; exact h
theorem tail_eq (l : List UInt8) (k : Nat) (n : Nat) (hn : l.length ≤ n) : (⟨l.toArray⟩ : ByteArray).extract k n = ⟨(l.drop k).toArray⟩ := by
  rw [ba_extract, List.take_of_length_le (by simp; omega)]

set_option maxRecDepth 100000 in
set_option maxHeartbeats 1000000 in
theorem iGet_16 (l : List UInt8) (k : Nat) (w : World) (hl : l.length ≤ 1048576) (hk : k < l.length) (hc : 128 ≤ (l.getD k 0).toNat) :
    Calls Tryz.prog 139 #[.string ⟨l.toArray⟩, .int .i64 k] w fun e w' => Sets w (getSL l k) (getSI l k) e w' := by
  obtain ⟨i3, hi3, hz30, hz31, hz32⟩ := info_parts info3
  have hm : szB (l.getD k 0) = 16 := by unfold szB; rw [if_pos hc]
  have H1 : Hid (hasB l.length (k : Int) 1 = true) := hasB_pos (by omega) (by omega) (by omega)
  have HBI : Hid (bitL (l.drop k) (8 * 0 + 0 + 1) = true) := by rw [Hid, show 8 * 0 + 0 + 1 = 1 from rfl, bitL_first]; exact decide_eq_true hc
  have HT : Hid _ := tail_eq l k
  have hdl : 0 < (l.drop k).length := by simp; omega
  have hki : (k : Int) < (l.length : Int) := by omega
  have hki2 : (k : Int) ≤ (l.length : Int) := by omega
  have hl2 : l.length ≤ 1099511627776 := by omega
  cases hb : hasB l.length (k : Int) 16
  · have HN : Hid _ := getS_no (getS_out (l := l) (i := k) (by have := hasB_out hb; rw [Int.toNat_natCast, hm]; omega))
    clear hm
    go_enter Tryz.func139, Tryz.ntmps139
    go_wp2_with fail
    refine (hasBytes_any _ _ _ _ hl2).mono ?_
    rintro e w1 ⟨rfl, hw1⟩
    subst hw1
    rw [H1.out]
    go_wp2_with fail
    rw [HT.out _ (by first | exact Nat.le_refl _ | (rw [ba_size]; exact Nat.le_refl _))]
    refine (hasBit_any (l.drop k) 0 0 _ hdl (by omega) (by omega)).mono ?_
    rintro e w2 ⟨rfl, d, hw2⟩
    subst hw2
    rw [HBI.out]
    go_wp2_with fail
    refine (hasBytes_any _ _ _ _ hl2).mono ?_
    rintro e w3 ⟨rfl, hw3⟩
    subst hw3
    rw [hb]
    go_wp2
    go_ret2
    exact sets_nil HN.out rfl (below_drewN (Below.refl _ _) d)
  · have hin := hasB_in hb
    have HG : Hid _ := getS_in (l := l) (k := k) (b := (l.drop k).take 16) hm (by omega) rfl (by omega)
    have HB : Hid _ := hb
    have HP : Hid _ := piece_eq l k 16
    have hbl : ((l.drop k).take 16).length = 16 := piece_len (by omega)
    obtain ⟨b, hbe⟩ : ∃ b, (l.drop k).take 16 = b := ⟨_, rfl⟩
    rw [hbe] at HG HP hbl
    have hk1 : (k : Int) ≤ (k : Int) + 16 := by omega
    have hk2 : (k : Int) + 16 ≤ (l.length : Int) := by omega
    clear hm hb hin hbe
    go_enter Tryz.func139, Tryz.ntmps139
    go_wp2_with fail
    refine (hasBytes_any _ _ _ _ hl2).mono ?_
    rintro e w1 ⟨rfl, hw1⟩
    subst hw1
    rw [H1.out]
    go_wp2_with fail
    rw [HT.out _ (by first | exact Nat.le_refl _ | (rw [ba_size]; exact Nat.le_refl _))]
    refine (hasBit_any (l.drop k) 0 0 _ hdl (by omega) (by omega)).mono ?_
    rintro e w2 ⟨rfl, d, hw2⟩
    have B2 : Below w1.heap.size w1 w2 := by rw [hw2]; exact below_drewN (Below.refl _ _) d
    clear hw2
    rw [HBI.out]
    go_wp2_with fail
    refine (hasBytes_any _ _ _ _ hl2).mono ?_
    rintro e w3 ⟨rfl, hw3⟩
    subst hw3
    rw [HB.out]
    clear H1 HBI HT HB hdl
    go_wp2
    go_loopw [8, 9] (fun v i wr => ∃ t : Nat, 1 ≤ t ∧ t ≤ 128 ∧ i = .int .i64 (t + 1 : Nat) ∧ wr.ownsRow w1.heap.size 3 1 v (numsL b t).length ((numsL b t).map (Value.int .i64)) ∧ Below w1.heap.size w1 wr) (fun _ i _ => 128 + 1 - (intOf i).toNat)
    case atStart => exact ⟨1, Nat.le_refl _, by omega, rfl, by rw [numsL_one]; exact World.ownsRow_nil _ _ _ _, B2⟩
    case round =>
      obtain ⟨t, ht1, ht2, rfl, ho, hbr⟩ := hrel
      by_cases hlt : t < 128
      · have hsu := numsL_succ b t ht1
        have hlen := numsL_len b t
        obtain ⟨n, hn⟩ : ∃ n, t + 1 = n := ⟨_, rfl⟩
        obtain ⟨q, hq⟩ : ∃ q, (n - 1) / 8 = q := ⟨_, rfl⟩
        obtain ⟨r, hr⟩ : ∃ r, (n - 1) % 8 = r := ⟨_, rfl⟩
        have hr8 : r < 8 := by omega
        have hqb : q < b.length := by omega
        have hq16 : q < 16 := by omega
        have HX : Hid (n = 8 * q + r + 1) := by rw [Hid]; omega
        rw [hn] at hsu ⊢
        have hni : (n : Int) ≤ 128 := by omega
        have hp := HP.out
        have HSU : Hid _ := hsu
        have HO : Hid (wr.ownsRow w1.heap.size 3 1 _ (numsL b t).length ((numsL b t).map (Value.int .i64))) := ho
        clear hsu ho hq hr
        cases hbit : bitL b n
        · go_wp2_with fail
          rw [show ((n : Nat) : Int) = ((8 * q + r + 1 : Nat) : Int) from by rw [← HX.out]]
          refine (hasBit_any b q r _ hqb hq16 hr8).mono ?_
          rintro e w3 ⟨rfl, d, hw3⟩
          rw [← HX.out, hbit]
          have hb3 : Below w1.heap.size w1 w3 := by rw [hw3]; exact below_drewN hbr d
          have ho3 := own_drew HO.out hw3
          have HO3 : Hid (w3.ownsRow w1.heap.size 3 1 _ (numsL b t).length ((numsL b t).map (Value.int .i64))) := ho3
          clear ho3
          have HE : Hid (numsL b n = numsL b t) := by rw [Hid, HSU.out, hbit]; simp
          clear hw3 HO hbit
          go_wp2
          go_roundw
          case rel => exact ⟨n, by omega, by omega, by go_num, by rw [HE.out]; exact HO3.out, hb3⟩
          case measure => simp [intOf]; omega
        · go_wp2_with fail
          rw [show ((n : Nat) : Int) = ((8 * q + r + 1 : Nat) : Int) from by rw [← HX.out]]
          refine (hasBit_any b q r _ hqb hq16 hr8).mono ?_
          rintro e w3 ⟨rfl, d, hw3⟩
          rw [← HX.out, hbit]
          have hb3 : Below w1.heap.size w1 w3 := by rw [hw3]; exact below_drewN hbr d
          have ho3 := own_drew HO.out hw3
          have HE : Hid (numsL b n = numsL b t ++ [(n : Int)]) := by rw [Hid, HSU.out, hbit]; simp
          have hsz := hb3.size
          clear hw3 HO hbit
          go_wp2_with (at_builtin; refine wpList_append_own _ rfl (.tmp 41) (.tmp 43) 55 rfl w1.heap.size 3 i3 (.int .i64 0) 1 8 Tryz.underlying55 hi3 hz30 hz31 hz32 rfl (by decide) _ _ _ rfl (ho3.alloc _) ⟨w3.heap.size, 0, none⟩ 1 1 [.int .i64 (n : Int)] rfl rfl (cell_one_new _ _ _) (ints_oneCell .i64 [(n : Int)]) (by unfold maxLen; omega) (by omega) (by simp; omega) ?_; intro v' w4 ho4 hg4 hn4)
          have hb4 : Below w1.heap.size w1 w4 := (hb3.alloc hsz _).grown hg4 (by simp; omega) (fun j hj => (ho3.lt j hj).1)
          clear hg4 hn4 ho3 hb3
          go_wp2
          go_roundw
          case rel => exact ⟨n, by omega, by omega, by go_num, by rw [HE.out]; simpa using ho4, hb4⟩
          case measure => simp [intOf]; omega
      · have hte : t = 128 := by omega
        subst hte
        have hlen := numsL_len b 128
        have HG2 : Hid _ := HG.out
        rw [show 8 * 16 = 128 from rfl] at HG2
        obtain ⟨zs, hzs⟩ : ∃ zs, numsL b 128 = zs := ⟨_, rfl⟩
        rw [hzs] at ho hlen HG2
        clear hzs HG
        obtain ⟨ao, cap, hv, hz⟩ := own_ints ho
        subst hv
        have HO : Hid (wr.ownsRow w1.heap.size 3 1 (.slice ao zs.length cap) zs.length (zs.map (Value.int .i64))) := ho
        clear ho
        have hp := HP.out
        go_wp2_with fail
        refine (iPutSet_any _ _ zs _ hz (by omega)).mono ?_
        rintro e w3 ⟨rfl, b3⟩
        have HO3 : Hid (w3.ownsRow w1.heap.size 3 1 (.slice ao zs.length cap) zs.length (zs.map (Value.int .i64))) := own_keep HO.out b3
        have B3 : Below w1.heap.size w1 w3 := next hbr b3
        clear hz HO b3 hbr
        obtain ⟨r, hr⟩ : ∃ r, putS zs = r := ⟨_, rfl⟩
        rw [hr] at HG2 ⊢
        clear hr
        cases r with
        | none =>
          have HN : Hid _ := HG2.out.2 (by simp)
          clear HG2
          simp only [Option.getD_none, Option.isSome_none]
          go_wp2
          go_ret2
          exact sets_nil HN.out rfl B3
        | some r =>
          simp only [Option.getD_some, Option.isSome_some]
          by_cases hrb : r = b
          · have HN : Hid _ := HG2.out.1 (by rw [hrb])
            subst hrb
            clear HG2
            go_wp2
            go_ret2
            exact sets_own HN.out rfl HO3.out B3
          · have HN : Hid _ := HG2.out.2 (by simpa using hrb)
            clear HG2
            have hrb' : (r == b) = false := by simpa using hrb
            go_wp2
            go_ret2
            exact sets_nil HN.out rfl B3

set_option maxRecDepth 100000 in
set_option maxHeartbeats 1000000 in
theorem iGet_8 (l : List UInt8) (k : Nat) (w : World) (hl : l.length ≤ 1048576) (hk : k < l.length) (hc : (l.getD k 0).toNat < 128) :
    Calls Tryz.prog 139 #[.string ⟨l.toArray⟩, .int .i64 k] w fun e w' => Sets w (getSL l k) (getSI l k) e w' := by
  obtain ⟨i3, hi3, hz30, hz31, hz32⟩ := info_parts info3
  have hm : szB (l.getD k 0) = 8 := by unfold szB; rw [if_neg (by omega)]
  have H1 : Hid (hasB l.length (k : Int) 1 = true) := hasB_pos (by omega) (by omega) (by omega)
  have HBI : Hid (bitL (l.drop k) (8 * 0 + 0 + 1) = false) := by rw [Hid, show 8 * 0 + 0 + 1 = 1 from rfl, bitL_first]; exact decide_eq_false (by omega)
  have HT : Hid _ := tail_eq l k
  have hdl : 0 < (l.drop k).length := by simp; omega
  have hki : (k : Int) < (l.length : Int) := by omega
  have hki2 : (k : Int) ≤ (l.length : Int) := by omega
  have hl2 : l.length ≤ 1099511627776 := by omega
  cases hb : hasB l.length (k : Int) 8
  · have HN : Hid _ := getS_no (getS_out (l := l) (i := k) (by have := hasB_out hb; rw [Int.toNat_natCast, hm]; omega))
    clear hm
    go_enter Tryz.func139, Tryz.ntmps139
    go_wp2_with fail
    refine (hasBytes_any _ _ _ _ hl2).mono ?_
    rintro e w1 ⟨rfl, hw1⟩
    subst hw1
    rw [H1.out]
    go_wp2_with fail
    rw [HT.out _ (by first | exact Nat.le_refl _ | (rw [ba_size]; exact Nat.le_refl _))]
    refine (hasBit_any (l.drop k) 0 0 _ hdl (by omega) (by omega)).mono ?_
    rintro e w2 ⟨rfl, d, hw2⟩
    subst hw2
    rw [HBI.out]
    go_wp2_with fail
    refine (hasBytes_any _ _ _ _ hl2).mono ?_
    rintro e w3 ⟨rfl, hw3⟩
    subst hw3
    rw [hb]
    go_wp2
    go_ret2
    exact sets_nil HN.out rfl (below_drewN (Below.refl _ _) d)
  · have hin := hasB_in hb
    have HG : Hid _ := getS_in (l := l) (k := k) (b := (l.drop k).take 8) hm (by omega) rfl (by omega)
    have HB : Hid _ := hb
    have HP : Hid _ := piece_eq l k 8
    have hbl : ((l.drop k).take 8).length = 8 := piece_len (by omega)
    obtain ⟨b, hbe⟩ : ∃ b, (l.drop k).take 8 = b := ⟨_, rfl⟩
    rw [hbe] at HG HP hbl
    have hk1 : (k : Int) ≤ (k : Int) + 8 := by omega
    have hk2 : (k : Int) + 8 ≤ (l.length : Int) := by omega
    clear hm hb hin hbe
    go_enter Tryz.func139, Tryz.ntmps139
    go_wp2_with fail
    refine (hasBytes_any _ _ _ _ hl2).mono ?_
    rintro e w1 ⟨rfl, hw1⟩
    subst hw1
    rw [H1.out]
    go_wp2_with fail
    rw [HT.out _ (by first | exact Nat.le_refl _ | (rw [ba_size]; exact Nat.le_refl _))]
    refine (hasBit_any (l.drop k) 0 0 _ hdl (by omega) (by omega)).mono ?_
    rintro e w2 ⟨rfl, d, hw2⟩
    have B2 : Below w1.heap.size w1 w2 := by rw [hw2]; exact below_drewN (Below.refl _ _) d
    clear hw2
    rw [HBI.out]
    go_wp2_with fail
    refine (hasBytes_any _ _ _ _ hl2).mono ?_
    rintro e w3 ⟨rfl, hw3⟩
    subst hw3
    rw [HB.out]
    clear H1 HBI HT HB hdl
    go_wp2
    go_loopw [8, 9] (fun v i wr => ∃ t : Nat, 1 ≤ t ∧ t ≤ 64 ∧ i = .int .i64 (t + 1 : Nat) ∧ wr.ownsRow w1.heap.size 3 1 v (numsL b t).length ((numsL b t).map (Value.int .i64)) ∧ Below w1.heap.size w1 wr) (fun _ i _ => 64 + 1 - (intOf i).toNat)
    case atStart => exact ⟨1, Nat.le_refl _, by omega, rfl, by rw [numsL_one]; exact World.ownsRow_nil _ _ _ _, B2⟩
    case round =>
      obtain ⟨t, ht1, ht2, rfl, ho, hbr⟩ := hrel
      by_cases hlt : t < 64
      · have hsu := numsL_succ b t ht1
        have hlen := numsL_len b t
        obtain ⟨n, hn⟩ : ∃ n, t + 1 = n := ⟨_, rfl⟩
        obtain ⟨q, hq⟩ : ∃ q, (n - 1) / 8 = q := ⟨_, rfl⟩
        obtain ⟨r, hr⟩ : ∃ r, (n - 1) % 8 = r := ⟨_, rfl⟩
        have hr8 : r < 8 := by omega
        have hqb : q < b.length := by omega
        have hq16 : q < 16 := by omega
        have HX : Hid (n = 8 * q + r + 1) := by rw [Hid]; omega
        rw [hn] at hsu ⊢
        have hni : (n : Int) ≤ 64 := by omega
        have hp := HP.out
        have HSU : Hid _ := hsu
        have HO : Hid (wr.ownsRow w1.heap.size 3 1 _ (numsL b t).length ((numsL b t).map (Value.int .i64))) := ho
        clear hsu ho hq hr
        cases hbit : bitL b n
        · go_wp2_with fail
          rw [show ((n : Nat) : Int) = ((8 * q + r + 1 : Nat) : Int) from by rw [← HX.out]]
          refine (hasBit_any b q r _ hqb hq16 hr8).mono ?_
          rintro e w3 ⟨rfl, d, hw3⟩
          rw [← HX.out, hbit]
          have hb3 : Below w1.heap.size w1 w3 := by rw [hw3]; exact below_drewN hbr d
          have ho3 := own_drew HO.out hw3
          have HO3 : Hid (w3.ownsRow w1.heap.size 3 1 _ (numsL b t).length ((numsL b t).map (Value.int .i64))) := ho3
          clear ho3
          have HE : Hid (numsL b n = numsL b t) := by rw [Hid, HSU.out, hbit]; simp
          clear hw3 HO hbit
          go_wp2
          go_roundw
          case rel => exact ⟨n, by omega, by omega, by go_num, by rw [HE.out]; exact HO3.out, hb3⟩
          case measure => simp [intOf]; omega
        · go_wp2_with fail
          rw [show ((n : Nat) : Int) = ((8 * q + r + 1 : Nat) : Int) from by rw [← HX.out]]
          refine (hasBit_any b q r _ hqb hq16 hr8).mono ?_
          rintro e w3 ⟨rfl, d, hw3⟩
          rw [← HX.out, hbit]
          have hb3 : Below w1.heap.size w1 w3 := by rw [hw3]; exact below_drewN hbr d
          have ho3 := own_drew HO.out hw3
          have HE : Hid (numsL b n = numsL b t ++ [(n : Int)]) := by rw [Hid, HSU.out, hbit]; simp
          have hsz := hb3.size
          clear hw3 HO hbit
          go_wp2_with (at_builtin; refine wpList_append_own _ rfl (.tmp 41) (.tmp 43) 55 rfl w1.heap.size 3 i3 (.int .i64 0) 1 8 Tryz.underlying55 hi3 hz30 hz31 hz32 rfl (by decide) _ _ _ rfl (ho3.alloc _) ⟨w3.heap.size, 0, none⟩ 1 1 [.int .i64 (n : Int)] rfl rfl (cell_one_new _ _ _) (ints_oneCell .i64 [(n : Int)]) (by unfold maxLen; omega) (by omega) (by simp; omega) ?_; intro v' w4 ho4 hg4 hn4)
          have hb4 : Below w1.heap.size w1 w4 := (hb3.alloc hsz _).grown hg4 (by simp; omega) (fun j hj => (ho3.lt j hj).1)
          clear hg4 hn4 ho3 hb3
          go_wp2
          go_roundw
          case rel => exact ⟨n, by omega, by omega, by go_num, by rw [HE.out]; simpa using ho4, hb4⟩
          case measure => simp [intOf]; omega
      · have hte : t = 64 := by omega
        subst hte
        have hlen := numsL_len b 64
        have HG2 : Hid _ := HG.out
        rw [show 8 * 8 = 64 from rfl] at HG2
        obtain ⟨zs, hzs⟩ : ∃ zs, numsL b 64 = zs := ⟨_, rfl⟩
        rw [hzs] at ho hlen HG2
        clear hzs HG
        obtain ⟨ao, cap, hv, hz⟩ := own_ints ho
        subst hv
        have HO : Hid (wr.ownsRow w1.heap.size 3 1 (.slice ao zs.length cap) zs.length (zs.map (Value.int .i64))) := ho
        clear ho
        have hp := HP.out
        go_wp2_with fail
        refine (iPutSet_any _ _ zs _ hz (by omega)).mono ?_
        rintro e w3 ⟨rfl, b3⟩
        have HO3 : Hid (w3.ownsRow w1.heap.size 3 1 (.slice ao zs.length cap) zs.length (zs.map (Value.int .i64))) := own_keep HO.out b3
        have B3 : Below w1.heap.size w1 w3 := next hbr b3
        clear hz HO b3 hbr
        obtain ⟨r, hr⟩ : ∃ r, putS zs = r := ⟨_, rfl⟩
        rw [hr] at HG2 ⊢
        clear hr
        cases r with
        | none =>
          have HN : Hid _ := HG2.out.2 (by simp)
          clear HG2
          simp only [Option.getD_none, Option.isSome_none]
          go_wp2
          go_ret2
          exact sets_nil HN.out rfl B3
        | some r =>
          simp only [Option.getD_some, Option.isSome_some]
          by_cases hrb : r = b
          · have HN : Hid _ := HG2.out.1 (by rw [hrb])
            subst hrb
            clear HG2
            go_wp2
            go_ret2
            exact sets_own HN.out rfl HO3.out B3
          · have HN : Hid _ := HG2.out.2 (by simpa using hrb)
            clear HG2
            have hrb' : (r == b) = false := by simpa using hrb
            go_wp2
            go_ret2
            exact sets_nil HN.out rfl B3

set_option maxRecDepth 100000 in
set_option maxHeartbeats 400000 in
theorem iGetSet_any (l : List UInt8) (i : Int) (w : World) (hl : l.length ≤ 1048576) :
    Calls Tryz.prog 139 #[.string ⟨l.toArray⟩, .int .i64 i] w fun e w' => Sets w (getSL l i) (getSI l i) e w' := by
  cases h1 : hasB l.length i 1
  · have h1o := hasB_out h1
    have HN : Hid _ := getS_no (getS_out (l := l) (i := i) (by omega))
    have H8 : Hid (hasB l.length i 8 = false) := hasB_neg (by omega)
    go_enter Tryz.func139, Tryz.ntmps139
    go_wp2_with fail
    refine (hasBytes_any _ _ _ _ (by omega)).mono ?_
    rintro e w1 ⟨rfl, hw1⟩
    subst hw1
    rw [h1]
    go_wp2_with fail
    refine (hasBytes_any _ _ _ _ (by omega)).mono ?_
    rintro e w1 ⟨rfl, hw1⟩
    subst hw1
    rw [H8.out]
    go_wp2
    go_ret2
    exact sets_nil HN.out rfl (Below.refl _ _)
  · have hin := hasB_in h1
    obtain ⟨k, rfl⟩ := Int.eq_ofNat_of_zero_le hin.1
    by_cases hc : 128 ≤ (l.getD k 0).toNat
    · exact iGet_16 l k w hl (by omega) hc
    · exact iGet_8 l k w hl (by omega) (by omega)

end Go.Proofs.YtbncdhfmhokgeaaGreatDoor
