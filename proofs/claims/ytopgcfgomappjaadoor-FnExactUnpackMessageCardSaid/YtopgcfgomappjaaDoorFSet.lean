/- The contracts of PutSet, the program's. -/
import Derived.Test.YtopgcfgomappjaaDoorFBytes
import Derived.Test.YtopgcfgomappjaaDoorSetP
import Derived.Test.YtopgcfgomappjaaDoorInts
namespace Go.Proofs.YtopgcfgomappjaaDoor
open Go.RowKit

theorem and7 : ∀ x : Fin 128, bits .and .i64 (x.val : Int) 7 = ((x.val % 8 : Nat) : Int) := by decide +kernel

theorem int_byte {a b x y : Int} (h : a = b) (g : x = y) : Ending.returned (.tuple #[.int .i64 a, .int .u8 x]) = .returned (.tuple #[.int .i64 b, .int .u8 y]) := by rw [h, g]
theorem bitV_eq (r : Nat) (hr : r < 8) : bitV r = 128 / 2 ^ r := by
  rcases (show r = 0 ∨ r = 1 ∨ r = 2 ∨ r = 3 ∨ r = 4 ∨ r = 5 ∨ r = 6 ∨ r = 7 from by omega) with rfl | rfl | rfl | rfl | rfl | rfl | rfl | rfl <;> rfl

set_option maxRecDepth 100000 in
set_option maxHeartbeats 800000 in
theorem bitPlace_any (q r : Nat) (w : World) (hq : q < 16) (hr : r < 8) :
    Calls Tryd.prog 67 #[.int .i64 (8 * q + r + 1 : Nat)] w fun e w' => e = .returned (.tuple #[.int .i64 q, .int .u8 (bitV r)]) ∧ ∃ d, w' = w.drewN d := by
  obtain ⟨n, hn⟩ : ∃ n, 8 * q + r + 1 = n := ⟨_, rfl⟩
  rw [hn]
  have hn1 : (1 : Int) ≤ (n : Int) := by omega
  have hn2 : (n : Int) ≤ 128 := by omega
  have ha : bits .and .i64 ((n : Int) - 1) 7 = (r : Int) := by
    have := and7 ⟨n - 1, by omega⟩
    simp only at this
    rw [show (n : Int) - 1 = ((n - 1 : Nat) : Int) from by omega, this]
    omega
  go_enter Tryd.func67, Tryd.ntmps67
  go_wp2
  go_quiet (fail)
  go_wp2
  go_ret2
  exact ⟨int_byte (by omega) (bitV_eq r hr).symm, _, rfl⟩

/-- what the cells of a set's bytes hold -/
def cellsS (f : Nat → Bool) (m : Nat) : List Value := (List.range m).map fun k => Value.int .u8 (partB f k 8)
theorem cellsS_text (f : Nat → Bool) (m : Nat) : cellsS f m = (setB f m).map cell := by
  unfold cellsS setB
  rw [List.map_map]
  refine List.map_congr_left fun k _ => ?_
  simp only [Function.comp, cell, byteOf_nat]
theorem cellsS_none (m : Nat) : (List.replicate m (0 : UInt8)).map cell = cellsS (fun _ => false) m := by
  have h : ∀ k b, partB (fun _ => false) k b = 0 := by
    intro k b
    induction b with
    | zero => rfl
    | succ b ih => rw [partB, ih]; rfl
  apply List.ext_getElem?
  intro i
  by_cases hi : i < m
  · simp [hi, cell, cellsS, h]
  · simp [hi, cellsS]

theorem gdN {w w' : World} {row : Option Nat} (h : w.grownBy w' row) (n : Nat) : w.grownBy (w'.drewN n) row := ⟨h.os, h.tape, h.output, h.size, h.block⟩

set_option maxRecDepth 100000 in
set_option maxHeartbeats 800000 in
theorem putBit_any (g m cap base q r : Nat) (f : Nat → Bool) (w : World) (ho : w.ownsRow base 5 1 (.slice (some ⟨g, 0, none⟩) m cap) m (cellsS f m)) (hm : m ≤ 16) (hq : q < m) (hr : r < 8) :
    Calls Tryd.prog 51 #[.slice (some ⟨g, 0, none⟩) m cap, .int .i64 (8 * q + r + 1 : Nat)] w fun e w' => e = .returned (.tuple #[]) ∧ w'.ownsRow base 5 1 (.slice (some ⟨g, 0, none⟩) m cap) m (cellsS (addB f (8 * q + r + 1)) m) ∧ w.grownBy w' (some g) := by
  have c2 : w.cell? ⟨g, q, none⟩ = some (.int .u8 (partB f q 8)) := by rw [ho.cellAt q (by omega)]; simp [cellsS, hq]
  have c3 : w.frozen? ⟨g, q, none⟩ = false := ho.frozenAt q
  have HST : Hid (∀ d, ((w.drewN d).setCell ⟨g, q, none⟩ (.int .u8 (bits .or .u8 (partB f q 8 : Int) (bitV r)))).ownsRow base 5 1 (.slice (some ⟨g, 0, none⟩) m cap) m (cellsS (addB f (8 * q + r + 1)) m) ∧ w.grownBy ((w.drewN d).setCell ⟨g, q, none⟩ (.int .u8 (bits .or .u8 (partB f q 8 : Int) (bitV r)))) (some g)) := by
    intro d
    have hod : (w.drewN d).ownsRow base 5 1 (.slice (some ⟨g, 0, none⟩) m cap) m (cellsS f m) := ho
    have h := hod.stored q (.int .u8 (bits .or .u8 (partB f q 8 : Int) (bitV r)))
    refine ⟨?_, (gdN (World.grownBy.refl w _) d).trans h.2⟩
    have e := map_range_set (fun k => Value.int .u8 (partB f k 8)) (fun k => Value.int .u8 (partB (addB f (8 * q + r + 1)) k 8)) m q (fun i hi => by rw [partB_add f q r i hr hi])
    have h1 := h.1
    rw [partB_or f q r hr] at h1 ⊢
    unfold cellsS at h1 ⊢
    rw [e] at h1
    exact h1
  have hqi : (q : Int) < (m : Int) := by omega
  clear ho
  go_enter Tryd.func51, Tryd.ntmps51
  go_wp2_with fail
  refine (bitPlace_any q r _ (by omega) hr).mono ?_
  rintro e w1 ⟨rfl, d, rfl⟩
  go_wp2
  go_end0
  exact ⟨rfl, HST.out d⟩

set_option maxRecDepth 100000 in
set_option maxHeartbeats 800000 in
theorem hasBit_any (l : List UInt8) (q r : Nat) (w : World) (hq : q < l.length) (hq16 : q < 16) (hr : r < 8) :
    Calls Tryd.prog 98 #[.string ⟨l.toArray⟩, .int .i64 (8 * q + r + 1 : Nat)] w fun e w' => e = .returned (.bool (bitL l (8 * q + r + 1))) ∧ ∃ d, w' = w.drewN d := by
  obtain ⟨c, hc⟩ : ∃ c, (⟨l.toArray⟩ : ByteArray)[q]'(by rw [ba_size]; exact hq) = c := ⟨_, rfl⟩
  have HB : Hid ((bits .and .u8 (c.toNat : Int) (bitV r) != 0) = bitL l (8 * q + r + 1)) := by
    have h := and_bit ⟨c.toNat, c.toNat_lt⟩ ⟨r, hr⟩
    unfold bitL
    rw [show (8 * q + r + 1 - 1) / 8 = q from by omega, show (8 * q + r + 1 - 1) % 8 = r from by omega, (byte_at l q hq).trans hc]
    exact h
  have hqi : (q : Int) < (l.length : Int) := by omega
  go_enter Tryd.func98, Tryd.ntmps98
  go_wp2_with fail
  refine (bitPlace_any q r _ hq16 hr).mono ?_
  rintro e w1 ⟨rfl, d, rfl⟩
  go_wp2
  go_ret
  exact ⟨one_bool HB.out, d, rfl⟩

set_option maxRecDepth 100000 in
set_option maxHeartbeats 800000 in
theorem isSet_any (ao : Option Addr) (cap : Nat) (zs : List Int) (w : World) (hx : IntsAt w ao zs) (hl : zs.length ≤ 1099511627776) :
    Calls Tryd.prog 50 #[.slice ao zs.length cap] w fun e w' => e = .returned (.bool (ascS 1 zs)) ∧ w' = w := by
  rcases hx with rfl | ⟨b, off, rfl, hb, hcx⟩
  · go_enter Tryd.func50, Tryd.ntmps50
    go_wp2
    refine wp_loop_rounds 1 ?_
    rw [rounds_succ]
    go_wp2
    go_ret
    exact ⟨rfl, rfl⟩
  · go_enter Tryd.func50, Tryd.ntmps50
    go_wp2
    go_loop [3, 5, 8] (fun l _ i => ∃ (k : Nat) (p : Int), k ≤ zs.length ∧ i = .int .i64 k ∧ l = .int .i64 p ∧ ascS 1 zs = ascS p (zs.drop k)) (fun _ _ i => zs.length - (intOf i).toNat)
    case atStart => exact ⟨0, 1, Nat.zero_le _, rfl, rfl, rfl⟩
    case round =>
      obtain ⟨k, p, hk, rfl, rfl, ht⟩ := hrel
      by_cases hlt : k < zs.length
      · have e1 := hcx k hlt
        have hs := ascS_step zs k p hlt
        obtain ⟨x, hxk⟩ : ∃ x, zs.getD k 0 = x := ⟨_, rfl⟩
        rw [hxk] at e1 hs
        have HK : Hid _ := ht.trans hs
        have hki : (k : Int) < (zs.length : Int) := by omega
        clear hcx hxk ht hs
        by_cases hp : p < x
        · by_cases h128 : x ≤ 128
          · have HY : Hid (ascS 1 zs = ascS x (zs.drop (k + 1))) := by rw [Hid, HK.out, decide_eq_true ⟨hp, h128⟩]; rfl
            go_wp2
            go_round
            case rel => exact ⟨k + 1, x, by omega, by go_num, rfl, HY.out⟩
            case measure => simp [intOf]; omega
          · have HN : Hid (ascS 1 zs = false) := by rw [Hid, HK.out, decide_eq_false (fun h => h128 h.2)]; rfl
            have h' : 128 < x := by omega
            go_wp2
            go_ret
            exact ⟨one_bool HN.out.symm, rfl⟩
        · have hp' : x ≤ p := by omega
          have HN : Hid (ascS 1 zs = false) := by rw [Hid, HK.out, decide_eq_false (fun h => hp h.1)]; rfl
          go_wp2
          go_ret
          exact ⟨one_bool HN.out.symm, rfl⟩
      · have HE : Hid (ascS 1 zs = true) := by rw [Hid, ht, List.drop_of_length_le (by omega)]; rfl
        have hki : ¬ (k : Int) < (zs.length : Int) := by omega
        clear hcx ht
        go_wp2
        go_ret
        exact ⟨one_bool HE.out.symm, rfl⟩

/-- the bits when the first k numbers are put -/
def bitK (zs : List Int) (k : Nat) (n : Nat) : Bool := (decide (n = 1) && wide zs) || (zs.take k).contains (n : Int)
theorem bitK_all (zs : List Int) (k : Nat) (h : zs.length ≤ k) : bitK zs k = bitS zs := by
  funext n; unfold bitK bitS; rw [List.take_of_length_le h]
theorem bitK_succ (zs : List Int) (k m : Nat) (h : k < zs.length) (hm : zs.getD k 0 = (m : Int)) : bitK zs (k + 1) = addB (bitK zs k) m := by
  funext n
  have e : zs[k] = (m : Int) := by rw [← hm]; simp [List.getD_eq_getElem?_getD, h]
  unfold addB bitK
  rw [List.take_add_one, List.getElem?_eq_getElem h, e, Bool.or_assoc]
  congr 1
  by_cases hn : n = m
  · subst hn; simp
  · have : ¬ (n : Int) = (m : Int) := by omega
    simp [hn, this]
theorem bitK_zero_wide {zs : List Int} (h : wide zs = true) : addB (fun _ => false) (8 * 0 + 0 + 1) = bitK zs 0 := by
  funext n; unfold addB bitK; rw [h]; simp
theorem bitK_zero_small {zs : List Int} (h : wide zs = false) : (fun _ => false) = bitK zs 0 := by
  funext n; unfold bitK; rw [h]; simp
theorem set_bd {zs : List Int} {k : Nat} (h : ascS 1 zs = true) (hk : k < zs.length) : 2 ≤ zs.getD k 0 ∧ zs.getD k 0 ≤ 8 * sizeS zs := by
  have hm : zs.getD k 0 ∈ zs := by simp [List.getD_eq_getElem?_getD, hk]
  have hb := ascS_mem h _ hm
  rcases sizeS_or zs with ⟨h1, _⟩ | ⟨h1, h2⟩
  · rw [h1]; omega
  · have : ¬ 64 < zs.getD k 0 := by
      intro hx
      have : wide zs = true := List.any_eq_true.2 ⟨_, hm, by simpa using hx⟩
      rw [h2] at this; cases this
    rw [h1]; omega

end Go.Proofs.YtopgcfgomappjaaDoor
