/- The contracts of the program's allBytesWithin, allFilling, lengthAt. -/
import Derived.Test.YtbncdhfmhokgeaaFRow
import Derived.Handy
namespace Go.Proofs.Ytbncdhfmhokgeaa
open Go.RowKit
set_option maxRecDepth 100000

set_option maxHeartbeats 400000 in
theorem within6_any (l : List UInt8) (a b : Nat) (w : World) (hl : l.length ≤ 1099511627776) :
    Calls Try.prog 40 #[.string ⟨l.toArray⟩, .int .u8 a, .int .u8 b] w fun e w' => e = .returned (.bool (within a b l)) ∧ w' = w := by
  go_enter Try.func40, Try.ntmps40
  go_wp2
  go_loop [7, 10] (fun _ i => ∃ k : Nat, k ≤ l.length ∧ i = .int .i64 k ∧ within a b l = within a b (l.drop k)) (fun _ i => l.length - (intOf i).toNat)
  case atStart => exact ⟨0, Nat.zero_le _, rfl, rfl⟩
  case round =>
    obtain ⟨k, hk, rfl, ht⟩ := hrel
    by_cases hlt : k < l.length
    · have hki : (k : Int) < (l.length : Int) := by omega
      have hs := within_step a b l k hlt
      obtain ⟨c, hc⟩ : ∃ c, (⟨l.toArray⟩ : ByteArray)[k]'(by rw [ba_size]; exact hlt) = c := ⟨_, rfl⟩
      rw [(byte_at l k hlt).trans hc] at hs
      have HS : Hid _ := ht.trans hs
      clear hs ht
      by_cases h1 : a ≤ c.toNat
      · have h1' : (a : Int) ≤ (c.toNat : Int) := by omega
        by_cases h2 : c.toNat ≤ b
        · have h2' : (c.toNat : Int) ≤ (b : Int) := by omega
          have HY : Hid (within a b l = within a b (l.drop (k + 1))) := by rw [Hid, HS.out]; simp [h1, h2]
          clear HS
          go_wp2
          go_round
          case rel => exact ⟨k + 1, by omega, by go_num, HY.out⟩
          case measure => simp [intOf]; omega
        · have h2' : (b : Int) < (c.toNat : Int) := by omega
          have HN : Hid (within a b l = false) := by rw [Hid, HS.out]; simp [h2]
          clear HS
          go_wp2
          go_ret
          exact ⟨one_bool (by rw [HN.out]), rfl⟩
      · have h1' : (c.toNat : Int) < (a : Int) := by omega
        have HN : Hid (within a b l = false) := by rw [Hid, HS.out]; simp [h1]
        clear HS
        go_wp2
        go_ret
        exact ⟨one_bool (by rw [HN.out]), rfl⟩
    · have hke : k = l.length := by omega
      subst hke
      have HY : Hid (within a b l = true) := by rw [Hid, ht]; exact within_end a b l
      clear ht
      go_wp2
      go_ret
      exact ⟨one_bool (by rw [HY.out]), rfl⟩

set_option maxHeartbeats 400000 in
theorem allFilling_any (g o c : Nat) (l : List UInt8) (w : World) (h : ∀ j x, l[j]? = some x → w.cell? ⟨g, o + j, none⟩ = some (.int .u8 (x.toNat : Int))) (hl : l.length ≤ 1099511627776) :
    Calls Try.prog 29 #[.slice (some ⟨g, o, none⟩) l.length c] w fun e w' => e = .returned (.bool (within 64 64 l)) ∧ w' = w := by
  have ht := text_at (c := c) h
  clear h
  go_enter Try.func29, Try.ntmps29
  go_wp2_with fail
  refine (within6_any l 64 64 _ hl).mono ?_
  rintro e w2 ⟨rfl, hw2⟩
  rw [hw2]
  clear hw2
  go_wp2
  go_ret
  exact ⟨rfl, rfl⟩

theorem or_0 (x : Nat) (h : x < 256) : bits BinOp.or IntKind.i64 0 (x : Int) = (x : Int) := by
  have e : bits .or .i64 0 (x : Int) = IntKind.i64.wrap (((BitVec.ofInt 64 0 ||| BitVec.ofInt 64 (x : Int)).toNat : Nat) : Int) := rfl
  rw [e, BitVec.toNat_or, BitVec.toNat_ofInt, BitVec.toNat_ofInt]
  have h1 : ((0 : Int) % ((2 ^ 64 : Nat) : Int)).toNat = 0 := rfl
  have h2 : ((x : Int) % ((2 ^ 64 : Nat) : Int)).toNat = x := by omega
  rw [h1, h2, Nat.zero_or]
  simp [IntKind.wrap, IntKind.bits, IntKind.signed]; omega
theorem or_256 (y x : Nat) (hy : y < 1099511627776) (h : x < 256) : bits BinOp.or IntKind.i64 (wrap64 ((y : Int) * 256)) (x : Int) = ((y * 256 + x : Nat) : Int) := by
  have hw : wrap64 ((y : Int) * 256) = ((y * 256 : Nat) : Int) := by unfold wrap64; omega
  rw [hw]
  have e : bits .or .i64 ((y * 256 : Nat) : Int) (x : Int) = IntKind.i64.wrap (((BitVec.ofInt 64 ((y * 256 : Nat) : Int) ||| BitVec.ofInt 64 (x : Int)).toNat : Nat) : Int) := rfl
  rw [e, BitVec.toNat_or, BitVec.toNat_ofInt, BitVec.toNat_ofInt]
  have h1 : (((y * 256 : Nat) : Int) % ((2 ^ 64 : Nat) : Int)).toNat = y * 256 := by omega
  have h2 : ((x : Int) % ((2 ^ 64 : Nat) : Int)).toNat = x := by omega
  have h3 := Nat.two_pow_add_eq_or_of_lt (i := 8) (by simpa using h : x < 2 ^ 8) y
  rw [h1, h2, show y * 256 = 2 ^ 8 * y by omega, ← h3]
  simp [IntKind.wrap, IntKind.bits, IntKind.signed]; omega

set_option maxRecDepth 100000 in
set_option maxHeartbeats 1600000 in
theorem lengthAt_any (g c a : Nat) (l : List UInt8) (w : World) (hr : Row w g l) (ha : a + 4 ≤ l.length) (hl : l.length ≤ 100000) (hc : l.length ≤ c) :
    Calls Try.prog 39 #[.slice (some ⟨g, 0, none⟩) l.length c, .int .i64 a] w fun e w' => e = .returned (.int .i64 (num4 l a : Nat)) ∧ w' = w := by
  have c0 := hr.at (k := a) (by omega)
  have c1 := hr.at (k := a + 1) (by omega)
  have c2 := hr.at (k := a + 2) (by omega)
  have c3 := hr.at (k := a + 3) (by omega)
  have hs := fun W => sl_lh (g := g) (o := 0) (n := l.length) (c := c) (x := (a : Int)) (y := (a : Int) + 4) a (a + 4) rfl (by omega) (by omega) (by omega) (by omega) W
  rw [Nat.zero_add, Nat.add_sub_cancel_left] at hs
  have HE : Hid (num4 l a = (l.getD a 0).toNat * 16777216 + (l.getD (a + 1) 0).toNat * 65536 + (l.getD (a + 2) 0).toNat * 256 + (l.getD (a + 3) 0).toNat) := rfl
  have b0 := (l.getD a 0).toNat_lt
  have b1 := (l.getD (a + 1) 0).toNat_lt
  have b2 := (l.getD (a + 2) 0).toNat_lt
  have b3 := (l.getD (a + 3) 0).toNat_lt
  generalize (l.getD a 0).toNat = x0 at c0 b0 HE
  generalize (l.getD (a + 1) 0).toNat = x1 at c1 b1 HE
  generalize (l.getD (a + 2) 0).toNat = x2 at c2 b2 HE
  generalize (l.getD (a + 3) 0).toNat = x3 at c3 b3 HE
  have o0 := or_0 x0 b0
  have o1 := or_256 x0 x1 (by omega) b1
  have o2 := or_256 (x0 * 256 + x1) x2 (by omega) b2
  have o3 := or_256 ((x0 * 256 + x1) * 256 + x2) x3 (by omega) b3
  have O : Hid _ := And.intro o0 (And.intro o1 (And.intro o2 o3))
  clear hr o0 o1 o2 o3
  go_enter Try.func39, Try.ntmps39
  go_wp2
  refine wp_loop_rounds 5 ?_
  rw [rounds_succ]
  go_wp2
  rw [rounds_succ]
  go_wp2
  rw [rounds_succ]
  go_wp2
  rw [rounds_succ]
  go_wp2
  rw [rounds_succ]
  go_wp2
  go_ret
  refine ⟨one_int ?_, rfl⟩
  rw [O.out.1, O.out.2.1, O.out.2.2.1, O.out.2.2.2, HE.out]
  congr 1
  omega

end Go.Proofs.Ytbncdhfmhokgeaa
