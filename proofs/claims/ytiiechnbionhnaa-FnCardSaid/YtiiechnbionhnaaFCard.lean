/- The contracts of the walker's methods, of CardOk and CheckDigit, the program's and the specification's. -/
import Derived.Test.YtiiechnbionhnaaFLeaf
import Derived.Test.YtiiechnbionhnaaCdP
namespace Go.Proofs.Ytiiechnbionhnaa
open Go.RowKit
set_option maxRecDepth 100000

/-- the walker's one cell, which may be written -/
def SumB (b : Nat) (n : Nat) (w : World) : Prop := w.cell? ⟨b, 0, none⟩ = some (.int .i64 n) ∧ w.frozen? ⟨b, 0, none⟩ = false

theorem SumB.put {b n m : Nat} {w : World} (h : SumB b n w) : SumB b m (w.setCell ⟨b, 0, none⟩ (.int .i64 m)) := by
  have h1 := h.1
  have h2 := h.2
  exact ⟨by simp [go_sem, h1], by simp [go_sem, h2]⟩

theorem bel_cell (u : World) (b i : Nat) (x : Value) : Below b u (u.setCell ⟨b, i, none⟩ x) := Below.setCell (Below.refl b u) (show b ≤ b from Nat.le_refl b) x

set_option maxHeartbeats 400000 in
theorem addOnce_any (b n d : Nat) (w : World) (h : SumB b n w) (hn : n ≤ 1000000) (hd : d ≤ 9) :
    Calls Try.prog 35 #[.pointer (some ⟨b, 0, none⟩), .int .i64 d] w fun e w' => e = .returned (.tuple #[]) ∧ SumB b (n + d) w' ∧ Below b w w' := by
  have c0 := h.1
  have z0 := h.2
  have HH : Hid (SumB b n w) := h
  have hwr : IntKind.i64.wrap ((n : Int) + (d : Int)) = ((n + d : Nat) : Int) := by rw [IntKind.wrap_i64]; omega
  clear h
  go_enter Try.func35, Try.ntmps35
  go_wp2
  go_end0
  exact ⟨rfl, HH.out.put, bel_cell _ _ _ _⟩

set_option maxHeartbeats 400000 in
theorem addTwice_any (b n d : Nat) (w : World) (h : SumB b n w) (hn : n ≤ 1000000) (hd : d ≤ 9) :
    Calls Try.prog 36 #[.pointer (some ⟨b, 0, none⟩), .int .i64 d] w fun e w' => e = .returned (.tuple #[]) ∧ SumB b (n + if 9 < 2 * d then 2 * d - 9 else 2 * d) w' ∧ Below b w w' := by
  have c0 := h.1
  have z0 := h.2
  have HH : Hid (SumB b n w) := h
  clear h
  by_cases hb : 9 < 2 * d
  · rw [if_pos hb]
    have hbi : (9 : Int) < 2 * (d : Int) := by omega
    obtain ⟨x, hx⟩ : ∃ x : Nat, 2 * d - 9 = x := ⟨_, rfl⟩
    have hw1 : IntKind.i64.wrap (2 * (d : Int)) = 2 * (d : Int) := by rw [IntKind.wrap_i64]; omega
    have hw2 : IntKind.i64.wrap (2 * (d : Int) - 9) = (x : Int) := by rw [IntKind.wrap_i64]; omega
    have hwr : IntKind.i64.wrap ((n : Int) + (x : Int)) = ((n + x : Nat) : Int) := by rw [IntKind.wrap_i64]; omega
    rw [hx]
    clear hx hb
    go_enter Try.func36, Try.ntmps36
    go_wp2
    go_end0
    exact ⟨rfl, HH.out.put, bel_cell _ _ _ _⟩
  · rw [if_neg hb]
    have hbi : 2 * (d : Int) ≤ 9 := by omega
    have hw1 : IntKind.i64.wrap (2 * (d : Int)) = ((2 * d : Nat) : Int) := by rw [IntKind.wrap_i64]; omega
    have hwr : IntKind.i64.wrap ((n : Int) + ((2 * d : Nat) : Int)) = ((n + 2 * d : Nat) : Int) := by rw [IntKind.wrap_i64]; omega
    clear hb
    go_enter Try.func36, Try.ntmps36
    go_wp2
    go_end0
    exact ⟨rfl, HH.out.put, bel_cell _ _ _ _⟩

def digsB (a b : Nat) (l : List UInt8) : Bool := decide (a ≤ l.length ∧ l.length ≤ b) && within 48 57 l
set_option maxHeartbeats 400000 in
theorem digsIn_any (a b : Nat) (l : List UInt8) (w : World) (hl : l.length ≤ 1099511627776) :
    Calls Try.prog 33 #[.string ⟨l.toArray⟩, .int .i64 a, .int .i64 b] w fun e w' => e = .returned (.bool (digsB a b l)) ∧ w' = w := by
  by_cases h1 : a ≤ l.length
  · have h1' : (a : Int) ≤ (l.length : Int) := by omega
    by_cases h2 : l.length ≤ b
    · have h2' : (l.length : Int) ≤ (b : Int) := by omega
      have HB : Hid (digsB a b l = within 48 57 l) := by rw [Hid]; simp [digsB, h1, h2]
      clear h1 h2
      go_enter Try.func33, Try.ntmps33
      go_wp2_with fail
      refine (iDigits_any l _ hl).mono ?_
      rintro e w1 ⟨rfl, hw⟩
      subst hw
      go_wp2
      go_ret
      exact ⟨one_bool HB.out.symm, rfl⟩
    · have h2' : (b : Int) < (l.length : Int) := by omega
      have HB : Hid (digsB a b l = false) := by rw [Hid]; simp [digsB, h2]
      clear h1 h2
      go_enter Try.func33, Try.ntmps33
      go_wp2
      go_ret
      exact ⟨one_bool HB.out.symm, rfl⟩
  · have h1' : (l.length : Int) < (a : Int) := by omega
    have HB : Hid (digsB a b l = false) := by rw [Hid]; simp [digsB, h1]
    clear h1
    go_enter Try.func33, Try.ntmps33
    go_wp2
    go_ret
    exact ⟨one_bool HB.out.symm, rfl⟩

/-- the method that a place asks for -/
def addF (tw : Bool) (b : Nat) : Value := .func (.func (if tw then 36 else 35)) #[.pointer (some ⟨b, 0, none⟩)] #[]

theorem lastV_step (tw : Bool) (l : List UInt8) (k : Nat) : lastV tw l (k + 1) = lastV tw l k + digV (tw != decide (k % 2 = 1)) (l.getD (l.length - 1 - k) 0) := rfl

set_option maxHeartbeats 1600000 in
theorem walk_any (tw : Bool) (b : Nat) (l : List UInt8) (w : World) (hl : l.length ≤ 10000) (hw : within 48 57 l = true) (h : SumB b 0 w) :
    Calls Try.prog 34 #[.pointer (some ⟨b, 0, none⟩), .string ⟨l.toArray⟩, addF tw b, addF (!tw) b] w fun e w' => e = .returned (.tuple #[]) ∧ SumB b (luhn tw l) w' ∧ Below b w w' := by
  have HS : Hid (SumB b 0 w) := h
  have HW : Hid (within 48 57 l = true) := hw
  have HL : Hid (∀ k, k ≤ l.length → lastV tw l k ≤ 9 * k) := lastV_le tw hw
  clear h hw
  go_enter Try.func34, Try.ntmps34
  go_wp2
  go_loopw [2, 3, 8] (fun f g i wr => ∃ k : Nat, k ≤ l.length ∧ i = .int .i64 ((l.length : Int) - 1 - k) ∧ f = addF (tw != decide (k % 2 = 1)) b ∧ g = addF (!(tw != decide (k % 2 = 1))) b ∧ SumB b (lastV tw l k) wr ∧ Below b w wr) (fun _ _ i _ => (intOf i + 1).toNat)
  case atStart => exact ⟨0, Nat.zero_le _, by simp, by simp, by simp, HS.out, Below.refl _ _⟩
  case round =>
    obtain ⟨k, hk, rfl, rfl, rfl, hs, hb⟩ := hrel
    have HB : Hid (Below b w wr) := hb
    have HSr : Hid (SumB b (lastV tw l k) wr) := hs
    clear hb hs
    by_cases hlt : k < l.length
    · obtain ⟨j, hj⟩ : ∃ j : Nat, l.length - 1 - k = j := ⟨_, rfl⟩
      have hjl : j < l.length := by omega
      have hji : (l.length : Int) - 1 - (k : Int) = (j : Int) := by omega
      have hbd := HL.out k hk
      have hin := within_at HW.out hjl
      have HSt : Hid _ := lastV_step tw l k
      rw [hj] at HSt
      obtain ⟨c, hc⟩ : ∃ c, (⟨l.toArray⟩ : ByteArray)[j]'(by rw [ba_size]; exact hjl) = c := ⟨_, rfl⟩
      rw [(byte_at l j hjl).trans hc] at hin HSt
      obtain ⟨n, hn⟩ : ∃ n, lastV tw l k = n := ⟨_, rfl⟩
      rw [hn] at hbd HSr HSt
      have hnb : n ≤ 1000000 := by omega
      obtain ⟨d, hd⟩ : ∃ d : Nat, c.toNat - 48 = d := ⟨_, rfl⟩
      have hd9 : d ≤ 9 := by omega
      have hwu : IntKind.u8.wrap ((c.toNat : Int) - 48) = (d : Int) := by rw [IntKind.wrap_u8]; omega
      have hwi : IntKind.i64.wrap (d : Int) = (d : Int) := by rw [IntKind.wrap_i64]; omega
      rw [hji]
      have hnx : (tw != decide ((k + 1) % 2 = 1)) = !(tw != decide (k % 2 = 1)) := by
        by_cases h2 : k % 2 = 1
        · have h3 : ¬ (k + 1) % 2 = 1 := by omega
          simp [h2, h3]
        · have h3 : (k + 1) % 2 = 1 := by omega
          simp [h2, h3]
      obtain ⟨p, hp⟩ : ∃ p, (tw != decide (k % 2 = 1)) = p := ⟨_, rfl⟩
      rw [hp] at hnx HSt ⊢
      have HNx : Hid _ := hnx
      have HD : Hid (c.toNat - 48 = d) := hd
      clear hnx hp hj hn hd hbd
      cases p
      · rw [show addF false b = .func (.func 35) #[.pointer (some ⟨b, 0, none⟩)] #[] from rfl, show addF (!false) b = .func (.func 36) #[.pointer (some ⟨b, 0, none⟩)] #[] from rfl]
        have HV : Hid (lastV tw l (k + 1) = n + d) := by rw [Hid, HSt.out]; simp [digV, HD.out]
        clear HSt HD
        go_wp2_with fail
        refine (addOnce_any b n d _ HSr.out hnb hd9).mono ?_
        rintro e u1 ⟨rfl, s1, b1⟩
        have HS1 : Hid (SumB b (n + d) u1) := s1
        have HB1 : Hid (Below b w u1) := HB.out.trans b1
        clear s1 b1
        go_wp2
        go_roundw
        case rel => exact ⟨k + 1, by omega, by congr 1; omega, by rw [HNx.out]; rfl, by rw [HNx.out]; rfl, by rw [HV.out]; exact HS1.out, HB1.out⟩
        case measure => simp [intOf]
      · rw [show addF true b = .func (.func 36) #[.pointer (some ⟨b, 0, none⟩)] #[] from rfl, show addF (!true) b = .func (.func 35) #[.pointer (some ⟨b, 0, none⟩)] #[] from rfl]
        have HV : Hid (lastV tw l (k + 1) = n + if 9 < 2 * d then 2 * d - 9 else 2 * d) := by rw [Hid, HSt.out]; simp [digV, HD.out]
        clear HSt HD
        go_wp2_with fail
        refine (addTwice_any b n d _ HSr.out hnb hd9).mono ?_
        obtain ⟨m, hm⟩ : ∃ m : Nat, (n + if 9 < 2 * d then 2 * d - 9 else 2 * d) = m := ⟨_, rfl⟩
        rw [hm] at HV ⊢
        clear hm
        rintro e u1 ⟨rfl, s1, b1⟩
        have HS1 : Hid (SumB b m u1) := s1
        have HB1 : Hid (Below b w u1) := HB.out.trans b1
        clear s1 b1
        go_wp2
        go_roundw
        case rel => exact ⟨k + 1, by omega, by congr 1; omega, by rw [HNx.out]; rfl, by rw [HNx.out]; rfl, by rw [HV.out]; exact HS1.out, HB1.out⟩
        case measure => simp [intOf]
    · have hke : k = l.length := by omega
      subst hke
      have hji : (l.length : Int) - 1 - (l.length : Int) = -1 := by omega
      rw [hji]
      go_wp2
      go_end0
      exact ⟨rfl, HSr.out, HB.out⟩

theorem sum_new (w : World) (t : TypeId) : SumB w.heap.size 0 (w.alloc (.cells #[.int .i64 0] t)) := ⟨by simp, by simp [go_sem]⟩

theorem ok_short {l : List UInt8} (h : digsB 12 19 l = false) : cardOk l = false := by
  unfold cardOk
  unfold digsB at h
  rw [← Bool.and_assoc, h]
  rfl
theorem ok_sum {l : List UInt8} (h : digsB 12 19 l = true) : cardOk l = decide (luhn false l % 10 = 0) := by
  unfold cardOk
  unfold digsB at h
  rw [← Bool.and_assoc, h]
  rfl
theorem digs_in {a b : Nat} {l : List UInt8} (h : digsB a b l = true) : (a ≤ l.length ∧ l.length ≤ b) ∧ within 48 57 l = true := by
  unfold digsB at h
  rw [Bool.and_eq_true] at h
  exact ⟨of_decide_eq_true h.1, h.2⟩

set_option maxHeartbeats 1600000 in
theorem iCardOk_any (l : List UInt8) (w : World) (hl : l.length ≤ 1099511627776) :
    Calls Try.prog 12 #[.string ⟨l.toArray⟩] w fun e w' => e = .returned (.bool (cardOk l)) ∧ Below w.heap.size w w' := by
  have hmf : ∀ (fn : Fn) (first cap : Array Value) (w : World), (Instr.makeFunc fn first cap).run Try.prog w = .ok (.func fn first cap) w := fun _ _ _ _ => rfl
  have b0 : Below w.heap.size w (w.alloc (.cells #[.int .i64 0] 40)) := (Below.refl _ _).alloc (Nat.le_refl _) _
  cases hd : digsB 12 19 l
  · have HN : Hid _ := ok_short hd
    have HB0 : Hid _ := b0
    clear b0
    go_enter Try.func12, Try.ntmps12
    go_wp2
    refine wp_scope_ahead 0 rfl ?_
    go_wp2_with fail
    refine (digsIn_any 12 19 l _ hl).mono ?_
    rintro e w1 ⟨rfl, hw⟩
    subst hw
    rw [hd]
    go_wp2
    go_step3
    refine ⟨rfl, ?_⟩
    go_wp2
    rw [Exit.noGoto_ret]
    go_ret
    exact ⟨one_bool HN.out.symm, HB0.out⟩
  · have HO : Hid _ := ok_sum hd
    have HI : Hid ((12 ≤ l.length ∧ l.length ≤ 19) ∧ within 48 57 l = true) := digs_in hd
    have HB0 : Hid _ := b0
    clear b0
    have HSN : Hid (SumB w.heap.size 0 (w.alloc (.cells #[.int .i64 0] 40))) := sum_new _ _
    have HLn : Hid (luhn false l ≤ 9 * l.length) := lastV_le false (digs_in hd).2 _ (Nat.le_refl _)
    obtain ⟨n, hn⟩ : ∃ n, luhn false l = n := ⟨_, rfl⟩
    rw [hn] at HO HLn
    by_cases hz : n % 10 = 0
    · rw [decide_eq_true hz] at HO
      have hti : (n : Int).tmod 10 = 0 := by rw [Int.tmod_eq_emod_of_nonneg (by omega)]; omega
      go_enter Try.func12, Try.ntmps12
      go_wp2
      refine wp_scope_ahead 0 rfl ?_
      go_wp2_with fail
      refine (digsIn_any 12 19 l _ hl).mono ?_
      rintro e w1 ⟨rfl, hw⟩
      subst hw
      rw [hd]
      go_wp2_with fail
      refine (walk_any false w.heap.size l _ (by have := HI.out.1.2; omega) HI.out.2 HSN.out).mono ?_
      rintro e u1 ⟨rfl, s1, b1⟩
      rw [hn] at s1
      have c0 := s1.1
      have HB1 : Hid (Below w.heap.size w u1) := HB0.out.trans b1
      clear s1 b1 hn
      go_wp2
      simp only [Exit.jump]
      go_ret
      exact ⟨one_bool HO.out.symm, HB1.out⟩
    · rw [decide_eq_false hz] at HO
      have hti : (n : Int).tmod 10 = ((n % 10 : Nat) : Int) := by rw [Int.tmod_eq_emod_of_nonneg (by omega)]; omega
      obtain ⟨r, hr⟩ : ∃ r, n % 10 = r := ⟨_, rfl⟩
      rw [hr] at hti hz
      have hri : ¬ (r : Int) = 0 := by omega
      have hrl : r ≤ 10 := by omega
      clear hr hz
      go_enter Try.func12, Try.ntmps12
      go_wp2
      refine wp_scope_ahead 0 rfl ?_
      go_wp2_with fail
      refine (digsIn_any 12 19 l _ hl).mono ?_
      rintro e w1 ⟨rfl, hw⟩
      subst hw
      rw [hd]
      go_wp2_with fail
      refine (walk_any false w.heap.size l _ (by have := HI.out.1.2; omega) HI.out.2 HSN.out).mono ?_
      rintro e u1 ⟨rfl, s1, b1⟩
      rw [hn] at s1
      have c0 := s1.1
      have HB1 : Hid (Below w.heap.size w u1) := HB0.out.trans b1
      clear s1 b1 hn
      go_wp2
      go_step3
      refine ⟨rfl, ?_⟩
      go_wp2
      rw [Exit.noGoto_ret]
      go_ret
      exact ⟨one_bool HO.out.symm, HB1.out⟩

end Go.Proofs.Ytiiechnbionhnaa
