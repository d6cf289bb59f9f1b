/- What is drawn for cards: a text of some bytes. -/
import Derived.Test.YtiiechnbionhnaaFCard3
import Derived.Test.YtiiechnbionhnaaDrawn
import Derived.Test.YtiiechnbionhnaaDrawT
import Derived.Test.YtiiechnbionhnaaDec3
import Derived.Test.YtiiechnbionhnaaDecT
namespace Go.Proofs.Ytiiechnbionhnaa
open Go.RowKit
set_option maxRecDepth 100000

theorem lit_strs (w : World) (zs : List (List UInt8)) (arr : Array Value) (t : TypeId) (h : arr = (zs.map fun l => Value.string ⟨l.toArray⟩).toArray) :
    ∀ i, i < zs.length → (w.alloc (.cells arr t)).cell? ⟨w.heap.size, i, none⟩ = some (.string ⟨(zs.getD i []).toArray⟩) := by
  intro i hi
  subst h
  simp [List.getD_eq_getElem?_getD, hi]

set_option maxHeartbeats 800000 in
theorem pick_any {B : Nat} (g b cap : Nat) (zs : List (List UInt8)) (w : World) (hc : Cursor B w g) (hbg : b ≠ g) (hz : ∀ i, i < zs.length → w.cell? ⟨b, i, none⟩ = some (.string ⟨(zs.getD i []).toArray⟩)) (h1 : 1 ≤ zs.length) (h2 : zs.length ≤ 1000) :
    Calls Try.prog 58 #[.pointer (some ⟨g, 0, none⟩), .slice (some ⟨b, 0, none⟩) zs.length cap] w fun e w' => ∃ x : List UInt8, e = .returned (.string ⟨x.toArray⟩) ∧ x ∈ zs ∧ Cursor B w' g ∧ w.grownBy w' (some g) := by
  go_enter Try.func58, Try.ntmps58
  go_wp2_with fail
  refine (below_any _ _ _ hc (by omega)).mono ?_
  rintro e w1 ⟨x, rfl, x0, x1, c1, g1⟩
  have hx := x1 (by omega)
  obtain ⟨k, rfl⟩ := Int.eq_ofNat_of_zero_le x0
  have hk : k < zs.length := by omega
  have cb : w1.cell? ⟨b, k, none⟩ = some (.string ⟨(zs.getD k []).toArray⟩) := g1.cell (a := ⟨b, k, none⟩) (hz k hk) (by simpa using hbg)
  have hm : zs.getD k [] ∈ zs := by simp [List.getD_eq_getElem?_getD, hk]
  generalize zs.getD k [] = z at cb hm
  clear hz x1
  go_wp2
  go_ret
  exact ⟨z, rfl, hm, c1, g1⟩

/-- what a drawn card's text is known by -/
def CT (B g : Nat) (w : World) (e : Ending) (w' : World) : Prop := ∃ l : List UInt8, e = .returned (.string ⟨l.toArray⟩) ∧ 1 ≤ l.length ∧ l.length ≤ 100 ∧ Cursor B w' g ∧ Below g w w' ∧ w.heap.size ≤ w'.heap.size

theorem bel_gr {w w1 w2 : World} {g : Nat} (h : Below g w w1) (hg : w1.grownBy w2 (some g)) (hs : w.heap.size ≤ w1.heap.size) (hlt : g < w.heap.size) : Below g w w2 ∧ w.heap.size ≤ w2.heap.size :=
  ⟨h.grown hg (by omega) (fun k hk => by cases hk; exact Nat.le_refl _), Nat.le_trans hs hg.size⟩

set_option maxHeartbeats 3200000 in
theorem card_any {B : Nat} (g : Nat) (w : World) (hc : Cursor B w g) :
    Calls Try.prog 43 #[.pointer (some ⟨g, 0, none⟩)] w (CT B g w) := by
  have cb := cursor_bd hc
  have hgl : g < w.heap.size := by omega
  go_enter Try.func43, Try.ntmps43
  go_wp2_with fail
  refine (below_any _ _ _ hc (by omega)).mono ?_
  rintro e w1 ⟨x, rfl, x0, x1, c1, g1⟩
  have hx := x1 (by omega)
  obtain ⟨n, hn⟩ : ∃ n : Nat, 11 + x = (n : Int) := ⟨(11 + x).toNat, by omega⟩
  have hwn : IntKind.i64.wrap (11 + x) = (n : Int) := by rw [IntKind.wrap_i64]; omega
  have hn1 : 11 ≤ n := by omega
  have hn2 : n ≤ 18 := by omega
  obtain ⟨b1, s1⟩ := bel_gr (Below.refl g w) g1 (Nat.le_refl _) hgl
  clear g1 x1 hn hc
  go_wp2
  go_loopw [3, 5] (fun v i wr => ∃ (k : Nat) (l : List UInt8), k ≤ n ∧ i = .int .i64 k ∧ v = .string ⟨l.toArray⟩ ∧ l.length = k ∧ Cursor B wr g ∧ Below g w wr ∧ w.heap.size ≤ wr.heap.size) (fun _ i _ => n - (intOf i).toNat)
  case atStart => exact ⟨0, [], Nat.zero_le _, rfl, rfl, rfl, c1, b1, s1⟩
  case round =>
    obtain ⟨k, l, hk, rfl, rfl, hll, hcr, hbr, hsr⟩ := hrel
    clear c1 b1 s1 hx hwn
    by_cases hlt : k < n
    · have hki : (k : Int) < (n : Int) := by omega
      go_wp2_with fail
      refine (below_any _ _ _ hcr (by omega)).mono ?_
      rintro e w3 ⟨z, rfl, z0, z1, c3, g3⟩
      have hz10 := z1 (by omega)
      obtain ⟨b3, s3⟩ := bel_gr hbr g3 hsr hgl
      obtain ⟨d, rfl⟩ := Int.eq_ofNat_of_zero_le z0
      have HD : Hid (Lib.decDigits d = [UInt8.ofNat (48 + d)]) := Lib.decDigits_one (by omega)
      have HLL : Hid (l.length = k) := hll
      have hl20 : l.length ≤ 20 := by omega
      have HC3 : Hid (Cursor B w3 g) := c3
      have HB3 : Hid (Below g w w3) := b3
      have HS3 : Hid (w.heap.size ≤ w3.heap.size) := s3
      clear hll hcr hbr hsr g3 z1 c3 b3 s3
      go_wp2_with fail
      refine (dec_up d _ (by omega)).mono ?_
      rintro e w4 ⟨rfl, hw⟩
      subst hw
      rw [HD.out]
      obtain ⟨c, hcc⟩ : ∃ c, UInt8.ofNat (48 + d) = c := ⟨_, rfl⟩
      rw [hcc]
      clear hcc HD
      go_wp2
      go_roundw
      case rel => exact ⟨k + 1, l ++ [c], by omega, by go_num, congrArg Value.string (ba_append l [c]), by rw [List.length_append, HLL.out]; rfl, HC3.out, HB3.out, HS3.out⟩
      case measure => simp [intOf]; omega
    · have hke : k = n := by omega
      subst hke
      obtain ⟨W, rfl⟩ : ∃ W, W = wr := ⟨wr, rfl⟩
      have HLL : Hid (l.length = k) := hll
      have hl11 : 11 ≤ l.length := by omega
      have hl18 : l.length ≤ 18 := by omega
      clear hll hlt hk
      go_wp2_with fail
      refine (sCheck_any l _ (by omega)).mono ?_
      rintro e w4 ⟨rfl, hw⟩
      subst hw
      go_wp2_with fail
      refine (dec_tot (checkV l) _).mono ?_
      rintro e w4 ⟨t, rfl, ht, hw⟩
      subst hw
      have gc := cat_any l t (by omega)
      obtain ⟨s, hs⟩ : ∃ s, l ++ t = s := ⟨_, rfl⟩
      have hs1 : 11 ≤ s.length := by rw [← hs, List.length_append]; omega
      have hs2 : s.length ≤ 40 := by rw [← hs, List.length_append]; omega
      rw [hs] at gc
      clear hs
      go_wp2_with fail
      refine (below_any _ _ _ hcr (by omega)).mono ?_
      rintro e w5 ⟨z, rfl, z0, z1, c5, g5⟩
      obtain ⟨b5, s5⟩ := bel_gr hbr g5 hsr hgl
      have hz8 := z1 (by omega)
      clear hcr hbr hsr g5 z1 gc ht
      by_cases h0 : z = 0
      · subst h0
        have e1 := slice_end s 1 (by omega)
        have hl1 : (s.drop 1).length = s.length - 1 := by simp
        rw [ext_tail s 1] at e1
        generalize s.drop 1 = y at e1 hl1
        simp only [Int.cast_ofNat_Int] at e1
        go_wp2
        go_ret
        exact ⟨y, rfl, by omega, by omega, c5, b5, s5⟩
      · by_cases h1 : z = 1
        · subst h1
          go_wp2_with fail
          refine (below_any _ _ _ c5 (by omega)).mono ?_
          rintro e w6 ⟨i, rfl, i0, i1, c6, g6⟩
          have hi := i1 (by omega)
          obtain ⟨b6, s6⟩ := bel_gr b5 g6 s5 hgl
          obtain ⟨j, rfl⟩ := Int.eq_ofNat_of_zero_le i0
          clear c5 b5 s5 g6 i1 i0 h0
          have e1 := slice_end s (j + 1) (by omega)
          rw [ext_tail s (j + 1)] at e1
          simp only [Int.natCast_add, Int.cast_ofNat_Int] at e1
          have hex := ext_head s j
          have hji : (j : Int) ≤ (s.length : Int) := by omega
          obtain ⟨A, hA⟩ : ∃ A, s.take j = A := ⟨_, rfl⟩
          obtain ⟨D, hD⟩ : ∃ D, s.drop (j + 1) = D := ⟨_, rfl⟩
          have hAD : A.length + D.length + 1 = s.length := by rw [← hA, ← hD]; simp; omega
          rw [hA] at hex
          rw [hD] at e1
          have HAD : Hid _ := hAD
          have HC6 : Hid (Cursor B w6 g) := c6
          have HB6 : Hid (Below g w w6) := b6
          have HS6 : Hid (w.heap.size ≤ w6.heap.size) := s6
          have hal : A.length ≤ 40 := by omega
          have hdl : D.length ≤ 40 := by omega
          clear hA hD hAD c6 b6 s6
          have hj40 : (j : Int) ≤ 40 := by omega
          have hj41 : IntKind.i64.wrap ((j : Int) + 1) = (j : Int) + 1 := by rw [IntKind.wrap_i64]; omega
          have HCd : Hid (Cursor B w6.drew g) := cursor_below HC6.out ((Below.refl _ _).drew)
          go_wp2_with fail
          go_region_with (go_at_call 58; refine (pick_any g _ _ [[48], [53], [57], [120]] _ (cursor_alloc HCd.out _) (cursor_ne HCd.out) (lit_strs _ _ _ _ rfl) (by decide) (by decide)).mono ?_; rintro e w7 ⟨p, rfl, hp, c7, g7⟩; have hpl : p.length = 1 := (by simp at hp; rcases hp with rfl | rfl | rfl | rfl <;> rfl); have q1 := cat_any A p (by omega); have q2 := cat_any (A ++ p) D (by simp; omega); have HC7 : Hid (Cursor B w7 g) := c7; have HG7 : Hid _ := g7; clear hp c7 g7)
          all_goals
            go_wp2
            go_ret
            have hS := HS6.out
            have hX := bel_gr ((HB6.out.drew).alloc (show g ≤ w6.drew.heap.size by simp; omega) _) HG7.out (by simp; omega) hgl
            have hA := HAD.out
            exact ⟨A ++ (p ++ D), rfl, by simp; omega, by simp; omega, HC7.out, hX.1, hX.2⟩
        · have h0i : ¬ z = 0 := h0
          go_wp2
          go_ret
          exact ⟨s, rfl, by omega, by omega, c5, b5, s5⟩

set_option maxHeartbeats 800000 in
theorem drawMk_any (a : Option Addr) (len cap : Nat) (zs : List Int) (w : World) (hr : IsRow .u8 w a len cap zs) (hn : len ≤ 1048576) :
    Calls Try.prog 27 #[.slice a len cap] w fun e w' => ∃ l : List UInt8, e = .returned (.string ⟨l.toArray⟩) ∧ l.length ≤ 100 ∧ Below w.heap.size w w' := by
  go_enter Try.func27, Try.ntmps27
  go_wp2_with fail
  refine (new_any _ _ _ _ _ hr hn).mono ?_
  rintro e w1 ⟨rfl, c1, b1⟩
  go_wp2_with fail
  refine (card_any _ _ c1).mono ?_
  rintro e w2 ⟨l, rfl, h1, h2, c2, b2, s2⟩
  go_wp2
  go_ret
  exact ⟨l, rfl, h2, b1.trans b2⟩

set_option maxHeartbeats 800000 in
theorem drawCk_any (a : Option Addr) (len cap : Nat) (zs : List Int) (w : World) (hr : IsRow .u8 w a len cap zs) (hn : len ≤ 1048576) :
    Calls Try.prog 25 #[.slice a len cap] w fun e w' => ∃ l : List UInt8, e = .returned (.string ⟨l.toArray⟩) ∧ l.length ≤ 100 ∧ Below w.heap.size w w' := by
  go_enter Try.func25, Try.ntmps25
  go_wp2_with fail
  refine (new_any _ _ _ _ _ hr hn).mono ?_
  rintro e w1 ⟨rfl, c1, b1⟩
  go_wp2_with fail
  refine (card_any _ _ c1).mono ?_
  rintro e w2 ⟨l, rfl, h1, h2, c2, b2, s2⟩
  have B2 := b1.trans b2
  clear b1 b2
  go_wp2_with fail
  refine (once_any _ _ _ c2 (by omega)).mono ?_
  rintro e w3 ⟨o, rfl, c3, g3⟩
  have B3 := bel_grown B2 g3 (Nat.le_refl _)
  clear g3 B2 c2
  cases o
  · have hli : (l.length : Int) - 1 ≤ (l.length : Int) := by omega
    have hlp : (0 : Int) ≤ (l.length : Int) - 1 := by omega
    have hx := ext_head l (l.length - 1)
    have hsl : ∀ W : World, (Instr.slice 9 (.string ⟨l.toArray⟩) none (some (.int .i64 ((l.length : Int) - 1))) none).run Try.prog W = .ok (.string ⟨(l.take (l.length - 1)).toArray⟩) W := fun W => by
      rw [run_slice_string_to_if W 9 ⟨l.toArray⟩ .i64 _ Try.underlying9, if_pos ⟨hlp, by rw [ba_size]; exact hli⟩, show ((l.length : Int) - 1).toNat = l.length - 1 from by omega, hx]
    clear hx
    go_wp2
    go_ret
    exact ⟨l.take (l.length - 1), rfl, by simp; omega, B3⟩
  · go_wp2_with fail
    refine (pickInt_any _ _ _ [10, 11, 18, 19] _ (cursor_alloc c3 _) (cursor_ne c3) (lit_cells _ _ _ rfl) (by decide) (by decide)).mono ?_
    rintro e w4 ⟨x, rfl, hx, c4, g4⟩
    have B4 := bel_grown (B3.alloc (by have := cursor_bd c3; omega) _) g4 (Nat.le_refl _)
    obtain ⟨m, rfl, hm⟩ : ∃ m : Nat, x = (m : Int) ∧ m ≤ 2000 := by
      simp at hx
      rcases hx with rfl | rfl | rfl | rfl
      · exact ⟨10, rfl, by omega⟩
      · exact ⟨11, rfl, by omega⟩
      · exact ⟨18, rfl, by omega⟩
      · exact ⟨19, rfl, by omega⟩
    have hm2 : m ≤ 100 := by
      simp at hx
      omega
    clear hx g4 B3 c3
    go_wp2_with fail
    refine (textD_any _ m _ c4 hm).mono ?_
    rintro e w5 ⟨t, rfl, ht, c5, b5, s5⟩
    go_wp2
    go_ret
    exact ⟨t, rfl, by omega, B4.trans b5⟩

end Go.Proofs.Ytiiechnbionhnaa
