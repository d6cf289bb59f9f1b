/- The contract of the program's Busiest: keep, parties. -/
import Derived.Test.YtkdodamdjajbiaaBsK
import Derived.Test.YtkdodamdjajbiaaBkTo
import Derived.Test.YtkdodamdjajbiaaFLed
import Derived.Test.YtkdodamdjajbiaaLnLaw
import Derived.Test.YtkdodamdjajbiaaIntsOwn
import Derived.Lib.OwnBridge
import Derived.Lib.RowBridge
namespace Go.Proofs.Ytkdodamdjajbiaa
open Go.RowKit
set_option maxRecDepth 100000

theorem take_int (zs : List Int) (k : Nat) (h : k < zs.length) : zs.take (k + 1) = zs.take k ++ [zs.getD k 0] := by
  rw [List.take_succ_eq_append_getElem h]; simp [List.getD_eq_getElem?_getD, h]
theorem keepI_in {P : Int → Bool} {zs : List Int} {k : Nat} (h : k < zs.length) (hp : P (zs.getD k 0) = true) : (zs.take (k + 1)).filter P = (zs.take k).filter P ++ [zs.getD k 0] := by rw [take_int zs k h, List.filter_append, List.filter_cons, if_pos hp, List.filter_nil]
theorem keepI_out {P : Int → Bool} {zs : List Int} {k : Nat} (h : k < zs.length) (hp : P (zs.getD k 0) = false) : (zs.take (k + 1)).filter P = (zs.take k).filter P := by rw [take_int zs k h, List.filter_append, List.filter_cons, if_neg (by rw [hp]; decide), List.filter_nil, List.append_nil]
theorem keepI_le (zs : List Int) (P : Int → Bool) (k : Nat) : ((zs.take k).filter P).length ≤ zs.length := Nat.le_trans (List.length_filter_le _ _) (by simp; omega)
theorem IntsAt.at {w : World} {ao : Option Addr} {zs : List Int} (h : IntsAt w ao zs) {k : Nat} (hk : k < zs.length) : ∃ b off, ao = some ⟨b, off, none⟩ ∧ b < w.heap.size ∧ w.cell? ⟨b, off + k, none⟩ = some (.int .i64 (zs.getD k 0)) := by
  rcases h with rfl | ⟨b, off, h1, h2, h3⟩
  · simp at hk
  · exact ⟨b, off, h1, h2, h3 k hk⟩
theorem below_putG {B : Nat} {w0 w : World} {g m : Nat} {d : Array Int} {os : Array Obj} (h : RowKit.Below B w0 w) (hB : B ≤ w0.heap.size) (hg : B ≤ g) : RowKit.Below B w0 (Sort.grow (Sort.putRow (Value.int .i64) (Sort.ahead w m) g 0 d) os) := by
  refine ⟨h.os, h.tape, h.output, ?_, fun k hk => ?_⟩
  · have := h.size
    simp [Sort.grow, Sort.putRow, Sort.mapBlock, Sort.ahead]; omega
  · rw [← h.block k hk]
    have hs := h.size
    have e1 : ((w.heap.modify g (Sort.onCells (Sort.putCells (Value.int .i64) 0 d))) ++ os)[k]? = w.heap[k]? := by
      rw [Array.getElem?_append_left (by simp; omega), Array.getElem?_modify, if_neg (by omega)]
    exact e1
theorem below_putI {B : Nat} {w0 w : World} {g m : Nat} {d : Array Int} (h : Below B w0 w) (hB : B ≤ w0.heap.size) (hg : B ≤ g) : Below B w0 (Sort.putRow (Value.int .i64) (Sort.ahead w m) g 0 d) := by
  have := below_putG (m := m) (d := d) (os := #[]) h hB hg
  rwa [Sort.grow_empty] at this
set_option maxHeartbeats 3200000 in
theorem keepAcct_any (ao : Option Addr) (cap : Nat) (zs : List Int) (w : World) (hz : IntsAt w ao zs) (hn : zs.length ≤ 1048576) :
    Calls Try.prog 64 #[.slice ao zs.length cap, .func (.func 65) #[] #[]] w fun e w' => ∃ a c, e = .returned (.slice a (zs.filter acctOk).length c) ∧
      w'.ownsRow w.heap.size 3 1 (.slice a (zs.filter acctOk).length c) (zs.filter acctOk).length ((zs.filter acctOk).map (Value.int .i64)) ∧ Below w.heap.size w w' := by
  obtain ⟨i0, hi, hz0, hz1, hz2⟩ := info_parts infoI
  have HX : Hid (IntsAt w ao zs) := hz
  clear hz
  go_enter Try.func64, Try.ntmps64
  go_wp2
  go_loopw [5, 10] (fun s i wr => ∃ (v : Value) (k : Nat), v = s ∧ k ≤ zs.length ∧ i = .int .i64 (k : Int) ∧ wr.ownsRow w.heap.size 3 1 v ((zs.take k).filter acctOk).length (((zs.take k).filter acctOk).map (Value.int .i64)) ∧ Below w.heap.size w wr) (fun _ i _ => zs.length - (intOf i).toNat)
  case atStart => exact ⟨_, 0, rfl, Nat.zero_le _, rfl, World.ownsRow_nil _ _ _ _, Below.refl _ _⟩
  case round =>
    obtain ⟨v, k, hvs, hk, rfl, hown, hbr⟩ := hrel
    subst hvs
    have HBR : Hid (Below w.heap.size w wr) := hbr
    have HO : Hid (wr.ownsRow w.heap.size 3 1 v ((zs.take k).filter acctOk).length (((zs.take k).filter acctOk).map (Value.int .i64))) := hown
    by_cases hlt : k < zs.length
    · have hki : (k : Int) < (zs.length : Int) := by omega
      obtain ⟨cb, off, rfl, hb2, hcb⟩ := (HX.out.below hbr).at hlt
      have hle := keepI_le zs acctOk k
      have HIN : Hid _ := @keepI_in acctOk zs k hlt
      have HOUT : Hid _ := @keepI_out acctOk zs k hlt
      obtain ⟨x, hx⟩ : ∃ x, zs.getD k 0 = x := ⟨_, rfl⟩
      rw [hx] at hcb HIN HOUT
      have HSZ : Hid (w.heap.size ≤ wr.heap.size) := HBR.out.size
      clear hx hown hbr hb2
      cases ho : acctOk x
      · have HC : Hid (∀ u, Calls Try.prog 65 #[.int .i64 x] u fun e w' => e = .returned (.bool false) ∧ w' = u) := fun u => iAcct_is ho u
        have HR5 : Hid (wr.ownsRow w.heap.size 3 1 v ((zs.take (k + 1)).filter acctOk).length (((zs.take (k + 1)).filter acctOk).map (Value.int .i64))) := by
          rw [Hid, HOUT.out ho]; exact HO.out
        clear ho
        go_wp2_with (go_at_call 65; refine (HC.out _).mono ?_; rintro e w' ⟨rfl, rfl⟩)
        go_roundw
        case rel => exact ⟨_, k + 1, rfl, by omega, by go_num, HR5.out, HBR.out⟩
        case measure => simp [intOf]; omega
      · have HC : Hid (∀ u, Calls Try.prog 65 #[.int .i64 x] u fun e w' => e = .returned (.bool true) ∧ w' = u) := fun u => iAcct_is ho u
        have HLT : Hid (∀ j, v.ownBlock = some j → w.heap.size ≤ j) := fun j hj => (HO.out.lt j hj).1
        have HI2 : Hid _ := HIN.out ho
        clear ho HIN HOUT
        go_wp2_with fail
        refine (HC.out _).mono ?_
        rintro e w9 ⟨rfl, hw9⟩
        rw [hw9]
        clear hw9
        go_wp2_with (at_builtin; refine wpList_append_own _ rfl (.tmp 17) (.tmp 19) 22 rfl w.heap.size 3 i0 (.int .i64 0) 1 8 Try.underlying22 hi hz0 hz1 hz2 rfl (by decide) _ _ _ rfl (HO.out.alloc _) ⟨wr.heap.size, 0, none⟩ 1 1 [.int .i64 x] rfl rfl (World.news_of_block (heap_alloc_new wr _)) (one_nu _) (by unfold maxLen; omega) (by omega) (by simp; have := HSZ.out; omega) ?_; intro v5 w5 o5 g5 _)
        have q5 : Below w.heap.size w w5 := (HBR.out.alloc HSZ.out _).grown g5 (by have := HSZ.out; simp; omega) HLT.out
        have HR5 : Hid (w5.ownsRow w.heap.size 3 1 v5 ((zs.take (k + 1)).filter acctOk).length (((zs.take (k + 1)).filter acctOk).map (Value.int .i64))) := by
          rw [Hid, HI2.out, List.length_append, List.map_append]; exact o5
        clear o5 g5
        go_wp2
        go_roundw
        case rel => exact ⟨_, k + 1, rfl, by omega, by go_num, HR5.out, q5⟩
        case measure => simp [intOf]; omega
    · have hke : k = zs.length := by omega
      subst hke
      have hki : ¬ (zs.length : Int) < (zs.length : Int) := by omega
      rw [List.take_length] at hown HO
      obtain ⟨va, vk, hva⟩ := own_shape hown
      subst hva
      clear hbr hown
      go_wp2
      go_ret
      exact ⟨va, vk, rfl, HO.out, HBR.out⟩
theorem compI_any {base n cap : Nat} {a : Option Addr} {zs : List Int} {w : World} (ho : w.ownsRow base 3 1 (.slice a zs.length cap) n (zs.map (Value.int .i64))) (hn : n = zs.length) (hb : base ≤ w.heap.size) (hl : zs.length ≤ 1099511627776) :
    Calls Try.prog 63 #[.slice a zs.length cap] w fun e w' => ∃ a' c', e = .returned (.slice a' (Lib.compact zs).length c') ∧ w'.ownsRow base 3 1 (.slice a' (Lib.compact zs).length c') (Lib.compact zs).length ((Lib.compact zs).map (Value.int .i64)) ∧ Below base w w' := by
  subst hn
  by_cases h0 : zs = []
  · subst h0
    refine (Try.slices_Compact_int_empty a cap w).mono ?_
    rintro e w' ⟨rfl, rfl⟩
    exact ⟨a, cap, rfl, ho, Below.refl _ _⟩
  · rcases ho.2 with ⟨_, hz⟩ | ⟨g, cap', cur, hv, hrest⟩
    · exact absurd (List.eq_nil_of_length_eq_zero hz) h0
    · obtain ⟨rfl, rfl⟩ : a = some ⟨g, 0, none⟩ ∧ cap = cap' := by simpa using hv
      obtain ⟨g', cap', hv', hg1, hg2, hc, _, _, hH⟩ := Lib.holds_of_ownsRow (enc := Value.int .i64) ho (by intro h; cases h)
      obtain ⟨rfl, rfl⟩ : g = g' ∧ cap = cap' := by simpa using hv'
      refine (Try.slices_Compact_int g 0 cap zs w hH (by omega) hc).mono ?_
      rintro e w' ⟨rfl, q, rfl⟩
      have hle := Lib.compact_length_le zs
      refine ⟨_, _, rfl, ?_, below_putI (Below.refl _ _) hb hg1⟩
      have h := Lib.ownsRow_putRow (q := q) (k := (Lib.compact zs).length) (ys := Lib.compact zs ++ List.replicate (zs.length - (Lib.compact zs).length) 0) ho (by simp; omega) hle
      rw [List.take_left' rfl] at h
      exact h
set_option maxHeartbeats 1600000 in
theorem parties_any (c : Cs) (w : World) : Calls Try.prog 50 #[cv c] w fun e w' => ∃ a k, e = .returned (.slice a (partyL c).length k) ∧
      w'.ownsRow w.heap.size 3 1 (.slice a (partyL c).length k) (partyL c).length ((partyL c).map (Value.int .i64)) ∧ Below w.heap.size w w' := by
  unfold partyL
  obtain ⟨iss, acq, cur, am, st, rsn, cl, bk, fee, cop, sta, due⟩ := c
  unfold cv
  simp only
  obtain ⟨W, hW⟩ : ∃ W, W = (w.alloc (.cells #[.int .i64 iss, .int .i64 acq, .int .i64 cur, .int .i64 am, .int .i64 st, .int .i64 rsn, .int .i64 cl, .int .i64 bk, .int .i64 fee, .bool cop, .int .i64 sta, .int .i64 due] 57)).alloc (.cells #[.int .i64 iss, .int .i64 acq] 3) := ⟨_, rfl⟩
  have bW : Below w.heap.size w W := by rw [hW]; go_grown
  have k0 : W.cell? ⟨w.heap.size + 1, 0, none⟩ = some (.int .i64 iss) := by rw [hW]; simp [go_sem]
  have k1 : W.cell? ⟨w.heap.size + 1, 1, none⟩ = some (.int .i64 acq) := by rw [hW]; simp [go_sem]
  have hz : IntsAt W (some ⟨w.heap.size + 1, 0, none⟩) [iss, acq] := .inr ⟨w.heap.size + 1, 0, rfl, World.block_lt_of_cell? W _ k0, fun i hi => by
    rcases (show i = 0 ∨ i = 1 by simp at hi; omega) with rfl | rfl
    · exact k0
    · exact k1⟩
  have HK : Hid _ := keepAcct_any (some ⟨w.heap.size + 1, 0, none⟩) 2 [iss, acq] W hz (by simp)
  have HW : Hid _ := hW
  have HBW : Hid (Below w.heap.size w W) := bW
  obtain ⟨L, hL⟩ : ∃ L : List Int, [iss, acq].filter acctOk = L := ⟨_, rfl⟩
  have hLl : L.length ≤ 2 := by rw [← hL]; exact Nat.le_trans (List.length_filter_le _ _) (by simp)
  rw [hL] at HK ⊢
  clear hL hW bW k0 k1 hz
  go_enter Try.func50, Try.ntmps50
  go_wp2_with fail
  rw [← HW.out]
  clear HW
  refine Calls.mono HK.out ?_
  rintro e w1 ⟨a1, c1, rfl, o1, b1⟩
  have HC : Hid _ := compI_any o1 rfl b1.size (by omega)
  have HSZ : Hid (w.heap.size ≤ W.heap.size) := HBW.out.size
  have HB1 : Hid (Below w.heap.size w w1) := next HBW.out b1
  clear o1 b1 HK
  go_wp2_with fail
  refine Calls.mono HC.out ?_
  rintro e w2 ⟨a2, c2, rfl, o2, b2⟩
  have HO2 : Hid _ := o2
  have HB2 : Hid (Below w.heap.size w w2) := HB1.out.trans (b2.mono HSZ.out)
  clear o2 b2 HC
  go_wp2
  go_ret
  exact ⟨a2, c2, rfl, lowerL HO2.out HSZ.out, HB2.out⟩

end Go.Proofs.Ytkdodamdjajbiaa
