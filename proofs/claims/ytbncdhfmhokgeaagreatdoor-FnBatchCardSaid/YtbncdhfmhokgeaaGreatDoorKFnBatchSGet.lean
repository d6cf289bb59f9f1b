/- The contract of the specification's GetDigits. -/
import Derived.Test.YtbncdhfmhokgeaaGreatDoorJFnBatch1a
namespace Go.Proofs.YtbncdhfmhokgeaaGreatDoor
open Go.RowKit

theorem unB_even (b : List UInt8) (j : Nat) : (unB b (2 * j)).toNat = 48 + (b.getD j 0).toNat / 16 := by
  rw [unB_nat, nib_even b _ (by omega), show 2 * j / 2 = j from by omega]
theorem unB_odd (b : List UInt8) (j : Nat) : (unB b (2 * j + 1)).toNat = 48 + (b.getD j 0).toNat % 16 := by
  rw [unB_nat, nib_odd b _ (by omega), show (2 * j + 1) / 2 = j from by omega]
theorem good_low {b : List UInt8} {n : Nat} (h : low9 b ((n + 1) / 2) = true) : goodB b n = (decide (n % 2 = 0) || decide (nib b 0 = 0)) := by
  unfold goodB; rw [low9_all, h]; rfl
theorem low9_mono {b : List UInt8} {j m : Nat} (h : low9 b m = true) (hj : j ≤ m) : low9 b j = true := by
  unfold low9 at h ⊢
  rw [List.all_eq_true] at h ⊢
  intro x hx
  rw [List.mem_range] at hx
  exact h x (by rw [List.mem_range]; omega)
theorem good_no {b : List UInt8} {n j : Nat} (hj : j < (n + 1) / 2) (h : ¬ ((b.getD j 0).toNat / 16 ≤ 9 ∧ (b.getD j 0).toNat % 16 ≤ 9)) : goodB b n = false := by
  have : low9 b ((n + 1) / 2) = false := by
    cases e : low9 b ((n + 1) / 2)
    · rfl
    · have := low9_mono e (show j + 1 ≤ (n + 1) / 2 by omega)
      rw [low9_succ, Bool.and_eq_true, Bool.and_eq_true] at this
      exact absurd (by simpa using this.2) h
  unfold goodB; rw [low9_all, this]; rfl
/-- the text of the bytes behind the first of those that one owns -/
theorem text_tail {w : World} {base g n cap c2 : Nat} {l : List UInt8} (h : w.ownsRow base 5 1 (.slice (some ⟨g, 0, none⟩) n cap) n (l.map cell)) (hn : n ≠ 0) :
    (convert 22 9 (.slice (some ⟨g, 1, none⟩) (n - 1) c2)).run Tryz.prog w = .ok (.string ⟨(l.drop 1).toArray⟩) w := by
  have hl : l.length = n := by simpa using h.1
  subst hl
  have e : l.length - 1 = (l.drop 1).length := by simp
  rw [e]
  refine run_convert_bytes_back w _ _ _ _ _ _ Tryz.underlying22 Tryz.underlying5 Tryz.underlying9 fun j hj => ?_
  have := h.cellAt (j + 1) (by simp at hj; omega)
  rw [show (⟨g, 1, none⟩ : Addr).add j = ⟨g, j + 1, none⟩ from by unfold Addr.add; split <;> simp_all [Nat.add_comm]]
  rw [this]
  simp at hj
  simp [cell, show j + 1 < l.length from by omega]

set_option maxRecDepth 100000 in
set_option maxHeartbeats 1000000 in
theorem sGetDigits_any (l : List UInt8) (i n : Int) (w : World) (hl : l.length ≤ 1099511627776) :
    Calls Tryz.prog 101 #[.string ⟨l.toArray⟩, .int .i64 i, .int .i64 n] w fun e w' => e = .returned (.tuple #[.string ⟨(getL l i n).toArray⟩, .int .i64 (getI l i n)]) ∧ Below w.heap.size w w' := by
  cases hn : inB n 0 100
  · have HN : Hid _ := get_no (getOk_out (l := l) (i := i) (n := n) (by have : ¬ (0 ≤ n ∧ n ≤ 100) := of_decide_eq_false hn; omega))
    go_enter Tryz.func101, Tryz.ntmps101
    go_wp2_with fail
    refine (in_any _ _ _ _).mono ?_
    rintro e w1 ⟨rfl, hw1⟩
    subst hw1
    rw [hn]
    go_wp2
    go_ret2
    exact ⟨str_two (by rw [HN.out.1]) HN.out.2.symm, Below.refl _ _⟩
  · have hnb : 0 ≤ n ∧ n ≤ 100 := of_decide_eq_true hn
    have HI : Hid _ := hn
    clear hn
    by_cases h1 : i < 0
    · have HN : Hid _ := get_no (getOk_out (l := l) (i := i) (n := n) (by omega))
      go_enter Tryz.func101, Tryz.ntmps101
      go_wp2_with fail
      refine (in_any _ _ _ _).mono ?_
      rintro e w1 ⟨rfl, hw1⟩
      subst hw1
      rw [HI.out]
      go_wp2
      go_ret2
      exact ⟨str_two (by rw [HN.out.1]) HN.out.2.symm, Below.refl _ _⟩
    · by_cases h2 : (l.length : Int) < i
      · have HN : Hid _ := get_no (getOk_out (l := l) (i := i) (n := n) (by omega))
        have h1' : 0 ≤ i := by omega
        go_enter Tryz.func101, Tryz.ntmps101
        go_wp2_with fail
        refine (in_any _ _ _ _).mono ?_
        rintro e w1 ⟨rfl, hw1⟩
        subst hw1
        rw [HI.out]
        go_wp2
        go_ret2
        exact ⟨str_two (by rw [HN.out.1]) HN.out.2.symm, Below.refl _ _⟩
      · obtain ⟨d, rfl⟩ := Int.eq_ofNat_of_zero_le hnb.1
        obtain ⟨k, rfl⟩ := Int.eq_ofNat_of_zero_le (show 0 ≤ i by omega)
        obtain ⟨m, hm⟩ : ∃ m, (d + 1) / 2 = m := ⟨_, rfl⟩
        have hd : d ≤ 100 := by omega
        have hmi : ((d : Int) + 1) / 2 = (m : Int) := by omega
        have hm50 : m ≤ 50 := by omega
        have hkl : (k : Int) ≤ (l.length : Int) := by omega
        clear h1 h2 hnb
        by_cases h3 : (l.length : Int) - (k : Int) < (m : Int)
        · have HN : Hid _ := get_no (getOk_out (l := l) (i := k) (n := d) (by omega))
          clear hm
          go_enter Tryz.func101, Tryz.ntmps101
          go_wp2_with fail
          refine (in_any _ _ _ _).mono ?_
          rintro e w1 ⟨rfl, hw1⟩
          subst hw1
          rw [HI.out]
          go_wp2
          go_ret2
          exact ⟨str_two (by rw [HN.out.1]) HN.out.2.symm, Below.refl _ _⟩
        · have h3' : (m : Int) ≤ (l.length : Int) - (k : Int) := by omega
          have HK : Hid (getOk l k d = goodB ((l.drop k).take m) d) := by rw [Hid, getOk_in (by omega), hm]
          have HY : Hid (getOk l k d = true → getL l k d = unL ((l.drop k).take m) d ∧ getI l k d = (k : Int) + (m : Int)) := by
            intro h
            have := get_yes h
            rw [Int.toNat_natCast, Int.toNat_natCast, hm] at this
            exact ⟨this.1, by rw [this.2]; omega⟩
          have HA : Hid (∀ j, j < m → ((l.drop k).take m).getD j 0 = l.getD (k + j) 0) := fun j hj => piece_at hj
          obtain ⟨b, hbe⟩ : ∃ b, (l.drop k).take m = b := ⟨_, rfl⟩
          rw [hbe] at HK HY HA
          have HM : Hid _ := hm
          have own := own0 w
          have bel0 : Below w.heap.size w (w.alloc (.cells #[] 5)) := (Below.refl _ _).alloc (Nat.le_refl _) _
          obtain ⟨i0, hi, hz0, hz1, hz2⟩ := info_parts info5
          have hk0 : decide ((k : Int) < 0) = false := decide_eq_false (by omega)
          have hk3 : decide (l.length < k) = false := decide_eq_false (by omega)
          have hk4 : decide ((l.length : Int) - (k : Int) < (m : Int)) = false := decide_eq_false (by omega)
          clear hbe hm h3
          go_enter Tryz.func101, Tryz.ntmps101
          go_wp2_with fail
          refine (in_any _ _ _ _).mono ?_
          rintro e w1 ⟨rfl, hw1⟩
          subst hw1
          rw [HI.out]
          go_wp2
          simp only [hmi]
          go_loopw [8, 9] (fun v i wr => ∃ j : Nat, j ≤ m ∧ i = .int .i64 (k + j : Nat) ∧ wr.ownsRow w1.heap.size 5 1 v (2 * j) ((flat b j).map cell) ∧ low9 b j = true ∧ Below w1.heap.size w1 wr) (fun _ i _ => k + m - (intOf i).toNat)
          case atStart => exact ⟨0, Nat.zero_le _, rfl, own, rfl, bel0⟩
          case round =>
            obtain ⟨j, hj, rfl, ho, hlow, hbr⟩ := hrel
            clear own bel0
            obtain ⟨t, ht⟩ : ∃ t, k + j = t := ⟨_, rfl⟩
            rw [ht]
            by_cases hlt : j < m
            · have htl : t < l.length := by omega
              have hti : (t : Int) < (l.length : Int) := by omega
              have htk : (t : Int) < (k : Int) + (m : Int) := by omega
              have hba := HA.out j hlt
              rw [ht] at hba
              obtain ⟨c, hc⟩ : ∃ c, (⟨l.toArray⟩ : ByteArray)[t]'(by rw [ba_size]; exact htl) = c := ⟨_, rfl⟩
              rw [(byte_at l t htl).trans hc] at hba
              have hcb := c.toNat_lt
              by_cases hhi : c.toNat / 16 ≤ 9
              · by_cases hlo : c.toNat % 16 ≤ 9
                · have HP : Hid ((flat b (j + 1)).map cell = (flat b j).map cell ++ [.int .u8 (48 + (c.toNat : Int) / 16), .int .u8 (48 + (c.toNat : Int) % 16)]) := by
                    rw [Hid, flat_succ, List.map_append]
                    congr 1
                    simp only [List.map_cons, List.map_nil, cell, unB_even, unB_odd, hba]
                    rw [show ((48 + c.toNat / 16 : Nat) : Int) = 48 + (c.toNat : Int) / 16 from by omega, show ((48 + c.toNat % 16 : Nat) : Int) = 48 + (c.toNat : Int) % 16 from by omega]
                  have HL : Hid (low9 b (j + 1) = true) := by rw [Hid, low9_succ, hlow, hba]; simp [hhi, hlo]
                  have hhi' : (c.toNat : Int) / 16 ≤ 9 := by omega
                  have hlo' : (c.toNat : Int) % 16 ≤ 9 := by omega
                  have g1 : IntKind.u8.wrap ((c.toNat : Int) / 16) = (c.toNat : Int) / 16 := wrap8 (by omega) (by omega)
                  have g2 : IntKind.u8.wrap ((c.toNat : Int) % 16) = (c.toNat : Int) % 16 := wrap8 (by omega) (by omega)
                  have f1 : IntKind.u8.wrap (48 + (c.toNat : Int) / 16) = 48 + (c.toNat : Int) / 16 := wrap8 (by omega) (by omega)
                  have f2 : IntKind.u8.wrap (48 + (c.toNat : Int) % 16) = 48 + (c.toNat : Int) % 16 := wrap8 (by omega) (by omega)
                  have hsz := hbr.size
                  have HB : Hid _ := hbr
                  have hi0 : (0 : Int) ≤ (t : Int) := by omega
                  have g3 : (c.toNat : Int).tmod 16 = (c.toNat : Int) % 16 := Int.tmod_eq_emod_of_nonneg (by omega)
                  have HBA : Hid _ := hba
                  clear hlow hba hbr
                  go_wp2_with fail
                  go_region_held3 (fun _ => True) (trivial) ((refine step_append_lies _ (by rfl) _ _ _ (by rfl) w1.heap.size 5 i0 (.int .u8 0) 1 1 Tryz.underlying22 hi hz0 hz1 hz2 rfl (by decide) _ (2 * j) _ (by rfl) ((ho.alloc _).drew) ⟨wr.heap.size, 0, none⟩ 2 2 [.int .u8 (48 + (c.toNat : Int) / 16), .int .u8 (48 + (c.toNat : Int) % 16)] (by rfl) (by rfl) (World.news_of_block (cs := #[.int .u8 (48 + (c.toNat : Int) / 16), .int .u8 (48 + (c.toNat : Int) % 16)]) (t := 5) (fr := (0, 0)) (heap_alloc_new wr _)) (by simp [Value.oneCell']) (by omega) (by unfold maxLen; omega) (by omega) (by simp; omega) (wr.heap.size + 1) (by simp) ?_; intro gg cap w2 ho1 hg1 hat hlt2))
                  all_goals have hb1 : Below w1.heap.size w1 w2 := ((HB.out.alloc hsz _).drew).grown hg1 (by simp; omega) (fun q hq => (ho.lt q hq).1)
                  all_goals clear hg1 hat ho HB
                  all_goals go_wp2
                  all_goals go_roundw
                  all_goals first | exact ⟨j + 1, by omega, by rw [show ((k + (j + 1) : Nat) : Int) = (t : Int) + 1 from by omega], by rw [HP.out, show 2 * (j + 1) = 2 * j + 2 from by omega]; exact ho1, HL.out, hb1⟩ | (simp [intOf]; omega)
                · have HN : Hid _ := get_no (l := l) (i := k) (n := d) (by rw [HK.out]; exact good_no (j := j) (by have := HM.out; omega) (by rw [hba]; omega))
                  have hhi' : (c.toNat : Int) / 16 ≤ 9 := by omega
                  have hlo' : 9 < (c.toNat : Int) % 16 := by omega
                  clear hlow hba ho
                  go_wp2
                  go_ret2
                  exact ⟨str_two (by rw [HN.out.1]) HN.out.2.symm, hbr⟩
              · have HN : Hid _ := get_no (l := l) (i := k) (n := d) (by rw [HK.out]; exact good_no (j := j) (by have := HM.out; omega) (by rw [hba]; omega))
                have hhi' : 9 < (c.toNat : Int) / 16 := by omega
                clear hlow hba ho
                go_wp2
                go_ret2
                exact ⟨str_two (by rw [HN.out.1]) HN.out.2.symm, hbr⟩
            · have hje : j = m := by omega
              subst hje
              have hgo := good_low (b := b) (n := d) (by rw [HM.out]; exact hlow)
              have htk : (t : Int) = (k : Int) + (j : Int) := by omega
              by_cases hodd : d % 2 = 1
              · have hod' : (d : Int) % 2 = 1 := by omega
                have hj1 : 1 ≤ j := by have := HM.out; omega
                rcases ho.2 with ⟨hv, h0⟩ | ⟨g, cap, cur, hv, hrest⟩
                · omega
                · subst hv
                  have c0 : wr.cell? ⟨g, 0, none⟩ = some (cell (unB b 0)) := by
                    rw [ho.cellAt 0 (by omega)]
                    simp [flat, show 0 < 2 * j from by omega]
                  have hu0 := unB_nat b 0
                  have hcap : 2 * j ≤ cap := hrest.2.2.1
                  clear hrest
                  unfold cell at c0
                  rw [hu0] at c0
                  have htt := text_tail (c2 := cap - 1) ho (by omega)
                  have hfd := flat_drop b d
                  rw [HM.out, hodd] at hfd
                  rw [hfd] at htt
                  have HO : Hid _ := ho
                  clear ho hfd hu0 hlow
                  by_cases hz : nib b 0 = 0
                  · have HN : Hid _ := HY.out (by rw [HK.out, hgo]; simp [hz])
                    rw [hz] at c0
                    have c0' : wr.cell? ⟨g, 0, none⟩ = some (.int .u8 48) := c0
                    clear c0 hgo hz
                    go_wp2
                    go_ret2
                    exact ⟨str_two (by rw [HN.out.1]) HN.out.2.symm, hbr⟩
                  · have HN : Hid _ := get_no (l := l) (i := k) (n := d) (by rw [HK.out, hgo]; simp [hz]; omega)
                    have hnz : (((48 + nib b 0 : Nat) : Int) != 48) = true := by simp; omega
                    clear hgo
                    go_wp2
                    go_ret2
                    exact ⟨str_two (by rw [HN.out.1]) HN.out.2.symm, hbr⟩
              · have hod' : (d : Int) % 2 = 0 := by omega
                have HN : Hid _ := HY.out (by rw [HK.out, hgo]; simp; omega)
                have htt := text_own ho
                have hfd := flat_drop b d
                rw [HM.out, show d % 2 = 0 from by omega, List.drop_zero] at hfd
                rw [hfd] at htt
                clear ho hfd hgo hlow
                go_wp2
                go_ret2
                exact ⟨str_two (by rw [HN.out.1]) HN.out.2.symm, hbr⟩

end Go.Proofs.YtbncdhfmhokgeaaGreatDoor
