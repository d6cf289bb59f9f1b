/- The contracts of GetDigits, the program's and the specification's. -/
import Derived.Test.YtopgcfgomappjaaDoorSPut
import Derived.Test.YtopgcfgomappjaaDoorFHas
namespace Go.Proofs.YtopgcfgomappjaaDoor
open Go.RowKit

theorem nib_shr : ∀ c : Fin 256, bits .and .u8 ((c.val : Int) / 16) 15 = ((c.val / 16 : Nat) : Int) := by decide +kernel
theorem nib_and : ∀ c : Fin 256, bits .and .u8 (c.val : Int) 15 = ((c.val % 16 : Nat) : Int) := by decide +kernel
theorem nib_even (b : List UInt8) (h : Nat) (e : h % 2 = 0) : nib b h = (b.getD (h / 2) 0).toNat / 16 := if_pos e
theorem nib_odd (b : List UInt8) (h : Nat) (e : h % 2 = 1) : nib b h = (b.getD (h / 2) 0).toNat % 16 := if_neg (by omega)

/-- the first k places hold f, the others 0 -/
def fill8 (f : Nat → UInt8) (n k : Nat) : List Value := (List.range n).map fun j => if j < k then cell (f j) else .int .u8 0
theorem fill8_zero (f : Nat → UInt8) (n : Nat) : (List.replicate n (0 : UInt8)).map cell = fill8 f n 0 := by
  apply List.ext_getElem?
  intro i
  by_cases hi : i < n
  · simp [hi, cell, fill8]
  · simp [hi, fill8]
theorem fill8_all (f : Nat → UInt8) (n : Nat) : fill8 f n n = ((List.range n).map f).map cell := by
  unfold fill8
  rw [List.map_map]
  refine List.map_congr_left fun j hj => ?_
  rw [List.mem_range] at hj
  simp [hj]
theorem fill8_at (f : Nat → UInt8) (n k : Nat) (h : k < n) : (fill8 f n k)[k]? = some (.int .u8 0) := by simp [fill8, h]
theorem fill8_succ (f : Nat → UInt8) (n k : Nat) : (fill8 f n k).set k (cell (f k)) = fill8 f n (k + 1) := by
  have := map_range_set (fun j => if j < k then cell (f j) else .int .u8 0) (fun j => if j < k + 1 then cell (f j) else .int .u8 0) n k (fun i hi => by
    by_cases h1 : i < k
    · rw [if_pos h1, if_pos (by omega)]
    · rw [if_neg h1, if_neg (by omega)])
  rw [if_pos (by omega)] at this
  exact this
theorem fill8_len (f : Nat → UInt8) (n k : Nat) : (fill8 f n k).length = n := by simp [fill8]

set_option maxRecDepth 100000 in
set_option maxHeartbeats 1000000 in
theorem unpack_any (b : List UInt8) (n : Nat) (w : World) (hn : n ≤ 100) (hb : b.length = (n + 1) / 2) :
    Calls Tryd.prog 113 #[.string ⟨b.toArray⟩, .int .i64 n] w fun e w' => e = .returned (.string ⟨(unL b n).toArray⟩) ∧ Below w.heap.size w w' := by
  obtain ⟨i0, hi, hz0, hz1, hz2⟩ := info_parts info5
  have HB : Hid _ := hb
  clear hb
  go_enter Tryd.func113, Tryd.ntmps113
  go_wp2_with (refine wpList_make_full _ rfl (.tmp 9) (.tmp 9) 65 rfl w.heap.size 5 i0 (.int .u8 0) 1 Tryd.underlying65 hi hz0 hz1 .i64 .i64 _ _ n rfl rfl rfl rfl (by rw [hz2]; omega) (by unfold maxLen; omega) (Nat.le_refl _) ?_; intro w2 hown hg)
  rw [made5, fill8_zero (fun k => unB b (k + n % 2))] at hown
  have hb2 : Below w.heap.size w w2 := (Below.refl _ _).grown hg (Nat.le_refl _) (fun k hk => by cases hk)
  clear hg
  go_loopw [6, 7, 8, 13] (fun _ _ _ i wr => ∃ k : Nat, k ≤ n ∧ i = .int .i64 k ∧ wr.ownsRow w.heap.size 5 1 (.slice (some ⟨w.heap.size, 0, none⟩) n n) n (fill8 (fun k => unB b (k + n % 2)) n k) ∧ Below w.heap.size w wr) (fun _ _ _ i _ => n - (intOf i).toNat)
  case atStart => exact ⟨0, Nat.zero_le _, rfl, hown, hb2⟩
  case round =>
    obtain ⟨k, hk, rfl, ho, hbr⟩ := hrel
    clear hown
    by_cases hlt : k < n
    · have hki : (k : Int) < (n : Int) := by omega
      have hu := unB_nat b (k + n % 2)
      have hst := (ho.stored k (cell (unB b (k + n % 2)))).1
      rw [fill8_succ (fun k => unB b (k + n % 2)) n k] at hst
      have c2 : wr.cell? ⟨w.heap.size, k, none⟩ = some (.int .u8 0) := by rw [ho.cellAt k (by omega), fill8_at _ _ _ hlt]
      have c3 : wr.frozen? ⟨w.heap.size, k, none⟩ = false := ho.frozenAt k
      obtain ⟨h, hh⟩ : ∃ h, k + n % 2 = h := ⟨_, rfl⟩
      rw [hh] at hu hst
      have hq2 : h / 2 < b.length := by have := HB.out; omega
      have hne := nib_even b h
      have hno := nib_odd b h
      have hnl := nib_lt b h
      obtain ⟨q, hq⟩ : ∃ q, h / 2 = q := ⟨_, rfl⟩
      rw [hq] at hq2 hne hno
      obtain ⟨c, hc⟩ : ∃ c, (⟨b.toArray⟩ : ByteArray)[q]'(by rw [ba_size]; exact hq2) = c := ⟨_, rfl⟩
      rw [(byte_at b q hq2).trans hc] at hne hno
      have hqi : (q : Int) < (b.length : Int) := by omega
      have hcb : (c.toNat : Int) ≤ 255 := by have := c.toNat_lt; omega
      have HH : Hid (k + n % 2 = h) := hh
      have HQ : Hid (h / 2 = q) := hq
      by_cases hev : h % 2 = 0
      · have f1 : bits .and .u8 ((c.toNat : Int) / 16) 15 = (nib b h : Int) := by rw [hne hev]; exact nib_shr ⟨c.toNat, c.toNat_lt⟩
        have HST : Hid ((wr.setCell ⟨w.heap.size, k, none⟩ (.int .u8 (48 + (nib b h : Int)))).ownsRow w.heap.size 5 1 (.slice (some ⟨w.heap.size, 0, none⟩) n n) n (fill8 (fun k => unB b (k + n % 2)) n (k + 1))) := by
          have e : cell (unB b h) = .int .u8 (48 + (nib b h : Int)) := by unfold cell; rw [hu]; congr 1
          rw [Hid, ← e]; exact hst
        obtain ⟨x, hx⟩ : ∃ x, nib b h = x := ⟨_, rfl⟩
        rw [hx] at f1 HST hnl
        clear hh hq ho hst hne hno hu hx
        go_wp2_with fail
        refine (digitPlace_any _ _ _ (by omega) (by omega)).mono ?_
        rintro e w3 ⟨rfl, hw3⟩
        subst hw3
        rw [HH.out, HQ.out, shift_even hev]
        go_wp2
        go_roundw
        case rel => exact ⟨k + 1, by omega, by go_num, HST.out, hbr.setCell (Nat.le_refl _) _⟩
        case measure => simp [intOf]; omega
      · have hod : h % 2 = 1 := by omega
        have f1 : bits .and .u8 (c.toNat : Int) 15 = (nib b h : Int) := by rw [hno hod]; exact nib_and ⟨c.toNat, c.toNat_lt⟩
        have HST : Hid ((wr.setCell ⟨w.heap.size, k, none⟩ (.int .u8 (48 + (nib b h : Int)))).ownsRow w.heap.size 5 1 (.slice (some ⟨w.heap.size, 0, none⟩) n n) n (fill8 (fun k => unB b (k + n % 2)) n (k + 1))) := by
          have e : cell (unB b h) = .int .u8 (48 + (nib b h : Int)) := by unfold cell; rw [hu]; congr 1
          rw [Hid, ← e]; exact hst
        obtain ⟨x, hx⟩ : ∃ x, nib b h = x := ⟨_, rfl⟩
        rw [hx] at f1 HST hnl
        clear hh hq ho hst hne hno hu hx
        go_wp2_with fail
        refine (digitPlace_any _ _ _ (by omega) (by omega)).mono ?_
        rintro e w3 ⟨rfl, hw3⟩
        subst hw3
        rw [HH.out, HQ.out, shift_odd hod]
        go_wp2
        go_roundw
        case rel => exact ⟨k + 1, by omega, by go_num, HST.out, hbr.setCell (Nat.le_refl _) _⟩
        case measure => simp [intOf]; omega
    · have hke : k = n := by omega
      subst hke
      rw [fill8_all] at ho
      have ht := text_own ho
      have HO : Hid _ := ho
      clear ho
      go_wp2
      go_ret
      exact ⟨rfl, hbr⟩

theorem goodB_no {b : List UInt8} {n : Nat} (hb : b.length = (n + 1) / 2) (hn : n ≤ 100) (h : putD (unL b n) ≠ some b) : goodB b n = false := by
  cases e : goodB b n
  · rfl
  · exact absurd ((again b n hb hn).2 e) h

set_option maxRecDepth 100000 in
set_option maxHeartbeats 1000000 in
theorem iGetDigits_any (l : List UInt8) (i n : Int) (w : World) (hl : l.length ≤ 1099511627776) :
    Calls Tryd.prog 99 #[.string ⟨l.toArray⟩, .int .i64 i, .int .i64 n] w fun e w' => e = .returned (.tuple #[.string ⟨(getL l i n).toArray⟩, .int .i64 (getI l i n)]) ∧ Below w.heap.size w w' := by
  by_cases h0 : n < 0
  · have HN : Hid _ := get_no (getOk_out (l := l) (i := i) (n := n) (by omega))
    go_enter Tryd.func99, Tryd.ntmps99
    go_wp2
    go_ret2
    exact ⟨str_two (by rw [HN.out.1]) HN.out.2.symm, Below.refl _ _⟩
  · by_cases h1 : 100 < n
    · have HN : Hid _ := get_no (getOk_out (l := l) (i := i) (n := n) (by omega))
      go_enter Tryd.func99, Tryd.ntmps99
      go_wp2
      go_ret2
      exact ⟨str_two (by rw [HN.out.1]) HN.out.2.symm, Below.refl _ _⟩
    · obtain ⟨d, rfl⟩ := Int.eq_ofNat_of_zero_le (show 0 ≤ n by omega)
      have hd : d ≤ 100 := by omega
      have hd' : (d : Int) ≤ 100 := by omega
      clear h0 h1
      obtain ⟨m, hm⟩ : ∃ m, (d + 1) / 2 = m := ⟨_, rfl⟩
      have HM : Hid _ := hm
      have hm50 : m ≤ 50 := by omega
      cases hb : hasB l.length i m
      · have HN : Hid _ := get_no (getOk_out (l := l) (i := i) (n := d) (by have := hasB_out hb; omega))
        clear hm
        go_enter Tryd.func99, Tryd.ntmps99
        go_wp2_with fail
        refine (packedLen_any _ _ (by omega)).mono ?_
        rintro e w1 ⟨rfl, hw1⟩
        subst hw1
        rw [HM.out]
        go_wp2_with fail
        refine (hasBytes_any _ _ _ _ hl).mono ?_
        rintro e w1 ⟨rfl, hw1⟩
        subst hw1
        rw [hb]
        go_wp2
        go_ret2
        exact ⟨str_two (by rw [HN.out.1]) HN.out.2.symm, Below.refl _ _⟩
      · have hin := hasB_in hb
        obtain ⟨k, rfl⟩ := Int.eq_ofNat_of_zero_le hin.1
        have HB : Hid _ := hb
        have hk1 : (k : Int) ≤ (k : Int) + (m : Int) := by omega
        have hk2 : (k : Int) + (m : Int) ≤ (l.length : Int) := by omega
        have HP : Hid _ := piece_eq l k m
        have hbl : ((l.drop k).take m).length = m := piece_len (by omega)
        have HK : Hid (getOk l k d = goodB ((l.drop k).take m) d) := by rw [Hid, getOk_in (by omega), hm]
        have HY : Hid (getOk l k d = true → getL l k d = unL ((l.drop k).take m) d ∧ getI l k d = (k : Int) + (m : Int)) := by
          intro h
          have := get_yes h
          rw [Int.toNat_natCast, Int.toNat_natCast, hm] at this
          exact ⟨this.1, by rw [this.2]; omega⟩
        obtain ⟨b, hbe⟩ : ∃ b, (l.drop k).take m = b := ⟨_, rfl⟩
        rw [hbe] at HP hbl HK HY
        have hbl2 : b.length = (d + 1) / 2 := by omega
        have HG : Hid (putD (unL b d) ≠ some b → getL l k d = [] ∧ getI l k d = -1) := fun h => get_no (by rw [HK.out]; exact goodB_no hbl2 hd h)
        have HT : Hid (putD (unL b d) = some b → getL l k d = unL b d ∧ getI l k d = (k : Int) + (m : Int)) := fun h => HY.out (by rw [HK.out]; exact (again b d hbl2 hd).1 h)
        have hul : (unL b d).length ≤ 1099511627776 := by rw [unL_len]; omega
        have HL2 : Hid _ := hbl2
        clear hb hin hm HK HY hbe hbl hbl2
        go_enter Tryd.func99, Tryd.ntmps99
        go_wp2_with fail
        refine (packedLen_any _ _ (by omega)).mono ?_
        rintro e w1 ⟨rfl, hw1⟩
        subst hw1
        rw [HM.out]
        go_wp2_with fail
        refine (hasBytes_any _ _ _ _ hl).mono ?_
        rintro e w1 ⟨rfl, hw1⟩
        subst hw1
        rw [HB.out]
        clear HB
        go_wp2_with fail
        refine (packedLen_any _ _ (by omega)).mono ?_
        rintro e w1 ⟨rfl, hw1⟩
        subst hw1
        rw [HM.out]
        go_wp2_with fail
        rw [HP.out]
        refine (unpack_any b d _ hd HL2.out).mono ?_
        rintro e w2 ⟨rfl, b2⟩
        go_wp2_with fail
        refine (iPutDigits_any _ _ hul).mono ?_
        rintro e w3 ⟨rfl, b3⟩
        have B3 := next b2 b3
        clear b2 b3 hul
        obtain ⟨r, hr⟩ : ∃ r, putD (unL b d) = r := ⟨_, rfl⟩
        rw [hr] at HG HT ⊢
        clear hr
        generalize unL b d = u at HT
        cases r with
        | none =>
          have HN : Hid _ := HG.out (by simp)
          simp only [Option.getD_none, Option.isSome_none]
          go_wp2
          go_ret2
          exact ⟨str_two (by rw [HN.out.1]) HN.out.2.symm, B3⟩
        | some r =>
          simp only [Option.getD_some, Option.isSome_some]
          by_cases hrb : r = b
          · subst hrb
            have HN : Hid _ := HT.out rfl
            clear HG HT
            have hp := HP.out
            go_wp2
            go_ret2
            exact ⟨str_two (by rw [HN.out.1]) HN.out.2.symm, B3⟩
          · have HN : Hid _ := HG.out (by simpa using hrb)
            clear HG HT
            have hp := HP.out
            have hrb' : (r == b) = false := by simpa using hrb
            go_wp2
            go_ret2
            exact ⟨str_two (by rw [HN.out.1]) HN.out.2.symm, B3⟩

end Go.Proofs.YtopgcfgomappjaaDoor
