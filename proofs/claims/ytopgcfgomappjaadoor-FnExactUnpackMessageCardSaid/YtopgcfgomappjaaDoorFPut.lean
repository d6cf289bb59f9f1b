/- The contracts of PutDigits, the program's. -/
import Derived.Test.YtopgcfgomappjaaDoorFLeaf
import Derived.Test.YtopgcfgomappjaaDoorFBytes
import Derived.Test.YtopgcfgomappjaaDoorDig
namespace Go.Proofs.YtopgcfgomappjaaDoor
open Go.RowKit

set_option maxHeartbeats 400000 in
theorem packedLen_any (n : Nat) (w : World) (hn : n ≤ 1099511627776) :
    Calls Tryd.prog 74 #[.int .i64 n] w fun e w' => e = .returned (.int .i64 ((n + 1) / 2 : Nat)) ∧ w' = w := by
  go_enter Tryd.func74, Tryd.ntmps74
  go_wp2
  go_ret
  exact ⟨one_int (by omega), rfl⟩

def shiftOf (h : Nat) : Nat := if h % 2 = 0 then 4 else 0
theorem shift_even {h : Nat} (e : h % 2 = 0) : shiftOf h = 4 := if_pos e
theorem shift_odd {h : Nat} (e : h % 2 = 1) : shiftOf h = 0 := if_neg (by omega)
set_option maxHeartbeats 400000 in
theorem digitPlace_any (k n : Nat) (w : World) (hn : n ≤ 1099511627776) (hk : k ≤ 1099511627776) :
    Calls Tryd.prog 75 #[.int .i64 k, .int .i64 n] w fun e w' => e = .returned (.tuple #[.int .i64 ((k + n % 2) / 2 : Nat), .int .i64 (shiftOf (k + n % 2))]) ∧ w' = w := by
  by_cases h : (k + n % 2) % 2 = 0
  · have HS : Hid _ := shift_even h
    have e2 : ((k : Int) + (n : Int) % 2) % 2 = 0 := by omega
    go_enter Tryd.func75, Tryd.ntmps75
    go_wp2
    go_ret2
    exact ⟨two_ints (by omega) (by rw [HS.out]; rfl), rfl⟩
  · have HS : Hid _ := shift_odd (show (k + n % 2) % 2 = 1 by omega)
    have e2 : ((k : Int) + (n : Int) % 2) % 2 = 1 := by omega
    go_enter Tryd.func75, Tryd.ntmps75
    go_wp2
    go_ret2
    exact ⟨two_ints (by omega) (by rw [HS.out]; rfl), rfl⟩

theorem cells0 (e : List UInt8) (h m : Nat) (hz : ∀ j, cellK e h j = 0) : (List.replicate m (0 : UInt8)).map cell = (List.range m).map fun j => Value.int .u8 (cellK e h j) := by
  apply List.ext_getElem?
  intro i
  by_cases hi : i < m
  · simp [hi, cell, hz]
  · simp [hi]
theorem cells1 (e : List UInt8) (m : Nat) (hd : within 48 57 e = true) : ((List.range m).map fun j => Value.int .u8 (cellK e (2 * m) j)) = (pkL e m).map cell := by
  unfold pkL
  rw [List.map_map]
  refine List.map_congr_left fun j hj => ?_
  rw [List.mem_range] at hj
  have a := dg_le hd (2 * j)
  have b := dg_le hd (2 * j + 1)
  simp only [cell, pkB, Function.comp, cellK_all e m j hj]
  rw [UInt8.toNat_ofNat']
  congr 1
  omega

theorem or_two : ∀ x d : Fin 10, bits .or .u8 ((x.val : Int) * 16) (d.val : Int) = (x.val : Int) * 16 + (d.val : Int) := by decide +kernel
theorem or_hi : ∀ d : Fin 10, bits .or .u8 0 ((d.val : Int) * 16) = (d.val : Int) * 16 := by decide +kernel

set_option maxHeartbeats 1000000 in
theorem packDigits_any (l : List UInt8) (w : World) (hl : l.length ≤ 100) (hd : within 48 57 l = true) :
    Calls Tryd.prog 55 #[.string ⟨l.toArray⟩] w fun e w' => e = .returned (.string ⟨(pkL (padE l) ((l.length + 1) / 2)).toArray⟩) ∧ Below w.heap.size w w' := by
  obtain ⟨i0, hi, hz0, hz1, hz2⟩ := info_parts info5
  obtain ⟨m, hm⟩ : ∃ m, (l.length + 1) / 2 = m := ⟨_, rfl⟩
  have hm50 : m ≤ 50 := by omega
  have HD : Hid _ := hd
  have HM : Hid _ := hm
  clear hd hm
  go_enter Tryd.func55, Tryd.ntmps55
  go_wp2_with fail
  refine (packedLen_any _ _ (by omega)).mono ?_
  rintro e w1 ⟨rfl, hw1⟩
  subst hw1
  rw [HM.out]
  go_wp2_with (refine wpList_make_full _ rfl (.tmp 9) (.tmp 9) 65 rfl w1.heap.size 5 i0 (.int .u8 0) 1 Tryd.underlying65 hi hz0 hz1 .i64 .i64 _ _ m rfl rfl rfl rfl (by rw [hz2]; omega) (by unfold maxLen; omega) (Nat.le_refl _) ?_; intro w2 hown hg)
  rw [made5, cells0 (padE l) (l.length % 2) m cellK_first] at hown
  have hb2 : Below w1.heap.size w1 w2 := (Below.refl _ _).grown hg (Nat.le_refl _) (fun k hk => by cases hk)
  clear hg
  go_loopw [4, 5, 6, 13] (fun _ _ _ i wr => ∃ k : Nat, k ≤ l.length ∧ i = .int .i64 k ∧ wr.ownsRow w1.heap.size 5 1 (.slice (some ⟨w1.heap.size, 0, none⟩) m m) m ((List.range m).map fun j => Value.int .u8 (cellK (padE l) (k + l.length % 2) j)) ∧ Below w1.heap.size w1 wr) (fun _ _ _ i _ => l.length - (intOf i).toNat)
  case atStart => exact ⟨0, Nat.zero_le _, rfl, by rw [Nat.zero_add]; exact hown, hb2⟩
  case round =>
    obtain ⟨k, hk, rfl, ho, hbr⟩ := hrel
    clear hown
    by_cases hlt : k < l.length
    · have hki : (k : Int) < (l.length : Int) := by omega
      have hw := within_at HD.out hlt
      have hp := padE_at l k
      obtain ⟨c, hc⟩ : ∃ c, (⟨l.toArray⟩ : ByteArray)[k]'(by rw [ba_size]; exact hlt) = c := ⟨_, rfl⟩
      rw [(byte_at l k hlt).trans hc] at hw hp
      obtain ⟨h, hh⟩ : ∃ h, k + l.length % 2 = h := ⟨_, rfl⟩
      rw [hh] at ho hp
      have hat : h / 2 < m := by have := HM.out; omega
      have c2 : wr.cell? ⟨w1.heap.size, h / 2, none⟩ = some (.int .u8 (cellK (padE l) h (h / 2))) := by rw [ho.cellAt _ (by simpa using hat)]; simp [hat]
      have c3 : wr.frozen? ⟨w1.heap.size, h / 2, none⟩ = false := ho.frozenAt _
      obtain ⟨q, hq⟩ : ∃ q, h / 2 = q := ⟨_, rfl⟩
      rw [hq] at c2 c3 hat
      have hqi : (q : Int) < (m : Int) := by omega
      have hst := fun v => (ho.stored q (.int .u8 v)).1
      have hdg : dg (padE l) h = c.toNat - 48 := by unfold dg; rw [hp]
      have HST : Hid (∀ v : Int, v = (cellK (padE l) (h + 1) q : Nat) → (wr.setCell ⟨w1.heap.size, q, none⟩ (.int .u8 v)).ownsRow w1.heap.size 5 1 (.slice (some ⟨w1.heap.size, 0, none⟩) m m) m ((List.range m).map fun j => Value.int .u8 (cellK (padE l) (k + 1 + l.length % 2) j))) := by
        intro v hv
        have h1 := hst v
        rw [hv, map_range_set (fun j => Value.int .u8 (cellK (padE l) h j)) (fun j => Value.int .u8 (cellK (padE l) (h + 1) j)) m q (fun i hi => by rw [cellK_other (padE l) h i (by omega)])] at h1
        rw [show k + 1 + l.length % 2 = h + 1 from by omega, hv]
        exact h1
      have HH : Hid (k + l.length % 2 = h) := hh
      have HQ : Hid (h / 2 = q) := hq
      have hcb : (c.toNat : Int) ≤ 57 := by omega
      have hca : (48 : Int) ≤ (c.toNat : Int) := by omega
      by_cases hev : h % 2 = 0
      · have hz := cellK_even (padE l) h hev
        rw [hq, hdg] at hz
        rw [hz.1] at c2
        have c2' : wr.cell? ⟨w1.heap.size, q, none⟩ = some (.int .u8 0) := c2
        have HV : Hid (bits .or .u8 0 (((c.toNat : Int) - 48) * 16) = (cellK (padE l) (h + 1) q : Nat)) := by
          have := or_hi ⟨c.toNat - 48, by omega⟩
          simp only at this
          rw [Hid, show (c.toNat : Int) - 48 = ((c.toNat - 48 : Nat) : Int) from by omega, this, hz.2]
          omega
        clear hh hq ho hp hst hz c2 hdg
        go_wp2_with fail
        refine (digitPlace_any _ _ _ (by omega) (by omega)).mono ?_
        rintro e w3 ⟨rfl, hw3⟩
        subst hw3
        rw [HH.out, HQ.out, shift_even hev]
        go_wp2_with fail
        go_region
        go_wp2
        go_roundw
        case rel => exact ⟨k + 1, by omega, by go_num, (HST.out _ HV.out).drew, (hbr.setCell (Nat.le_refl _) _).drew⟩
        case measure => simp [intOf]; omega
      · have hod : h % 2 = 1 := by omega
        have hz := cellK_odd (padE l) h hod
        rw [hq, hdg] at hz
        have hx := dg_le (padE_dig HD.out) (h - 1)
        obtain ⟨x, hxe⟩ : ∃ x, dg (padE l) (h - 1) = x := ⟨_, rfl⟩
        rw [hxe] at hz hx
        rw [hz.1] at c2
        have c2' : wr.cell? ⟨w1.heap.size, q, none⟩ = some (.int .u8 ((x : Int) * 16)) := c2
        have HV : Hid (bits .or .u8 ((x : Int) * 16) ((c.toNat : Int) - 48) = (cellK (padE l) (h + 1) q : Nat)) := by
          have := or_two ⟨x, by omega⟩ ⟨c.toNat - 48, by omega⟩
          simp only at this
          rw [Hid, show (c.toNat : Int) - 48 = ((c.toNat - 48 : Nat) : Int) from by omega, this, hz.2]
          omega
        clear hh hq ho hp hst hz c2 hdg hxe
        go_wp2_with fail
        refine (digitPlace_any _ _ _ (by omega) (by omega)).mono ?_
        rintro e w3 ⟨rfl, hw3⟩
        subst hw3
        rw [HH.out, HQ.out, shift_odd hod]
        go_wp2_with fail
        go_region
        go_wp2
        go_roundw
        case rel => exact ⟨k + 1, by omega, by go_num, (HST.out _ HV.out).drew, (hbr.setCell (Nat.le_refl _) _).drew⟩
        case measure => simp [intOf]; omega
    · have hke : k = l.length := by omega
      subst hke
      have he : l.length + l.length % 2 = 2 * m := by have := HM.out; omega
      rw [he, cells1 (padE l) m (padE_dig HD.out)] at ho
      have ht := text_own ho
      have HO : Hid _ := ho
      clear ho he
      go_wp2
      go_ret
      exact ⟨one_str (by rw [HM.out]), hbr⟩

theorem putD_some {l r : List UInt8} (h : putD l = some r) : within 48 57 l = true ∧ l.length ≤ 100 ∧ r = pkL (padE l) ((l.length + 1) / 2) := by
  unfold putD at h
  split at h
  · rename_i h1
    exact ⟨h1.1, h1.2, (Option.some.inj h).symm⟩
  · cases h

set_option maxHeartbeats 400000 in
theorem iPutDigits_any (l : List UInt8) (w : World) (hl : l.length ≤ 1099511627776) :
    Calls Tryd.prog 114 #[.string ⟨l.toArray⟩] w fun e w' => e = .returned (.tuple #[.string ⟨((putD l).getD []).toArray⟩, .bool (putD l).isSome]) ∧ Below w.heap.size w w' := by
  by_cases hbig : 100 < l.length
  · have HN : Hid _ := putD_no2 hbig
    have hbi : (100 : Int) < (l.length : Int) := by omega
    go_enter Tryd.func114, Tryd.ntmps114
    go_wp2
    go_ret2
    exact ⟨str_ok (by rw [HN.out]; rfl) (by rw [HN.out]; rfl), Below.refl _ _⟩
  · have hbi : (l.length : Int) ≤ 100 := by omega
    have hl1 : l.length ≤ 100 := by omega
    cases hd : within 48 57 l
    · have HN : Hid _ := putD_no1 hd
      go_enter Tryd.func114, Tryd.ntmps114
      go_wp2_with fail
      refine (iDigits_any _ _ hl).mono ?_
      rintro e w1 ⟨rfl, hw⟩
      subst hw
      rw [hd]
      go_wp2
      go_ret2
      exact ⟨str_ok (by rw [HN.out]; rfl) (by rw [HN.out]; rfl), Below.refl _ _⟩
    · have HY : Hid _ := putD_yes hd hl1
      have HD : Hid _ := hd
      go_enter Tryd.func114, Tryd.ntmps114
      go_wp2_with fail
      refine (iDigits_any _ _ hl).mono ?_
      rintro e w1 ⟨rfl, hw⟩
      subst hw
      rw [hd]
      clear hd
      go_wp2_with fail
      refine (packDigits_any _ _ hl1 HD.out).mono ?_
      rintro e w2 ⟨rfl, b2⟩
      generalize pkL (padE l) ((l.length + 1) / 2) = r at HY
      go_wp2
      go_ret2
      exact ⟨str_ok (by rw [HY.out]; rfl) (by rw [HY.out]; rfl), b2⟩

end Go.Proofs.YtopgcfgomappjaaDoor
