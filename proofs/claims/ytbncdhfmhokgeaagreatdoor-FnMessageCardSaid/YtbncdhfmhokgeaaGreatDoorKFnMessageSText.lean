/- The contract of the specification's MessageText. -/
import Derived.Test.YtbncdhfmhokgeaaGreatDoorJFnMessage3a
import Derived.Test.YtbncdhfmhokgeaaGreatDoorJFnMessage4a
namespace Go.Proofs.YtbncdhfmhokgeaaGreatDoor
open Go.RowKit

/-- block g holds the bytes l, and may be written there -/
def BAt (w : World) (g : Nat) (l : List UInt8) : Prop := g < w.heap.size ∧ ∀ j, j < l.length → w.cell? ⟨g, j, none⟩ = some (cell (l.getD j 0)) ∧ w.frozen? ⟨g, j, none⟩ = false
theorem BAt.below {w w' : World} {g : Nat} {l : List UInt8} (h : BAt w g l) (hb : Below w.heap.size w w') : BAt w' g l :=
  ⟨Nat.lt_of_lt_of_le h.1 hb.size, fun j hj => ⟨(hb.cell (p := ⟨g, j, none⟩) h.1).trans (h.2 j hj).1, (hb.frozen (p := ⟨g, j, none⟩) h.1).trans (h.2 j hj).2⟩⟩
theorem BAt.text {w : World} {g cap : Nat} {l : List UInt8} (h : BAt w g l) : (convert 22 9 (.slice (some ⟨g, 0, none⟩) l.length cap)).run Tryz.prog w = .ok (.string ⟨l.toArray⟩) w := by
  refine run_convert_bytes_back w _ _ _ _ _ _ Tryz.underlying22 Tryz.underlying5 Tryz.underlying9 fun j hj => ?_
  rw [show (⟨g, 0, none⟩ : Addr).add j = ⟨g, j, none⟩ from by unfold Addr.add; split <;> simp_all, (h.2 j hj).1]
  simp [cell, List.getD_eq_getElem?_getD, hj]
theorem conv_bytes (d : List UInt8) (w : World) : ∃ cap w', (convert 9 22 (.string ⟨d.toArray⟩)).run Tryz.prog w = .ok (.slice (some ⟨w.heap.size, 0, none⟩) d.length cap) w' ∧ BAt w' w.heap.size d ∧ Below w.heap.size w w' := by
  have h := run_bytes_of_string (P := Tryz.prog) w 9 22 5 ⟨d.toArray⟩ Tryz.underlying9 Tryz.underlying22 Tryz.underlying5
  rw [ba_size] at h
  refine ⟨_, _, h, ⟨by simp [World.alloc, World.drew, -World.alloc_eq, -World.drew_eq], fun j hj => ?_⟩, ((Below.refl _ _).drew).alloc (Nat.le_refl _) _⟩
  have hh := heap_alloc_new w.drew (.cells (bytesRow ⟨d.toArray⟩ (grownCap w d.length 0 5)) 5 ((bytesRow ⟨d.toArray⟩ (grownCap w d.length 0 5)).size, (bytesRow ⟨d.toArray⟩ (grownCap w d.length 0 5)).size + 1))
  have hsz : d.length ≤ (bytesRow ⟨d.toArray⟩ (grownCap w d.length 0 5)).size := by simp [bytesRow]
  constructor
  · rw [cell_of_row _ w.heap.size j _ _ _ hh]
    simp [bytesRow, cell, Array.getElem?_append, hj, List.getD_eq_getElem?_getD]
  · unfold World.frozen?
    have hh' : (w.drew.alloc (.cells (bytesRow ⟨d.toArray⟩ (grownCap w d.length 0 5)) 5 ((bytesRow ⟨d.toArray⟩ (grownCap w d.length 0 5)).size, (bytesRow ⟨d.toArray⟩ (grownCap w d.length 0 5)).size + 1))).heap[w.heap.size]? = _ := hh
    rw [hh']
    simp; omega

/-- behind j rounds -/
def mixB (d : List UInt8) (j : Nat) : List UInt8 := (blank d).take j ++ d.drop j
theorem mixB_len (d : List UInt8) (j : Nat) (h : j ≤ d.length) : (mixB d j).length = d.length := by simp [mixB, blank_len]; omega
theorem mixB_zero (d : List UInt8) : mixB d 0 = d := by simp [mixB]
theorem mixB_all (d : List UInt8) : mixB d d.length = blank d := by
  rw [mixB, List.drop_of_length_le (Nat.le_refl _), List.append_nil, List.take_of_length_le (by rw [blank_len]; omega)]
theorem mixB_at (d : List UInt8) (j i : Nat) (hj : j ≤ d.length) (hi : i < d.length) : (mixB d j).getD i 0 = if i < j then bl (d.getD i 0) else d.getD i 0 := by
  simp only [mixB, List.getD_eq_getElem?_getD, List.getElem?_append, List.length_take, blank_len]
  by_cases h : i < j
  · rw [if_pos (by omega), if_pos h]; simp [blank, h, hi]
  · rw [if_neg (by omega), if_neg h]
    rw [List.getElem?_drop, show j + (i - min j d.length) = i by omega]

theorem bytes_ext {a b : List UInt8} (hl : a.length = b.length) (h : ∀ i, i < a.length → a.getD i 0 = b.getD i 0) : a = b := by
  apply List.ext_getElem hl
  intro i h1 h2
  have := h i h1
  simpa [List.getD_eq_getElem?_getD, h1, h2] using this
theorem mixB_hit {d : List UInt8} {i : Nat} (hi : i < d.length) (h : d.getD i 0 = 32) : (mixB d i).set i 95 = mixB d (i + 1) := by
  refine bytes_ext (by rw [List.length_set, mixB_len d i (by omega), mixB_len d (i + 1) (by omega)]) fun j hj => ?_
  rw [List.length_set, mixB_len d i (by omega)] at hj
  rw [mixB_at d (i + 1) j (by omega) hj]
  by_cases hji : j = i
  · subst hji
    rw [if_pos (by omega), h]
    simp [List.getD_eq_getElem?_getD, mixB_len d j (by omega), hj, bl]
  · have e : ((mixB d i).set i 95).getD j 0 = (mixB d i).getD j 0 := by simp [List.getD_eq_getElem?_getD, Ne.symm hji]
    rw [e, mixB_at d i j (by omega) hj]
    by_cases hlt : j < i
    · rw [if_pos hlt, if_pos (by omega)]
    · rw [if_neg hlt, if_neg (by omega)]
theorem mixB_miss {d : List UInt8} {i : Nat} (hi : i < d.length) (h : d.getD i 0 ≠ 32) : mixB d i = mixB d (i + 1) := by
  refine bytes_ext (by rw [mixB_len d i (by omega), mixB_len d (i + 1) (by omega)]) fun j hj => ?_
  rw [mixB_len d i (by omega)] at hj
  rw [mixB_at d (i + 1) j (by omega) hj, mixB_at d i j (by omega) hj]
  by_cases hji : j = i
  · subst hji
    rw [if_neg (by omega), if_pos (by omega), bl, if_neg h]
  · by_cases hlt : j < i
    · rw [if_pos hlt, if_pos (by omega)]
    · rw [if_neg hlt, if_neg (by omega)]
theorem BAt.stored {w : World} {g i : Nat} {l : List UInt8} (h : BAt w g l) (hi : i < l.length) (c : UInt8) : BAt (w.setCell ⟨g, i, none⟩ (cell c)) g (l.set i c) := by
  refine ⟨by simpa using h.1, fun j hj => ?_⟩
  rw [List.length_set] at hj
  refine ⟨?_, by rw [World.frozen?_setCell]; exact (h.2 j hj).2⟩
  by_cases hji : j = i
  · subst hji
    rw [World.cell?_setCell_same _ _ _ (h.2 j hj).1]
    simp [List.getD_eq_getElem?_getD, hj]
  · rw [World.cell?_setCell_other _ _ _ _ (by simp), (h.2 j hj).1]
    simp [List.getD_eq_getElem?_getD, Ne.symm hji]

set_option maxRecDepth 100000 in
set_option maxHeartbeats 3200000 in
theorem sText_any (kd : Int) (ao : Option Addr) (cap : Nat) (fs : List Fld) (w : World) (hz : FldsAt w ao fs) (hn : fs.length ≤ 1048576) (hd : sumF fs ≤ 1048576) :
    Calls Tryz.prog 12 #[.agg #[.int .i64 kd, .slice ao fs.length cap]] w fun e w' => e = .returned (.string ⟨(textL kd fs).toArray⟩) ∧ Below w.heap.size w w' := by
  have bel : Below w.heap.size w (w.alloc (.cells #[.int .i64 kd, .slice ao fs.length cap] 26)) := by go_grown
  cases hm : msgOk kd fs
  · have HN : Hid _ := textL_no hm
    have HM : Hid _ := hm
    clear hm
    go_enter Tryz.func12, Tryz.ntmps12
    go_wp2_with fail
    refine (sMsg_is HM.out (hz.below bel) hn hd).mono ?_
    rintro e w3 ⟨rfl, b3⟩
    have q3 := (box2 b3).2.2.1
    clear b3 bel
    go_wp2
    go_ret
    exact ⟨one_str (by rw [HN.out]), q3⟩
  · have HY : Hid _ := textL_yes hm
    have HM : Hid _ := hm
    have HOK : Hid _ := (msgOk_parts hm).2
    clear hm
    go_enter Tryz.func12, Tryz.ntmps12
    go_wp2_with fail
    refine (sMsg_is HM.out (hz.below bel) hn hd).mono ?_
    rintro e w3 ⟨rfl, b3⟩
    obtain ⟨c0, c1, q3, hs3⟩ := box2 b3
    clear b3 bel
    go_wp2_with fail
    refine (sPadNum_any _ _ _).mono ?_
    rintro e w4 ⟨rfl, b4⟩
    have q4 := next q3 b4
    obtain ⟨d0, d1⟩ := keep2 c0 c1 b4
    have hs4 : w.heap.size < w4.heap.size := World.block_lt_of_cell? w4 _ d0
    have hpl := padT_l kd 4
    have HC : Hid (∀ i, i < fs.length → ∃ b off, ao = some ⟨b, off, none⟩ ∧ b < w4.heap.size ∧ w4.cell? ⟨b, off + i * 2, none⟩ = some (.int .i64 (at0 fs i).1) ∧ w4.cell? ⟨b, off + i * 2 + 1, none⟩ = some (.string ⟨(at0 fs i).2.toArray⟩)) := by
      rcases hz.below q4 with rfl | ⟨b, off, rfl, hb, hcell⟩
      · intro i hi; simp at hi
      · exact fun i hi => ⟨b, off, rfl, hb, hcell i hi⟩
    have HQ : Hid _ := q4
    have HD1 : Hid _ := d1
    clear b4 q3 c0 c1 q4 hz d0
    obtain ⟨H, hH⟩ : ∃ p, padT kd 4 = p := ⟨_, rfl⟩
    rw [hH] at hpl HY ⊢
    clear hH
    go_wp2
    go_loopw [3, 4, 5, 6] (fun v i _ _ wr => ∃ k : Nat, k ≤ fs.length ∧ i = .int .i64 k ∧ v = .string ⟨(H ++ txtB (fs.take k)).toArray⟩ ∧ Below w4.heap.size w4 wr) (fun _ i _ _ _ => fs.length - (intOf i).toNat)
    case atStart => exact ⟨0, Nat.zero_le _, rfl, by simp [txtB], Below.refl _ _⟩
    case round =>
      obtain ⟨k, hk, rfl, rfl, hbr⟩ := hrel
      clear d1
      have d1 := (hbr.cell (p := ⟨w.heap.size, 1, none⟩) hs4).trans HD1.out
      have hbd := txtB_bd HOK.out k
      by_cases hlt : k < fs.length
      · obtain ⟨b, off, rfl, hb, e1, e2⟩ := HC.out k hlt
        have c2 : wr.cell? ⟨b, off + k * 2 + 1, none⟩ = some (.string ⟨(at0 fs k).2.toArray⟩) := (hbr.cell (p := ⟨b, off + k * 2 + 1, none⟩) hb).trans e2
        have hki : (k : Int) < (fs.length : Int) := by omega
        have HSTEP : Hid _ := txtB_step fs k hlt
        have hfo : fieldOk (at0 fs k).1 (at0 fs k).2 = true := (okF_mem HOK.out _ (at0_mem hlt)).1
        obtain ⟨⟨n, dt⟩, hf⟩ : ∃ f, at0 fs k = f := ⟨_, rfl⟩
        rw [hf] at c2 HSTEP hfo e1
        simp only at c2 HSTEP hfo e1
        have HE1 : Hid _ := e1
        have hkn := known_K (ok_known hfo)
        obtain ⟨a, rfl⟩ := Int.eq_ofNat_of_zero_le (show 0 ≤ n by omega)
        have ha : a ≤ 93 := by omega
        have hdl : dt.length ≤ 999 := by rcases fieldOk_K hfo with h | h | h | h | h <;> omega
        have HTL : Hid ((Lib.decDigits a).length ≤ 3) := dec_len_pow 3 a (by omega) (by omega)
        obtain ⟨B, hB⟩ : ∃ B, H ++ txtB (fs.take k) = B := ⟨_, rfl⟩
        have hBl : B.length ≤ 200000 := by rw [← hB, List.length_append]; omega
        rw [hB]
        have HB : Hid _ := hB
        obtain ⟨cap5, w5, hcv, hba, b5⟩ := conv_bytes dt wr
        have HBA : Hid (BAt w5 wr.heap.size dt) := hba
        have HB5 : Hid _ := b5
        clear hf hfo e1 e2 hB hkn hba b5
        obtain ⟨W, hW⟩ : ∃ W, W = wr := ⟨_, rfl⟩
        subst hW
        have hWs := HB5.out.size
        have hs5 : W.heap.size < w5.heap.size := HBA.out.1
        go_wp2
        go_loopw [6] (fun v wr => ∃ i : Nat, i ≤ dt.length ∧ v = .int .i64 i ∧ BAt wr W.heap.size (mixB dt i) ∧ Below W.heap.size W wr) (fun v _ => dt.length - (intOf v).toNat)
        case atStart => exact ⟨0, Nat.zero_le _, rfl, by rw [mixB_zero]; exact HBA.out, HB5.out⟩
        case round =>
          obtain ⟨i, hi, rfl, hba, hbi⟩ := hrel
          have HBI : Hid (BAt wr W.heap.size (mixB dt i)) := hba
          clear hba
          by_cases hil : i < dt.length
          · have hii : (i : Int) < (dt.length : Int) := by omega
            have hml := mixB_len dt i hi
            have hcell := HBI.out.2 i (by rw [hml]; exact hil)
            rw [mixB_at dt i i hi hil, if_neg (by omega)] at hcell
            obtain ⟨c, hc⟩ : ∃ c, dt.getD i 0 = c := ⟨_, rfl⟩
            rw [hc] at hcell
            have x1 : wr.cell? ⟨W.heap.size, i, none⟩ = some (.int .u8 (c.toNat : Int)) := hcell.1
            have x2 := hcell.2
            have HCC : Hid _ := hc
            clear hc hcell hml
            by_cases h32 : c = 32
            · have hq : (((c.toNat : Nat) : Int) == 32) = true := by rw [h32]; rfl
              have HR : Hid (BAt (wr.setCell ⟨W.heap.size, i, none⟩ (.int .u8 95)) W.heap.size (mixB dt (i + 1))) := by
                rw [Hid, ← mixB_hit hil (by rw [HCC.out, h32])]
                exact HBI.out.stored (by rw [mixB_len dt i hi]; exact hil) 95
              clear h32
              go_wp2
              go_roundw
              case rel => exact ⟨i + 1, by omega, by go_num, HR.out, hbi.setCell (Nat.le_refl _) _⟩
              case measure => simp [intOf]; omega
            · have hq : (((c.toNat : Nat) : Int) == 32) = false := by
                simp only [beq_eq_false_iff_ne, ne_eq]
                intro hh
                exact h32 (UInt8.toNat.inj (by have : c.toNat = 32 := by omega
                                               rw [this]; rfl))
              have HR : Hid (BAt wr W.heap.size (mixB dt (i + 1))) := by
                rw [Hid, ← mixB_miss hil (by rw [HCC.out]; exact h32)]; exact HBI.out
              clear h32
              go_wp2
              go_roundw
              case rel => exact ⟨i + 1, by omega, by go_num, HR.out, hbi⟩
              case measure => simp [intOf]; omega
          · have hie : i = dt.length := by omega
            subst hie
            rw [mixB_all] at HBI
            have hbw := hbr.trans (hbi.mono hbr.size)
            have d15 := (hbw.cell (p := ⟨w.heap.size, 1, none⟩) hs4).trans HD1.out
            have c15 := (hbw.cell (p := ⟨b, off + k * 2, none⟩) hb).trans HE1.out
            have hne := over_ne wr
            have g1 := over_cell d15
            have g2 := over_cell c15
            have hcv2 : ∀ z : Over wr, (convert 22 9 (.slice (some ⟨W.heap.size, 0, none⟩) dt.length cap5)).run Tryz.prog z.x = .ok (.string ⟨(blank dt).toArray⟩) z.x := by
              intro z
              have h := (HBI.out.below z.h).text (cap := cap5)
              rwa [blank_len] at h
            obtain ⟨ds, hds⟩ : ∃ x, Lib.decDigits a = x := ⟨_, rfl⟩
            obtain ⟨bk, hbk⟩ : ∃ x, blank dt = x := ⟨_, rfl⟩
            have hdsl : ds.length ≤ 3 := by rw [← hds]; exact HTL.out
            have hbkl : bk.length ≤ 999 := by rw [← hbk, blank_len]; exact hdl
            have HI : Hid (∀ z : Over wr, Calls Tryz.prog 45 #[.int .i64 a] z.x fun e w' => e = .returned (.string ⟨ds.toArray⟩) ∧ Below z.x.heap.size z.x w') := by
              intro z; rw [← hds]
              exact (dec_up a z.x (by omega)).mono fun e w' ⟨he, hw⟩ => ⟨he, by rw [hw]; exact Below.refl _ _⟩
            have HTF : Hid (txtF a dt = [32] ++ ds ++ [61] ++ bk) := by rw [Hid, txtF, Int.toNat_natCast, hds, hbk]
            rw [hbk] at hcv2
            clear hds hbk HBI HTL
            go_wp2
            refine wp_region_over (by kernel_rfl) (by kernel_rfl) ?_
            repeat (go_big_quiet_step (exact over_of (HI.out _)))
            refine wpQuiet_nil ?_
            rintro _ ⟨⟨w6, b6⟩, hw6⟩
            subst hw6
            have bb := hbw.trans (b6.mono hbw.size)
            clear b6 g1 g2 HI hne hcv2
            go_wp2
            go_roundw
            case rel => exact ⟨k + 1, by omega, by go_num, by rw [HSTEP.out, HTF.out, ← List.append_assoc H, HB.out, show (⟨#[32]⟩ : ByteArray) = ⟨[32].toArray⟩ from rfl, show (⟨#[61]⟩ : ByteArray) = ⟨[61].toArray⟩ from rfl, ba_append, ba_append, ba_append, ba_append]; simp only [List.append_assoc], bb⟩
            case measure => simp [intOf]; omega
      · have hke : k = fs.length := by omega
        subst hke
        have HE : Hid (textL kd fs = H ++ txtB (fs.take fs.length)) := by rw [Hid, HY.out, List.take_of_length_le (Nat.le_refl _)]
        obtain ⟨B, hB⟩ : ∃ B, H ++ txtB (fs.take fs.length) = B := ⟨_, rfl⟩
        rw [hB] at HE ⊢
        clear hB
        go_wp2
        go_ret
        exact ⟨one_str (by rw [HE.out]), HQ.out.trans (hbr.mono HQ.out.size)⟩

end Go.Proofs.YtbncdhfmhokgeaaGreatDoor
