/- The contract of the program's MessageText. -/
import Derived.Test.YtopgcfgomappjaaDoorFPack
import Derived.Test.YtopgcfgomappjaaDoorTextP
import Derived.Test.YtopgcfgomappjaaDoorShelf2
namespace Go.Proofs.YtopgcfgomappjaaDoor
open Go.RowKit

/-- the library's own bound lies in its variable -/
def MaxL (w : World) : Prop := ∃ m, w.cell? ⟨2, 0, none⟩ = some (.int .i64 m)
theorem MaxL.below {w w' : World} (h : MaxL w) (hb : Below w.heap.size w w') : MaxL w' := by
  obtain ⟨m, hm⟩ := h
  exact ⟨m, (hb.cell (p := ⟨2, 0, none⟩) (World.block_lt_of_cell? w _ hm)).trans hm⟩
theorem itoa_is {n : Int} {w : World} (h0 : 2 ≤ n) (h1 : n ≤ 93) (ht : Pow10 w) :
    Calls Tryd.prog 40 #[.int .i64 n] w fun e w' => e = .returned (.string ⟨(Lib.decDigits n.toNat).toArray⟩) ∧ Below w.heap.size w w' := by
  obtain ⟨a, rfl⟩ := Int.eq_ofNat_of_zero_le (show 0 ≤ n by omega)
  refine (Tryd.strconv_Itoa _ (by omega) (by omega) _ ht).mono ?_
  rintro e w1 ⟨rfl, k, os, rfl⟩
  exact ⟨one_str (by rw [Int.toNat_natCast, Lib.itoa, if_neg (by omega)]; rfl), Lib.below_grow _ _ (Nat.le_refl _) _ _⟩
theorem replace_is {d : List UInt8} {w : World} (hl : d.length ≤ 999) (hm : MaxL w) :
    Calls Tryd.prog 41 #[.string ⟨d.toArray⟩, .string ⟨#[32]⟩, .string ⟨#[95]⟩] w fun e w' => e = .returned (.string ⟨(blank d).toArray⟩) ∧ Below w.heap.size w w' := by
  obtain ⟨m, hm⟩ := hm
  have hc : Lib.countB ⟨d.toArray⟩ ⟨#[32]⟩ ≤ d.length := by
    have := Lib.countB_le ⟨#[32]⟩ (by decide) d.length ⟨d.toArray⟩ (by rw [ba_size]; omega)
    rwa [ba_size] at this
  have h := Tryd.strings_ReplaceAll ⟨d.toArray⟩ ⟨#[32]⟩ ⟨#[95]⟩ m w (by rw [ba_size]; omega) hm (by decide) (by rw [ba_size]; have : (⟨#[95]⟩ : ByteArray).size = 1 := rfl; rw [this]; omega)
  have e : Lib.replaceAll (⟨d.toArray⟩ : ByteArray).data.toList (⟨#[32]⟩ : ByteArray).data.toList (⟨#[95]⟩ : ByteArray).data.toList = blank d := by
    show Lib.replaceAll d [32] [95] = blank d
    exact replace_blank d
  rw [e] at h
  exact h

set_option maxRecDepth 100000 in
set_option maxHeartbeats 1600000 in
theorem iText_any (kd : Int) (ao : Option Addr) (cap : Nat) (fs : List Fld) (w : World) (hz : FldsAt w ao fs) (hn : fs.length ≤ 1048576) (hd : sumF fs ≤ 1048576) (ht : Pow10 w) (hm : MaxL w) :
    Calls Tryd.prog 16 #[.agg #[.int .i64 kd, .slice ao fs.length cap]] w fun e w' => e = .returned (.string ⟨(textL kd fs).toArray⟩) ∧ Below w.heap.size w w' := by
  have bel : Below w.heap.size w (w.alloc (.cells #[.int .i64 kd, .slice ao fs.length cap] 30)) := by go_grown
  have HT : Hid (Pow10 w) := ht
  have HX : Hid (MaxL w) := hm
  clear hm ht
  cases hm : msgOk kd fs
  · have HN : Hid _ := textL_no hm
    have HM : Hid _ := hm
    clear hm
    go_enter Tryd.func16, Tryd.ntmps16
    go_wp2_with fail
    refine (iMsg_is HM.out (hz.below bel) hn hd).mono ?_
    rintro e w3 ⟨rfl, b3⟩
    have q3 := (box2 b3).2.2.1
    clear b3 bel
    go_wp2
    go_ret
    exact ⟨one_str (by rw [HN.out]), q3⟩
  · have HY : Hid _ := textL_yes hm
    have HM : Hid _ := hm
    have HOK : Hid _ := (msgOk_parts hm).2
    clear hm
    go_enter Tryd.func16, Tryd.ntmps16
    go_wp2_with fail
    refine (iMsg_is HM.out (hz.below bel) hn hd).mono ?_
    rintro e w3 ⟨rfl, b3⟩
    obtain ⟨c0, c1, q3, hs3⟩ := box2 b3
    clear b3 bel
    go_wp2_with fail
    refine (iPadNum_any _ _ _ (HT.out.below q3)).mono ?_
    rintro e w4 ⟨rfl, b4⟩
    have q4 := next q3 b4
    obtain ⟨d0, d1⟩ := keep2 c0 c1 b4
    have hpl := padT_l kd 4
    have HT4 : Hid (Pow10 w4) := HT.out.below q4
    have HX4 : Hid (MaxL w4) := HX.out.below q4
    have HC : Hid (∀ i, i < fs.length → ∃ b off, ao = some ⟨b, off, none⟩ ∧ b < w4.heap.size ∧ w4.cell? ⟨b, off + i * 2, none⟩ = some (.int .i64 (at0 fs i).1) ∧ w4.cell? ⟨b, off + i * 2 + 1, none⟩ = some (.string ⟨(at0 fs i).2.toArray⟩)) := by
      rcases hz.below q4 with rfl | ⟨b, off, rfl, hb, hcell⟩
      · intro i hi; simp at hi
      · exact fun i hi => ⟨b, off, rfl, hb, hcell i hi⟩
    have HQ : Hid _ := q4
    clear b4 q3 c0 c1 q4 hz
    obtain ⟨H, hH⟩ : ∃ p, padT kd 4 = p := ⟨_, rfl⟩
    rw [hH] at hpl HY ⊢
    clear hH
    go_wp2
    go_loopw [3, 15] (fun v i wr => ∃ k : Nat, k ≤ fs.length ∧ i = .int .i64 k ∧ v = .string ⟨(H ++ txtB (fs.take k)).toArray⟩ ∧ Below w4.heap.size w4 wr) (fun _ i _ => fs.length - (intOf i).toNat)
    case atStart => exact ⟨0, Nat.zero_le _, rfl, by simp [txtB], Below.refl _ _⟩
    case round =>
      obtain ⟨k, hk, rfl, rfl, hbr⟩ := hrel
      clear d0 d1
      have hbd := txtB_bd HOK.out k
      by_cases hlt : k < fs.length
      · obtain ⟨b, off, rfl, hb, e1, e2⟩ := HC.out k hlt
        have c1 : wr.cell? ⟨b, off + k * 2, none⟩ = some (.int .i64 (at0 fs k).1) := (hbr.cell (p := ⟨b, off + k * 2, none⟩) hb).trans e1
        have c2 : wr.cell? ⟨b, off + k * 2 + 1, none⟩ = some (.string ⟨(at0 fs k).2.toArray⟩) := (hbr.cell (p := ⟨b, off + k * 2 + 1, none⟩) hb).trans e2
        have hki : (k : Int) < (fs.length : Int) := by omega
        have HSTEP : Hid _ := txtB_step fs k hlt
        have hfo : fieldOk (at0 fs k).1 (at0 fs k).2 = true := (okF_mem HOK.out _ (at0_mem hlt)).1
        obtain ⟨⟨n, dt⟩, hf⟩ : ∃ f, at0 fs k = f := ⟨_, rfl⟩
        rw [hf] at c1 c2 HSTEP hfo
        simp only at c1 c2 HSTEP hfo
        have hkn := known_K (ok_known hfo)
        have HN1 : Hid (2 ≤ n ∧ n ≤ 93) := ⟨by omega, by omega⟩
        have hdl : dt.length ≤ 999 := by rcases fieldOk_K hfo with h | h | h | h | h <;> omega
        have HTL : Hid ((Lib.decDigits n.toNat).length ≤ 3) := dec_len_pow 3 n.toNat (by omega) (by omega)
        have bx : Below w4.heap.size w4 (wr.alloc (.cells #[.int .i64 n, .string ⟨dt.toArray⟩] 43)) := hbr.alloc hbr.size _
        have HTr : Hid (Pow10 (wr.alloc (.cells #[.int .i64 n, .string ⟨dt.toArray⟩] 43))) := HT4.out.below bx
        have HXr : Hid (MaxL (wr.alloc (.cells #[.int .i64 n, .string ⟨dt.toArray⟩] 43))) := HX4.out.below bx
        obtain ⟨B, hB⟩ : ∃ B, H ++ txtB (fs.take k) = B := ⟨_, rfl⟩
        have hBl : B.length ≤ 200000 := by rw [← hB, List.length_append]; omega
        rw [hB]
        have HB : Hid _ := hB
        have hne := over_ne (wr.alloc (.cells #[.int .i64 n, .string ⟨dt.toArray⟩] 43))
        have g1 := over_cell (W := wr.alloc (.cells #[.int .i64 n, .string ⟨dt.toArray⟩] 43)) (a := ⟨wr.heap.size, 0, none⟩) (v := .int .i64 n) (by simp)
        have g2 := over_cell (W := wr.alloc (.cells #[.int .i64 n, .string ⟨dt.toArray⟩] 43)) (a := ⟨wr.heap.size, 1, none⟩) (v := .string ⟨dt.toArray⟩) (by simp)
        obtain ⟨ds, hds⟩ : ∃ x, Lib.decDigits n.toNat = x := ⟨_, rfl⟩
        obtain ⟨bk, hbk⟩ : ∃ x, blank dt = x := ⟨_, rfl⟩
        have hdsl : ds.length ≤ 3 := by rw [← hds]; exact HTL.out
        have hbkl : bk.length ≤ 999 := by rw [← hbk, blank_len]; exact hdl
        have HI : Hid (∀ z : Over (wr.alloc (.cells #[.int .i64 n, .string ⟨dt.toArray⟩] 43)), Calls Tryd.prog 40 #[.int .i64 n] z.x fun e w' => e = .returned (.string ⟨ds.toArray⟩) ∧ Below z.x.heap.size z.x w') := by
          intro z; rw [← hds]; exact itoa_is HN1.out.1 HN1.out.2 (HTr.out.below z.h)
        have HR : Hid (∀ z : Over (wr.alloc (.cells #[.int .i64 n, .string ⟨dt.toArray⟩] 43)), Calls Tryd.prog 41 #[.string ⟨dt.toArray⟩, .string ⟨#[32]⟩, .string ⟨#[95]⟩] z.x fun e w' => e = .returned (.string ⟨bk.toArray⟩) ∧ Below z.x.heap.size z.x w') := by
          intro z; rw [← hbk]; exact replace_is hdl (HXr.out.below z.h)
        have HTF : Hid (txtF n dt = [32] ++ ds ++ [61] ++ bk) := by rw [Hid, txtF, hds, hbk]
        clear hf hfo e1 e2 hB hkn hds hbk HTr HXr HTL
        go_wp2
        refine wp_region_over (by kernel_rfl) (by kernel_rfl) ?_
        repeat (go_big_quiet_step (first | exact over_of (HI.out _) | exact over_of (HR.out _)))
        refine wpQuiet_nil ?_
        rintro _ ⟨⟨w6, b6⟩, hw6⟩
        subst hw6
        have bb := bx.trans (b6.mono (by have := hbr.size; simp; omega))
        clear b6 bx g1 g2 HI HR hne
        go_wp2
        go_roundw
        case rel => exact ⟨k + 1, by omega, by go_num, by rw [HSTEP.out, HTF.out, ← List.append_assoc H, HB.out, show (⟨#[32]⟩ : ByteArray) = ⟨[32].toArray⟩ from rfl, show (⟨#[61]⟩ : ByteArray) = ⟨[61].toArray⟩ from rfl, ba_append, ba_append, ba_append, ba_append], bb⟩
        case measure => simp [intOf]; omega
      · have hke : k = fs.length := by omega
        subst hke
        have HE : Hid (textL kd fs = H ++ txtB (fs.take fs.length)) := by rw [Hid, HY.out, List.take_of_length_le (Nat.le_refl _)]
        obtain ⟨B, hB⟩ : ∃ B, H ++ txtB (fs.take fs.length) = B := ⟨_, rfl⟩
        rw [hB] at HE ⊢
        clear hB
        go_wp2
        go_ret
        exact ⟨one_str (by rw [HE.out]), HQ.out.trans (hbr.mono HQ.out.size)⟩

end Go.Proofs.YtopgcfgomappjaaDoor
