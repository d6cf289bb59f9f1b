/- A line's words, and their numbers: plainly, and the specification's contracts. -/
import Derived.Test.YtlonjjliochbhaaJE10a
namespace Go.Proofs.Ytlonjjliochbhaa
open Go.RowKit
set_option maxRecDepth 100000

/-- the words that ended ahead of place i, and where the next one begins -/
def scanW (l : List UInt8) : Nat → Recs × Nat
  | 0 => ([], 0)
  | i + 1 => if l.getD i 0 = 32 then ((scanW l i).1 ++ [(l.drop (scanW l i).2).take (i - (scanW l i).2)], i + 1) else scanW l i
def wordsW (l : List UInt8) : Recs := (scanW l l.length).1 ++ [l.drop (scanW l l.length).2]
theorem scanW_le (l : List UInt8) : ∀ i, (scanW l i).2 ≤ i ∧ (scanW l i).1.length ≤ i
  | 0 => ⟨Nat.le_refl _, Nat.le_refl _⟩
  | i + 1 => by
    have := scanW_le l i
    unfold scanW
    split
    · refine ⟨Nat.le_refl _, ?_⟩
      simp; omega
    · omega
theorem scanW_yes {l : List UInt8} {i : Nat} (h : l.getD i 0 = 32) : scanW l (i + 1) = ((scanW l i).1 ++ [(l.drop (scanW l i).2).take (i - (scanW l i).2)], i + 1) := by rw [scanW, if_pos h]
theorem scanW_no {l : List UInt8} {i : Nat} (h : l.getD i 0 ≠ 32) : scanW l (i + 1) = scanW l i := by rw [scanW, if_neg h]
theorem wordsW_len (l : List UInt8) : 1 ≤ (wordsW l).length ∧ (wordsW l).length ≤ l.length + 1 := by
  have := scanW_le l l.length
  rw [wordsW, List.length_append]; simp; omega
theorem scanW_short (l : List UInt8) : ∀ i, ∀ r ∈ (scanW l i).1, r.length ≤ l.length
  | 0 => fun r h => by cases h
  | i + 1 => fun r h => by
    unfold scanW at h
    split at h
    · rcases List.mem_append.1 h with h | h
      · exact scanW_short l i r h
      · rw [List.mem_singleton.1 h]; simp; omega
    · exact scanW_short l i r h
theorem wordsW_short (l : List UInt8) : ∀ r ∈ wordsW l, r.length ≤ l.length := by
  intro r h
  rcases List.mem_append.1 h with h | h
  · exact scanW_short l _ r h
  · rw [List.mem_singleton.1 h]; simp

set_option maxHeartbeats 3200000 in
theorem sWords_any (l : List UInt8) (w : World) (hl : l.length ≤ 1048576) :
    Calls Try.prog 36 #[.string ⟨l.toArray⟩] w fun e w' => ∃ a k, e = .returned (.slice a (wordsW l).length k) ∧ w'.ownsRow w.heap.size 9 1 (.slice a (wordsW l).length k) (wordsW l).length (scells (wordsW l)) ∧ Below w.heap.size w w' := by
  obtain ⟨i0, hi, hz0, hz1, hz2⟩ := info_parts infoS
  have HO0 : Hid ((w.alloc (.cells #[] 9)).ownsRow w.heap.size 9 1 (.slice (some ⟨w.heap.size, 0, none⟩) 0 0) 0 (scells [])) := by
    have h := World.ownsRow_lit (base := w.heap.size) (e := 9) (size := 1) w #[] 0 (Nat.le_refl _) (by unfold maxLen; omega) rfl
    rw [Hid]; simpa [scells] using h
  have HBA : Hid (Below w.heap.size w (w.alloc (.cells #[] 9))) := (Below.refl _ _).alloc (Nat.le_refl _) _
  have HWE : Hid (wordsW l = (scanW l l.length).1 ++ [l.drop (scanW l l.length).2]) := rfl
  obtain ⟨WW, hWW⟩ : ∃ x, wordsW l = x := ⟨_, rfl⟩
  rw [hWW] at HWE ⊢
  clear hWW
  go_enter Try.func36, Try.ntmps36
  go_wp2
  go_loopw [3, 4, 5] (fun s f i wr => ∃ (v : Value) (k : Nat), v = s ∧ k ≤ l.length ∧ i = .int .i64 (k : Int) ∧ f = .int .i64 ((scanW l k).2 : Int) ∧ wr.ownsRow w.heap.size 9 1 v (scanW l k).1.length (scells (scanW l k).1) ∧ Below w.heap.size w wr) (fun _ _ i _ => l.length - (intOf i).toNat)
  case atStart => exact ⟨_, 0, rfl, Nat.zero_le _, rfl, rfl, HO0.out, HBA.out⟩
  case round =>
    obtain ⟨v, k, hvs, hk, rfl, rfl, hown, hbr⟩ := hrel
    subst hvs
    have HBR : Hid (Below w.heap.size w wr) := hbr
    have HSZ : Hid (w.heap.size ≤ wr.heap.size) := hbr.size
    have HLT : Hid (∀ j, v.ownBlock = some j → w.heap.size ≤ j) := fun j hj => (hown.lt j hj).1
    have hsc := scanW_le l k
    by_cases hlt : k < l.length
    · have hki : (k : Int) < (l.length : Int) := by omega
      have HY : Hid _ := @scanW_yes l k
      have HN : Hid _ := @scanW_no l k
      obtain ⟨c, hc⟩ : ∃ c, (⟨l.toArray⟩ : ByteArray)[k]'(by rw [ba_size]; exact hlt) = c := ⟨_, rfl⟩
      rw [(byte_at l k hlt).trans hc] at HY HN
      obtain ⟨R, hR⟩ : ∃ x, (scanW l k).1 = x := ⟨_, rfl⟩
      obtain ⟨f, hf⟩ : ∃ x, (scanW l k).2 = x := ⟨_, rfl⟩
      rw [hR, hf] at HY
      rw [hR] at hown hsc
      rw [hf] at hsc ⊢
      have HO : Hid (wr.ownsRow w.heap.size 9 1 v R.length (scells R)) := hown
      have HRF : Hid ((scanW l k).1 = R ∧ (scanW l k).2 = f) := ⟨hR, hf⟩
      clear hR hf hown hbr HO0 HBA
      by_cases h32 : c = 32
      · subst h32
        have hx : (⟨l.toArray⟩ : ByteArray).extract f k = ⟨((l.drop f).take (k - f)).toArray⟩ := ba_extract l f k
        have HNX : Hid (scanW l (k + 1) = (R ++ [(l.drop f).take (k - f)], k + 1)) := HY.out rfl
        obtain ⟨r, hr⟩ : ∃ x, (l.drop f).take (k - f) = x := ⟨_, rfl⟩
        rw [hr] at hx HNX
        have hfk : (f : Int) ≤ (k : Int) := by omega
        clear HY HN hr
        go_wp2_with (at_builtin; refine wpList_append_own _ rfl (.tmp 17) (.tmp 22) 30 rfl w.heap.size 9 i0 (.string ⟨#[]⟩) 1 16 Try.underlying30 hi hz0 hz1 hz2 rfl (by decide) _ _ _ rfl (HO.out.alloc _) ⟨wr.heap.size, 0, none⟩ 1 1 [.string ⟨r.toArray⟩] rfl rfl (World.news_of_block (heap_alloc_new wr _)) (one_oneS _) (by unfold maxLen; omega) (by omega) (by simp; have := HSZ.out; omega) ?_; intro v5 w5 o5 g5 _)
        have q5 : Below w.heap.size w w5 := (HBR.out.alloc (by have := HSZ.out; omega) _).grown g5 (by have := HSZ.out; simp; omega) HLT.out
        have HR5 : Hid (w5.ownsRow w.heap.size 9 1 v5 (scanW l (k + 1)).1.length (scells (scanW l (k + 1)).1)) := by
          rw [Hid, HNX.out]; simp only [List.length_append, scells_append]; exact o5
        have HF5 : Hid ((scanW l (k + 1)).2 = k + 1) := by rw [Hid, HNX.out]
        clear o5 g5 hx
        go_wp2
        go_roundw
        case rel => exact ⟨_, k + 1, rfl, by omega, by go_num, by rw [HF5.out]; go_num, HR5.out, q5⟩
        case measure => simp [intOf]; omega
      · have HNX : Hid (scanW l (k + 1) = scanW l k) := HN.out h32
        have hcb : ((c.toNat : Int) == 32) = false := by
          simp only [beq_eq_false_iff_ne, ne_eq]
          intro e
          apply h32
          apply UInt8.toNat_inj.1
          show c.toNat = 32
          omega
        have HR5 : Hid (wr.ownsRow w.heap.size 9 1 v (scanW l (k + 1)).1.length (scells (scanW l (k + 1)).1)) := by
          rw [Hid, HNX.out, HRF.out.1]; exact HO.out
        have HF5 : Hid ((scanW l (k + 1)).2 = f) := by rw [Hid, HNX.out, HRF.out.2]
        clear HY HN
        go_wp2
        go_roundw
        case rel => exact ⟨_, k + 1, rfl, by omega, by go_num, by rw [HF5.out], HR5.out, HBR.out⟩
        case measure => simp [intOf]; omega
    · have hke : k = l.length := by omega
      subst hke
      have hki : ¬ (l.length : Int) < (l.length : Int) := by omega
      obtain ⟨R, hR⟩ : ∃ x, (scanW l l.length).1 = x := ⟨_, rfl⟩
      obtain ⟨f, hf⟩ : ∃ x, (scanW l l.length).2 = x := ⟨_, rfl⟩
      rw [hR, hf] at HWE
      rw [hR] at hown hsc
      rw [hf] at hsc ⊢
      have HO : Hid (wr.ownsRow w.heap.size 9 1 v R.length (scells R)) := hown
      have hx : (⟨l.toArray⟩ : ByteArray).extract f l.length = ⟨(l.drop f).toArray⟩ := by rw [ba_extract, List.take_of_length_le (by simp)]
      obtain ⟨r, hr⟩ : ∃ x, l.drop f = x := ⟨_, rfl⟩
      rw [hr] at hx HWE
      have hfk : (f : Int) ≤ (l.length : Int) := by omega
      clear hR hf hown hbr HO0 HBA hr
      go_wp2_with (at_builtin; refine wpList_append_own _ rfl (.tmp 26) (.tmp 30) 30 rfl w.heap.size 9 i0 (.string ⟨#[]⟩) 1 16 Try.underlying30 hi hz0 hz1 hz2 rfl (by decide) _ _ _ rfl (HO.out.alloc _) ⟨wr.heap.size, 0, none⟩ 1 1 [.string ⟨r.toArray⟩] rfl rfl (World.news_of_block (heap_alloc_new wr _)) (one_oneS _) (by unfold maxLen; omega) (by omega) (by simp; have := HSZ.out; omega) ?_; intro v5 w5 o5 g5 _)
      have q5 : Below w.heap.size w w5 := (HBR.out.alloc (by have := HSZ.out; omega) _).grown g5 (by have := HSZ.out; simp; omega) HLT.out
      have HR5 : Hid (w5.ownsRow w.heap.size 9 1 v5 WW.length (scells WW)) := by
        rw [Hid, HWE.out, List.length_append, scells_append]; exact o5
      obtain ⟨a, cp, hv, -, -⟩ := txts_of_own HR5.out
      subst hv
      clear o5 g5 hx
      go_wp2
      go_ret
      exact ⟨a, cp, rfl, HR5.out, q5⟩

end Go.Proofs.Ytlonjjliochbhaa
