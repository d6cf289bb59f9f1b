/- The contracts of the functions that lay a message's parts: its fields' numbers; a field's bytes, the program's. -/
import Derived.Test.YtopgcfgomappjaaDoorMsgOwn
import Derived.Test.YtopgcfgomappjaaDoorInts
import Derived.Test.YtopgcfgomappjaaDoorPackP
namespace Go.Proofs.YtopgcfgomappjaaDoor
open Go.RowKit

theorem numsF_len (fs : List Fld) : (numsF fs).length = fs.length := by simp [numsF]
theorem numsF_at (fs : List Fld) (k : Nat) (h : k < fs.length) : (numsF fs).getD k 0 = (at0 fs k).1 := by
  simp [numsF, at0, List.getD_eq_getElem?_getD, h]

set_option maxRecDepth 100000 in
set_option maxHeartbeats 800000 in
theorem numsOf_any (ao : Option Addr) (cap : Nat) (fs : List Fld) (w : World) (hz : FldsAt w ao fs) (hn : fs.length ≤ 1048576) :
    Calls Tryd.prog 24 #[.slice ao fs.length cap] w fun e w' => e = .returned (.slice (some ⟨w.heap.size, 0, none⟩) fs.length fs.length) ∧
      w'.ownsRow w.heap.size 3 1 (.slice (some ⟨w.heap.size, 0, none⟩) fs.length fs.length) fs.length ((numsF fs).map (Value.int .i64)) ∧ Below w.heap.size w w' := by
  obtain ⟨i0, hi, hz0, hz1, hz2⟩ := info_parts info3
  have hnl := numsF_len fs
  have hm0 : (madeCells (Value.int .i64 0).cells (fs.length * 1)).toList = half (numsF fs) 0 := by
    rw [half_zero, Nat.mul_one, hnl]; exact toList_madeCells_one _ _
  have HC : Hid (∀ i, i < fs.length → ∃ b off, ao = some ⟨b, off, none⟩ ∧ b < w.heap.size ∧ w.cell? ⟨b, off + i * 2, none⟩ = some (.int .i64 (at0 fs i).1) ∧ w.cell? ⟨b, off + i * 2 + 1, none⟩ = some (.string ⟨(at0 fs i).2.toArray⟩)) := by
    rcases hz with rfl | ⟨b, off, rfl, hb, hcell⟩
    · intro i hi; simp at hi
    · exact fun i hi => ⟨b, off, rfl, hb, hcell i hi⟩
  clear hz
  go_enter Tryd.func24, Tryd.ntmps24
  go_wp2_with (refine wpList_make_full _ rfl (.tmp 7) (.tmp 7) 41 rfl w.heap.size 3 i0 (.int .i64 0) 1 Tryd.underlying41 hi hz0 hz1 .i64 .i64 _ _ fs.length rfl rfl rfl rfl (by rw [hz2]; omega) (by unfold maxLen; omega) (Nat.le_refl _) ?_; intro w1 hown hg)
  rw [hm0] at hown
  have hb1 : Below w.heap.size w w1 := (Below.refl _ _).grown hg (Nat.le_refl _) (fun k hk => by cases hk)
  have HNL : Hid _ := hnl
  clear hm0 hg hnl
  go_loopw [11] (fun i wr => ∃ k : Nat, k ≤ fs.length ∧ i = .int .i64 k ∧ wr.ownsRow w.heap.size 3 1 (.slice (some ⟨w.heap.size, 0, none⟩) fs.length fs.length) fs.length (half (numsF fs) k) ∧ Below w.heap.size w wr) (fun i _ => fs.length - (intOf i).toNat)
  case atStart => exact ⟨0, Nat.zero_le _, rfl, hown, hb1⟩
  case round =>
    obtain ⟨k, hk, rfl, ho, hbr⟩ := hrel
    clear hown hb1
    by_cases hlt : k < fs.length
    · obtain ⟨b, off, rfl, hb, d1, d2⟩ := HC.out k hlt
      have c1 : wr.cell? ⟨b, off + k * 2, none⟩ = some (.int .i64 (at0 fs k).1) := (hbr.cell (p := ⟨b, off + k * 2, none⟩) hb).trans d1
      have c2 : wr.cell? ⟨b, off + k * 2 + 1, none⟩ = some (.string ⟨(at0 fs k).2.toArray⟩) := (hbr.cell (p := ⟨b, off + k * 2 + 1, none⟩) hb).trans d2
      have hki : (k : Int) < (fs.length : Int) := by omega
      have hlt' : k < (numsF fs).length := by rw [HNL.out]; exact hlt
      have c3 : wr.cell? ⟨w.heap.size, k, none⟩ = some (.int .i64 0) := by rw [ho.cellAt k (by omega), half_at _ k hlt']
      have c4 : wr.frozen? ⟨w.heap.size, k, none⟩ = false := ho.frozenAt k
      have hws : w.heap.size < wr.heap.size := World.block_lt_of_cell? wr _ c3
      have hna := numsF_at fs k hlt
      obtain ⟨⟨n, s⟩, hf⟩ : ∃ f, at0 fs k = f := ⟨_, rfl⟩
      rw [hf] at c1 c2 hna
      simp only at c1 c2 hna
      have HR : Hid (((wr.setCell ⟨w.heap.size, k, none⟩ (.int .i64 n)).alloc (.cells #[.int .i64 n, .string ⟨s.toArray⟩] 43)).ownsRow w.heap.size 3 1 (.slice (some ⟨w.heap.size, 0, none⟩) fs.length fs.length) fs.length (half (numsF fs) (k + 1))) := by
        have R := ((ho.stored k (.int .i64 n)).1).alloc (.cells #[.int .i64 n, .string ⟨s.toArray⟩] 43)
        rw [half_succ _ k hlt', hna]
        exact R
      have HBB : Hid (Below w.heap.size w ((wr.setCell ⟨w.heap.size, k, none⟩ (.int .i64 n)).alloc (.cells #[.int .i64 n, .string ⟨s.toArray⟩] 43))) := (hbr.setCell (Nat.le_refl _) _).alloc (by simp; exact hbr.size) _
      have hne1 : ¬ wr.heap.size = w.heap.size := by omega
      have hne2 : ¬ w.heap.size = wr.heap.size := by omega
      clear hf hna ho d1 d2
      go_wp2
      go_roundw
      case rel => exact ⟨k + 1, by omega, by go_num, HR.out, HBB.out⟩
      case measure => simp [intOf]; omega
    · have hke : k = fs.length := by omega
      subst hke
      rw [show half (numsF fs) fs.length = (numsF fs).map (Value.int .i64) from by rw [← HNL.out]; exact half_all _] at ho
      go_wp2
      go_ret
      exact ⟨rfl, ho, hbr⟩

end Go.Proofs.YtopgcfgomappjaaDoor
