/- The contracts of the program's small functions over records: their lengths as bytes, the records laid one behind the other. -/
import Derived.Test.YtbncdhfmhokgeaaFRow
import Derived.Test.YtbncdhfmhokgeaaTxts
import Derived.Lib.AppendStr
import Derived.Handy
namespace Go.Proofs.Ytbncdhfmhokgeaa
open Go.RowKit
set_option maxRecDepth 100000

theorem be4_cells (n : Nat) (h : n ≤ 1000000) : [Value.int .u8 ((n : Int) / 16777216), .int .u8 ((n : Int) / 65536), .int .u8 ((n : Int) / 256 % 256), .int .u8 ((n : Int) % 256)] = (be4 n).map cell := by
  have a : (n : Int) / 16777216 = ((n / 16777216 % 256 : Nat) : Int) := by omega
  have b : (n : Int) / 65536 = ((n / 65536 % 256 : Nat) : Int) := by omega
  have c : (n : Int) / 256 % 256 = ((n / 256 % 256 : Nat) : Int) := by omega
  have d : (n : Int) % 256 = ((n % 256 : Nat) : Int) := by omega
  rw [a, b, c, d]
  simp [be4, cell, UInt8.toNat_ofNat']
theorem map_cell_one (l : List UInt8) : ∀ u ∈ l.map cell, u.oneCell' = true := by
  intro u hu
  simp only [List.mem_map] at hu
  obtain ⟨c, _, rfl⟩ := hu
  rfl
theorem strCells_is (l : List UInt8) : Lib.strCells ⟨l.toArray⟩ = l.map cell := rfl
theorem news4 (w : World) (a b c d : Value) (t : TypeId) : ∀ (j : Nat) (u : Value), [a, b, c, d][j]? = some u → (w.alloc (.cells #[a, b, c, d] t)).cell? ((⟨w.heap.size, 0, none⟩ : Addr).add j) = some u := by
  intro j u h
  match j with
  | 0 => simp at h; subst h; simp [Addr.add, go_sem]
  | 1 => simp at h; subst h; simp [Addr.add, go_sem]
  | 2 => simp at h; subst h; simp [Addr.add, go_sem]
  | 3 => simp at h; subst h; simp [Addr.add, go_sem]
  | j + 4 => simp at h
theorem one4 (a b c d : Int) : ∀ u ∈ [Value.int .u8 a, .int .u8 b, .int .u8 c, .int .u8 d], u.oneCell' = true := by
  intro u hu
  simp at hu
  rcases hu with rfl | rfl | rfl | rfl <;> rfl

set_option maxRecDepth 100000 in
set_option maxHeartbeats 800000 in
theorem layLength_any (base n : Nat) (v : Value) (m : Nat) (l : List UInt8) (w : World) (ho : w.ownsRow base 5 1 v m (l.map cell)) (hb : base ≤ w.heap.size) (hm : m ≤ 10000000) (hn : n ≤ 1000000) :
    Calls Try.prog 36 #[v, .int .i64 n] w fun e w' => ∃ v', e = .returned v' ∧ w'.ownsRow base 5 1 v' (m + 4) ((l ++ be4 n).map cell) ∧ w.grownBy w' v.ownBlock := by
  obtain ⟨i0, hi, hz0, hz1, hz2⟩ := info_parts info5
  have HE : Hid _ := be4_cells n hn
  have HO : Hid (w.ownsRow base 5 1 v m (l.map cell)) := ho
  clear ho
  go_enter Try.func36, Try.ntmps36
  go_wp2_with (at_builtin; refine wpList_append_own _ rfl (.tmp 5) (.tmp 17) 22 rfl base 5 i0 (.int .u8 0) 1 1 Try.underlying22 hi hz0 hz1 hz2 rfl (by decide) v m _ rfl (HO.out.alloc _) ⟨w.heap.size, 0, none⟩ 4 4 [.int .u8 ((n : Int) / 16777216), .int .u8 ((n : Int) / 65536), .int .u8 ((n : Int) / 256 % 256), .int .u8 ((n : Int) % 256)] rfl rfl (news4 _ _ _ _ _ _) (one4 _ _ _ _) (by unfold maxLen; omega) (by omega) (by simp; omega) ?_; intro v' w4 ho4 hg4 _)
  have HR : Hid (w4.ownsRow base 5 1 v' (m + 4) ((l ++ be4 n).map cell)) := by rw [Hid, List.map_append, ← HE.out]; exact ho4
  have HG : Hid (w.grownBy w4 v.ownBlock) := (World.grownBy_alloc w _ _).trans hg4
  clear ho4 hg4
  go_wp2
  go_ret
  exact ⟨v', rfl, HR.out, HG.out⟩

set_option maxHeartbeats 400000 in
theorem recordOk_any (r : List UInt8) (w : World) (hr : r.length ≤ 9223372036854775807) :
    Calls Try.prog 21 #[.string ⟨r.toArray⟩] w fun e w' => e = .returned (.bool (recOk r)) ∧ w' = w := by
  by_cases h0 : (0 : Int) < (r.length : Int)
  · by_cases h1 : (r.length : Int) ≤ 3000
    · have HE : Hid (recOk r = true) := by simp [Hid, recOk]; omega
      go_enter Try.func21, Try.ntmps21
      go_wp2
      go_ret
      exact ⟨one_bool (by rw [HE.out]), rfl⟩
    · have HE : Hid (recOk r = false) := by simp [Hid, recOk]; omega
      go_enter Try.func21, Try.ntmps21
      go_wp2
      go_ret
      exact ⟨one_bool (by rw [HE.out]), rfl⟩
  · have HE : Hid (recOk r = false) := by simp [Hid, recOk]; omega
    go_enter Try.func21, Try.ntmps21
    go_wp2
    go_ret
    exact ⟨one_bool (by rw [HE.out]), rfl⟩

set_option maxHeartbeats 400000 in
theorem blocksFor_any (n : Nat) (w : World) (hn : n ≤ 10000000) :
    Calls Try.prog 23 #[.int .i64 n] w fun e w' => e = .returned (.int .i64 (nBlk n : Nat)) ∧ w' = w := by
  have HE : Hid (((n : Int) + 1012 - 1) / 1012 = ((nBlk n : Nat) : Int)) := by unfold nBlk; rw [Hid]; omega
  go_enter Try.func23, Try.ntmps23
  go_wp2
  go_ret
  exact ⟨one_int HE.out, rfl⟩

/-- what laying records hands back -/
def LaidR (w : World) (l : List UInt8) (e : Ending) (w' : World) : Prop :=
  ∃ g c, e = .returned (.slice (some ⟨g, 0, none⟩) l.length c) ∧ w'.ownsRow w.heap.size 5 1 (.slice (some ⟨g, 0, none⟩) l.length c) l.length (l.map cell) ∧ Below w.heap.size w w'
theorem laidR_of {w w' : World} {v : Value} {n : Nat} {l : List UInt8} (h : w'.ownsRow w.heap.size 5 1 v n (l.map cell)) (h0 : 0 < l.length) (hb : Below w.heap.size w w') : LaidR w l (.returned v) w' := by
  have hn : l.length = n := by simpa using h.1
  subst hn
  rcases h.2 with ⟨_, h1⟩ | ⟨g, c, cur, rfl, _⟩
  · omega
  · exact ⟨g, c, rfl, h, hb⟩

set_option maxRecDepth 100000 in
set_option maxHeartbeats 1600000 in
theorem layRecords_any (ao : Option Addr) (cap : Nat) (rs : Recs) (w : World) (hz : TxtsAt w ao rs) (hn : rs.length ≤ 200) (hd : ∀ r ∈ rs, r.length ≤ 3000) :
    Calls Try.prog 22 #[.slice ao rs.length cap] w (LaidR w (laid rs)) := by
  obtain ⟨i0, hi, hz0, hz1, hz2⟩ := info_parts info5
  have HLL : Hid (0 < (laid rs).length) := by rw [Hid, laid_len]; omega
  rcases hz with rfl | ⟨b, off, rfl, hb, hcell⟩
  · go_enter Try.func22, Try.ntmps22
    go_wp2
    refine wp_loop_rounds 1 ?_
    rw [rounds_succ]
    go_wp2_with fail
    refine (layLength_any w.heap.size 0 (.slice none 0 0) 0 [] _ (World.ownsRow_nil _ _ _ _) (Nat.le_refl _) (by omega) (by omega)).mono ?_
    rintro e w2 ⟨v2, rfl, o2, g2⟩
    have q2 : Below w.heap.size w w2 := (Below.refl _ _).grown g2 (Nat.le_refl _) (fun k hk => by cases hk)
    have HR : Hid (LaidR w (laid []) (.returned v2) w2) := laidR_of (n := 0 + 4) (by simpa [laid, layR] using o2) HLL.out q2
    clear o2 g2
    go_wp2
    go_ret
    exact HR.out
  have HC : Hid (∀ i, i < rs.length → w.cell? ⟨b, off + i, none⟩ = some (.string ⟨(nth rs i).toArray⟩)) := hcell
  have HBD : Hid (∀ k, (layR (rs.take k)).length ≤ 600800) := by
    intro k
    have h1 := layR_bd (rs := rs.take k) (fun r hr => hd r (List.mem_of_mem_take hr))
    have h2 : (rs.take k).length ≤ 200 := by rw [List.length_take]; omega
    omega
  have HD : Hid (∀ r ∈ rs, r.length ≤ 3000) := hd
  clear hcell hd
  go_enter Try.func22, Try.ntmps22
  go_wp2
  go_loopw [3, 8] (fun s i wr => ∃ (v : Value) (k : Nat), v = s ∧ k ≤ rs.length ∧ i = .int .i64 k ∧ wr.ownsRow w.heap.size 5 1 v (layR (rs.take k)).length ((layR (rs.take k)).map cell) ∧ Below w.heap.size w wr) (fun _ i _ => rs.length - (intOf i).toNat)
  case atStart => exact ⟨_, 0, rfl, Nat.zero_le _, rfl, World.ownsRow_nil _ _ _ _, Below.refl _ _⟩
  case round =>
    obtain ⟨v, k, hvs, hk, rfl, ho, hbr⟩ := hrel
    subst hvs
    have hbd := HBD.out k
    have hbs := hbr.size
    by_cases hlt : k < rs.length
    · have c1 : wr.cell? ⟨b, off + k, none⟩ = some (.string ⟨(nth rs k).toArray⟩) := (hbr.cell (p := ⟨b, off + k, none⟩) hb).trans (HC.out k hlt)
      have hki : (k : Int) < (rs.length : Int) := by omega
      have hrl := HD.out _ (nth_mem hlt)
      have hst := layR_step rs k hlt
      obtain ⟨r, hr⟩ : ∃ r, nth rs k = r := ⟨_, rfl⟩
      rw [hr] at c1 hrl hst
      obtain ⟨L, hL⟩ : ∃ L, layR (rs.take k) = L := ⟨_, rfl⟩
      rw [hL] at ho hbd hst
      have HST : Hid _ := hst
      have HO : Hid (wr.ownsRow w.heap.size 5 1 v L.length (L.map cell)) := ho
      have HLT : Hid (∀ j, v.ownBlock = some j → w.heap.size ≤ j) := fun j hj => (ho.lt j hj).1
      clear hr hL hst ho
      go_wp2_with fail
      refine (layLength_any w.heap.size r.length v L.length L _ HO.out hbs (by omega) (by omega)).mono ?_
      rintro e w2 ⟨v2, rfl, o2, g2⟩
      have q2 : Below w.heap.size w w2 := hbr.grown g2 hbs HLT.out
      have hs2 := q2.size
      have HLT2 : Hid (∀ j, v2.ownBlock = some j → w.heap.size ≤ j) := fun j hj => (o2.lt j hj).1
      have HO2 : Hid (w2.ownsRow w.heap.size 5 1 v2 (L.length + 4) ((L ++ be4 r.length).map cell)) := o2
      clear o2 g2 HO hbr
      go_wp2_with (at_builtin; refine Lib.wpList_append_own_string _ rfl (.tmp 15) (.tmp 16) 22 9 rfl w.heap.size 5 i0 Try.underlying22 Try.underlying9 hi hz0 hz1 hz2 v2 (L.length + 4) _ rfl HO2.out ⟨r.toArray⟩ rfl (by rw [ba_size]; unfold maxLen; omega) (by rw [ba_size]; omega) hs2 ?_; intro v4 w4 o4 g4 _)
      have q4 : Below w.heap.size w w4 := q2.grown g4 hs2 HLT2.out
      have HR : Hid (w4.ownsRow w.heap.size 5 1 v4 (layR (rs.take (k + 1))).length ((layR (rs.take (k + 1))).map cell)) := by
        rw [HST.out]
        rw [strCells_is, ← List.map_append, ba_size] at o4
        rw [← List.append_assoc, List.length_append, List.length_append, be4_len]
        exact o4
      clear o4 g4 HO2
      go_wp2
      go_roundw
      case rel => exact ⟨_, k + 1, rfl, by omega, by go_num, HR.out, q4⟩
      case measure => simp [intOf]; omega
    · have hke : k = rs.length := by omega
      subst hke
      rw [List.take_length] at ho hbd
      have HO : Hid (wr.ownsRow w.heap.size 5 1 v (layR rs).length ((layR rs).map cell)) := ho
      have HLT : Hid (∀ j, v.ownBlock = some j → w.heap.size ≤ j) := fun j hj => (ho.lt j hj).1
      clear ho
      go_wp2_with fail
      refine (layLength_any w.heap.size 0 v (layR rs).length (layR rs) _ HO.out hbs (by omega) (by omega)).mono ?_
      rintro e w2 ⟨v2, rfl, o2, g2⟩
      have q2 : Below w.heap.size w w2 := hbr.grown g2 hbs HLT.out
      have HR : Hid (LaidR w (laid rs) (.returned v2) w2) := laidR_of (n := (layR rs).length + 4) o2 HLL.out q2
      clear o2 g2
      go_wp2
      go_ret
      exact HR.out

end Go.Proofs.Ytbncdhfmhokgeaa
