/- The contract of the program's own copy of a message. -/
import Derived.Test.YtggaadbcifbdeaaMsgEq
import Derived.Test.YtggaadbcifbdeaaFClone
import Derived.Test.YtggaadbcifbdeaaOver
import Derived.Test.YtggaadbcifbdeaaBox3
import Derived.Deep.RegionHeld3
namespace Go.Proofs.Ytggaadbcifbdeaa
open Go.RowKit
set_option maxRecDepth 100000

set_option maxHeartbeats 1600000 in
theorem copyMessage_any (kd : Int) (ao : Option Addr) (cap : Nat) (fs : List Fld) (w : World) (hz : FldsAt w ao fs) (hn : fs.length ≤ 4194304) (hd : ∀ f ∈ fs, f.2.length ≤ 1099511627776) :
    Calls Try.prog 18 #[.agg #[.int .i64 kd, .slice ao fs.length cap]] w fun e w' => ∃ g, e = .returned (.agg #[.int .i64 kd, .slice (some ⟨g, 0, none⟩) fs.length fs.length]) ∧
      w'.ownsRow w.heap.size 35 2 (.slice (some ⟨g, 0, none⟩) fs.length fs.length) fs.length (fcells fs) ∧ Below w.heap.size w w' := by
  obtain ⟨i0, hi, hz0, hz1, hz2⟩ := info_parts infoF
  have hm0 := cells_rep fs.length
  rw [show List.replicate fs.length ((0 : Int), ([] : List UInt8)) = halfF fs 0 from by simp [halfF]] at hm0
  have HC : Hid (∀ i, i < fs.length → ∃ b off, ao = some ⟨b, off, none⟩ ∧ b < w.heap.size ∧ w.cell? ⟨b, off + i * 2, none⟩ = some (.int .i64 (at0 fs i).1) ∧ w.cell? ⟨b, off + i * 2 + 1, none⟩ = some (.string ⟨(at0 fs i).2.toArray⟩)) := by
    rcases hz with rfl | ⟨b, off, rfl, hb, hcell⟩
    · intro i hi; simp at hi
    · exact fun i hi => ⟨b, off, rfl, hb, hcell i hi⟩
  clear hz
  go_enter Try.func18, Try.ntmps18
  go_wp2_with (refine wpList_make_full _ rfl (.tmp 8) (.tmp 8) 24 rfl (w.heap.size + 2) 35 i0 _ 2 Try.underlying24 hi hz0 hz1 .i64 .i64 _ _ fs.length rfl rfl rfl rfl (by rw [hz2]; omega) (by unfold maxLen; omega) (by simp) ?_; intro w1 hown hg; obtain ⟨x0, x1, x2, x3, f2, f3, bel, hsz⟩ := twobox ((Below.refl _ _).grown hg (Nat.le_refl _) (fun k hk => by cases hk)))
  rw [hm0] at hown
  simp only [World.size_alloc] at hown
  clear hm0 hg
  go_loopw [13] (fun i wr => ∃ k : Nat, k ≤ fs.length ∧ i = .int .i64 k ∧ wr.ownsRow (w.heap.size + 2) 35 2 (.slice (some ⟨w.heap.size + 1 + 1, 0, none⟩) fs.length fs.length) fs.length (fcells (halfF fs k)) ∧ Below (w.heap.size + 2) w1 wr) (fun i _ => fs.length - (intOf i).toNat)
  case atStart => exact ⟨0, Nat.zero_le _, rfl, hown, Below.refl _ _⟩
  case round =>
    obtain ⟨k, hk, rfl, ho, hbr⟩ := hrel
    clear hown
    by_cases hlt : k < fs.length
    · obtain ⟨b, off, rfl, hb, e1, e2⟩ := HC.out k hlt
      have hb2 := (bel.trans (hbr.mono (by omega)))
      have c1 : wr.cell? ⟨b, off + k * 2, none⟩ = some (.int .i64 (at0 fs k).1) := (hb2.cell (p := ⟨b, off + k * 2, none⟩) hb).trans e1
      have c2 : wr.cell? ⟨b, off + k * 2 + 1, none⟩ = some (.string ⟨(at0 fs k).2.toArray⟩) := (hb2.cell (p := ⟨b, off + k * 2 + 1, none⟩) hb).trans e2
      have hki : (k : Int) < (fs.length : Int) := by omega
      have hdk := hd _ (at0_mem hlt)
      have HS : Hid _ := halfF_succ fs k hlt
      have HT : Hid _ := fcells_set (halfF fs k) (at0 fs k) k (by rw [halfF_len fs k hk]; exact hlt)
      obtain ⟨⟨n, s⟩, hf⟩ : ∃ f, at0 fs k = f := ⟨_, rfl⟩
      rw [hf] at c1 c2 HS HT hdk
      simp only at c1 c2 HT hdk
      have HO : Hid (wr.ownsRow (w.heap.size + 2) 35 2 (.slice (some ⟨w.heap.size + 1 + 1, 0, none⟩) fs.length fs.length) fs.length (fcells (halfF fs k))) := ho
      have HA : Hid _ := halfF_at fs k hlt
      have HB : Hid _ := hb2
      clear hf ho hb2 e1 e2
      have hat := fcells_at (halfF fs k) k (by rw [halfF_len fs k hk]; exact hlt)
      rw [HA.out] at hat
      have c3 : wr.cell? ⟨w.heap.size + 1 + 1, k * 2, none⟩ = some (.int .i64 0) := by rw [HO.out.cellAt (k * 2) (by omega)]; exact hat.1
      have hws : w.heap.size + 1 + 1 < wr.heap.size := World.block_lt_of_cell? wr _ c3
      have belW : Below wr.heap.size wr (wr.alloc (.cells #[.int .i64 n, .string ⟨s.toArray⟩] 35)) := by go_grown
      have oW := keepRow HO.out belW
      have v0 : (wr.alloc (.cells #[.int .i64 n, .string ⟨s.toArray⟩] 35)).cell? ⟨wr.heap.size, 0, none⟩ = some (.int .i64 n) := by simp
      have v1 : (wr.alloc (.cells #[.int .i64 n, .string ⟨s.toArray⟩] 35)).cell? ⟨wr.heap.size, 1, none⟩ = some (.string ⟨s.toArray⟩) := by simp
      have v2 : (wr.alloc (.cells #[.int .i64 n, .string ⟨s.toArray⟩] 35)).cell? ⟨w.heap.size + 1 + 1, k * 2, none⟩ = some (.int .i64 0) := by rw [oW.cellAt (k * 2) (by omega)]; exact hat.1
      have v3 : (wr.alloc (.cells #[.int .i64 n, .string ⟨s.toArray⟩] 35)).cell? ⟨w.heap.size + 1 + 1, k * 2 + 1, none⟩ = some (.string ⟨#[]⟩) := by rw [oW.cellAt (k * 2 + 1) (by omega)]; exact hat.2
      have v4 : (wr.alloc (.cells #[.int .i64 n, .string ⟨s.toArray⟩] 35)).frozen? ⟨w.heap.size + 1 + 1, k * 2, none⟩ = false := oW.frozenAt _
      have v5 : (wr.alloc (.cells #[.int .i64 n, .string ⟨s.toArray⟩] 35)).frozen? ⟨w.heap.size + 1 + 1, k * 2 + 1, none⟩ = false := oW.frozenAt _
      have HV : Hid _ := And.intro v0 (And.intro v1 (And.intro v2 (And.intro v3 (And.intro v4 v5))))
      have HO2 : Hid _ := And.intro oW belW
      clear hat x0 x1 x2 x3 f2 f3 bel hsz hi hz0 hz1 hz2 c3 oW v0 v1 v2 v3 v4 v5 belW HO HA
      go_wp2
      clear c1 c2
      generalize wr.alloc (.cells #[.int .i64 n, .string ⟨s.toArray⟩] 35) = W at HV HO2 ⊢
      obtain ⟨v0, v1, v2, v3, v4, v5⟩ := HV.out
      have hl0 : wr.heap.size < W.heap.size := World.block_lt_of_cell? W _ v0
      have hl1 : w.heap.size + 1 + 1 < W.heap.size := World.block_lt_of_cell? W _ v2
      clear HV
      have hneq : ¬ wr.heap.size = w.heap.size + 1 + 1 := by omega
      have hneq2 : ¬ w.heap.size + 1 + 1 = wr.heap.size := by omega
      go_region_held3 (fun w' => w'.cell? ⟨wr.heap.size, 0, none⟩ = some (.int .i64 n) ∧ w'.cell? ⟨wr.heap.size, 1, none⟩ = some (.string ⟨s.toArray⟩)) (first | exact ⟨v0, v1⟩ | exact ⟨s0, s1⟩ | (simp [*, go_sem]; done)) ((refine (clone_any s _ hdk).mono ?_; rintro e w2 ⟨rfl, b2⟩; have s0 := (b2.cell (p := ⟨wr.heap.size, 0, none⟩) hl0).trans v0; have s1 := (b2.cell (p := ⟨wr.heap.size, 1, none⟩) hl0).trans v1; have s2 := (b2.cell (p := ⟨w.heap.size + 1 + 1, k * 2, none⟩) hl1).trans v2; have s3 := (b2.cell (p := ⟨w.heap.size + 1 + 1, k * 2 + 1, none⟩) hl1).trans v3; have s4 := (b2.frozen (p := ⟨w.heap.size + 1 + 1, k * 2, none⟩) hl1).trans v4; have s5 := (b2.frozen (p := ⟨w.heap.size + 1 + 1, k * 2 + 1, none⟩) hl1).trans v5))
      have HR : Hid (((w2.setCell ⟨w.heap.size + 1 + 1, k * 2, none⟩ (.int .i64 n)).setCell ⟨w.heap.size + 1 + 1, k * 2 + 1, none⟩ (.string ⟨s.toArray⟩)).ownsRow (w.heap.size + 2) 35 2 (.slice (some ⟨w.heap.size + 1 + 1, 0, none⟩) fs.length fs.length) fs.length (fcells (halfF fs (k + 1)))) := by
        have o2 := keepRow HO2.out.1 (((Below.refl _ _).drew).trans b2)
        have R := ((o2.stored (k * 2) (.int .i64 n)).1.stored (k * 2 + 1) (.string ⟨s.toArray⟩)).1
        rw [HT.out, HS.out] at R
        exact R
      have HBB : Hid (Below (w.heap.size + 2) w1 ((w2.setCell ⟨w.heap.size + 1 + 1, k * 2, none⟩ (.int .i64 n)).setCell ⟨w.heap.size + 1 + 1, k * 2 + 1, none⟩ (.string ⟨s.toArray⟩))) := by
        have hW : Below (w.heap.size + 2) w1 W := hbr.trans (HO2.out.2.mono (by omega))
        have hw2 : Below (w.heap.size + 2) w1 w2 := hW.trans ((((Below.refl _ _).drew).trans b2).mono (by show w.heap.size + 2 ≤ W.heap.size; omega))
        exact (hw2.setCell (by show w.heap.size + 2 ≤ w.heap.size + 1 + 1; omega) _).setCell (by show w.heap.size + 2 ≤ w.heap.size + 1 + 1; omega) _
      clear s0 s1 s2 s3 s4 s5 v0 v1 v2 v3 v4 v5 HO2 HT HS b2
      go_wp2
      go_roundw
      case rel => exact ⟨k + 1, by omega, by go_num, HR.out, HBB.out⟩
      case measure => simp [intOf]; omega
    · have hke : k = fs.length := by omega
      subst hke
      rw [halfF_all] at ho
      have y0 := (hbr.cell (p := ⟨w.heap.size, 0, none⟩) (by show w.heap.size < w.heap.size + 2; omega)).trans x0
      have y2 := (hbr.cell (p := ⟨w.heap.size + 1, 0, none⟩) (by show w.heap.size + 1 < w.heap.size + 2; omega)).trans x2
      have y3 := (hbr.cell (p := ⟨w.heap.size + 1, 1, none⟩) (by show w.heap.size + 1 < w.heap.size + 2; omega)).trans x3
      have z2 := (hbr.frozen (p := ⟨w.heap.size + 1, 0, none⟩) (by show w.heap.size + 1 < w.heap.size + 2; omega)).trans f2
      have z3 := (hbr.frozen (p := ⟨w.heap.size + 1, 1, none⟩) (by show w.heap.size + 1 < w.heap.size + 2; omega)).trans f3
      have HO : Hid _ := ho
      have HB : Hid _ := bel.trans (hbr.mono (by omega))
      clear x0 x1 x2 x3 f2 f3 ho bel hbr
      go_wp2
      refine bodyPost_ret (by simp [results, Try.results18, go_sem, y2, y3]; try rfl) rfl ?_
      refine ⟨w.heap.size + 1 + 1, rfl, ?_, (HB.out.setCell (by show w.heap.size ≤ w.heap.size + 1; omega) _).setCell (by show w.heap.size ≤ w.heap.size + 1; omega) _⟩
      have hne : ∀ (g : Nat), (Value.slice (some ⟨w.heap.size + 1 + 1, 0, none⟩) fs.length fs.length).ownBlock = some g → g ≠ w.heap.size + 1 := by
        intro g h
        simp [Value.ownBlock] at h
        omega
      exact lowerRow (keepSet (keepSet HO.out _ _ hne) _ _ hne) (by omega)

end Go.Proofs.Ytggaadbcifbdeaa
