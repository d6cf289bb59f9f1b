/- The contract of the program's own copy of a list of authorizations. -/
import Derived.Test.YtpjfigjgamlcdaaAuLaw
import Derived.Test.YtpjfigjgamlcdaaAuBox
import Derived.Test.YtpjfigjgamlcdaaFClone
import Derived.Deep.DeepCutAuto
namespace Go.Proofs.Ytpjfigjgamlcdaa
open Go.RowKit
set_option maxRecDepth 100000

set_option maxHeartbeats 3200000 in
theorem copyAuths_any (ao : Option Addr) (cap : Nat) (az : List Au) (w : World) (hz : AuthsAt w ao az) (hn : az.length ≤ 4194304) (hd : ∀ a ∈ az, a.ref.length ≤ 1099511627776) :
    Calls Try.prog 43 #[.slice ao az.length cap] w fun e w' => e = .returned (.slice (some ⟨w.heap.size, 0, none⟩) az.length az.length) ∧
      w'.ownsRow w.heap.size 30 6 (.slice (some ⟨w.heap.size, 0, none⟩) az.length az.length) az.length (acells az) ∧ Below w.heap.size w w' := by
  obtain ⟨i0, hi, hz0, hz1, hz2⟩ := info_parts infoA
  have hm0 := cells_repA az.length
  rcases hz with rfl | ⟨b, off, rfl, hb, hcell⟩
  · go_enter Try.func43, Try.ntmps43
    go_wp2_with (refine wpList_make_full _ rfl (.tmp 7) (.tmp 7) 67 rfl w.heap.size 30 i0 _ 6 Try.underlying67 hi hz0 hz1 .i64 .i64 _ _ 0 rfl rfl rfl rfl (by rw [hz2]; omega) (by unfold maxLen; omega) (Nat.le_refl _) ?_; intro w1 hown hg)
    refine wp_loop_rounds 1 ?_
    rw [rounds_succ]
    go_wp2
    go_ret
    exact ⟨rfl, by simpa [madeCells, acells] using hown, (Below.refl _ _).grown hg (Nat.le_refl _) (fun k hk => by cases hk)⟩
  rw [← halfA_zero az] at hm0
  have HC : Hid (∀ i, i < az.length → w.cell? ⟨b, off + i * 6, none⟩ = some (.string ⟨(auAt az i).ref.toArray⟩) ∧ w.cell? ⟨b, off + i * 6 + 1, none⟩ = some (.int .i64 (auAt az i).iss) ∧ w.cell? ⟨b, off + i * 6 + 2, none⟩ = some (.int .i64 (auAt az i).cur) ∧ w.cell? ⟨b, off + i * 6 + 3, none⟩ = some (.int .i64 (auAt az i).am) ∧ w.cell? ⟨b, off + i * 6 + 4, none⟩ = some (.int .i64 (auAt az i).day) ∧ w.cell? ⟨b, off + i * 6 + 5, none⟩ = some (.bool (auAt az i).used)) := hcell
  clear hcell
  go_enter Try.func43, Try.ntmps43
  go_wp2_with (refine wpList_make_full _ rfl (.tmp 7) (.tmp 7) 67 rfl w.heap.size 30 i0 _ 6 Try.underlying67 hi hz0 hz1 .i64 .i64 _ _ az.length rfl rfl rfl rfl (by rw [hz2]; omega) (by unfold maxLen; omega) (Nat.le_refl _) ?_; intro w1 hown hg)
  rw [hm0] at hown
  have hb1 : Below w.heap.size w w1 := (Below.refl _ _).grown hg (Nat.le_refl _) (fun k hk => by cases hk)
  clear hm0 hg
  go_loopw [4, 5, 11] (fun _ _ i wr => ∃ k : Nat, k ≤ az.length ∧ i = .int .i64 k ∧ wr.ownsRow w.heap.size 30 6 (.slice (some ⟨w.heap.size, 0, none⟩) az.length az.length) az.length (acells (halfA az k)) ∧ Below w.heap.size w wr) (fun _ _ i _ => az.length - (intOf i).toNat)
  case atStart => exact ⟨0, Nat.zero_le _, rfl, hown, hb1⟩
  case round =>
    obtain ⟨k, hk, rfl, ho, hbr⟩ := hrel
    clear hown hb1
    by_cases hlt : k < az.length
    · have x0 : wr.cell? ⟨b, off + k * 6, none⟩ = some (.string ⟨(auAt az k).ref.toArray⟩) := (hbr.cell (p := ⟨b, off + k * 6, none⟩) hb).trans (HC.out k hlt).1
      have x1 : wr.cell? ⟨b, off + k * 6 + 1, none⟩ = some (.int .i64 (auAt az k).iss) := (hbr.cell (p := ⟨b, off + k * 6 + 1, none⟩) hb).trans (HC.out k hlt).2.1
      have x2 : wr.cell? ⟨b, off + k * 6 + 2, none⟩ = some (.int .i64 (auAt az k).cur) := (hbr.cell (p := ⟨b, off + k * 6 + 2, none⟩) hb).trans (HC.out k hlt).2.2.1
      have x3 : wr.cell? ⟨b, off + k * 6 + 3, none⟩ = some (.int .i64 (auAt az k).am) := (hbr.cell (p := ⟨b, off + k * 6 + 3, none⟩) hb).trans (HC.out k hlt).2.2.2.1
      have x4 : wr.cell? ⟨b, off + k * 6 + 4, none⟩ = some (.int .i64 (auAt az k).day) := (hbr.cell (p := ⟨b, off + k * 6 + 4, none⟩) hb).trans (HC.out k hlt).2.2.2.2.1
      have x5 : wr.cell? ⟨b, off + k * 6 + 5, none⟩ = some (.bool (auAt az k).used) := (hbr.cell (p := ⟨b, off + k * 6 + 5, none⟩) hb).trans (HC.out k hlt).2.2.2.2.2
      have hki : (k : Int) < (az.length : Int) := by omega
      have hdk := hd _ (auAt_mem hlt)
      have HS : Hid _ := halfA_succ az k hlt
      have HT : Hid _ := acells_set (halfA az k) (auAt az k) k (by rw [halfA_len az k hk]; exact hlt)
      have HFL : Hid (k < (halfA az k).length) := by rw [Hid, halfA_len az k hk]; exact hlt
      have HFL2 : Hid (k < (halfA az (k + 1)).length) := by rw [Hid, halfA_len az (k + 1) hlt]; exact hlt
      have HAT : Hid (auAt (halfA az (k + 1)) k = auAt az k) := by
        rw [Hid, ← halfA_succ az k hlt, auAt_is (by rw [List.length_set]; exact HFL.out), List.getElem_set_self]
      obtain ⟨⟨r, i, c, m, d, u⟩, hf⟩ : ∃ f, auAt az k = f := ⟨_, rfl⟩
      rw [hf] at x0 x1 x2 x3 x4 x5 HS HT hdk HAT
      simp only at x0 x1 x2 x3 x4 x5 HT hdk
      have HO : Hid (wr.ownsRow w.heap.size 30 6 (.slice (some ⟨w.heap.size, 0, none⟩) az.length az.length) az.length (acells (halfA az k))) := ho
      have HA : Hid _ := halfA_at az k hlt
      have HBR : Hid (Below w.heap.size w wr) := hbr
      have hws : w.heap.size < wr.heap.size := (ho.lt _ rfl).2
      clear hf ho hbr
      go_upto_region 5 with fail
      clear x0 x1 x2 x3 x4 x5
      obtain ⟨W, hW⟩ : ∃ W, wr.alloc (.cells #[.string ⟨r.toArray⟩, .int .i64 i, .int .i64 c, .int .i64 m, .int .i64 d, .bool u] 30) = W := ⟨_, rfl⟩
      have bW : Below wr.heap.size wr W := hW ▸ (Below.refl _ _).alloc (Nat.le_refl _) _
      have BX : AuB wr.heap.size ⟨r, i, c, m, d, u⟩ W := hW ▸ AuB.new wr ⟨r, i, c, m, d, u⟩ _
      rw [hW]
      clear hW
      have oW := keepA HO.out bW
      have hat := acells_at (halfA az k) k HFL.out
      rw [HA.out] at hat
      have HBX : Hid (AuB wr.heap.size ⟨r, i, c, m, d, u⟩ W) := BX
      have y0 : W.cell? ⟨w.heap.size, k * 6, none⟩ = some (.string ⟨#[]⟩) := by rw [oW.cellAt (k * 6) (by omega)]; exact hat.1
      have z0 : W.frozen? ⟨w.heap.size, k * 6, none⟩ = false := oW.frozenAt _
      have y1 : W.cell? ⟨w.heap.size, k * 6 + 1, none⟩ = some (.int .i64 0) := by rw [oW.cellAt (k * 6 + 1) (by omega)]; exact hat.2.1
      have z1 : W.frozen? ⟨w.heap.size, k * 6 + 1, none⟩ = false := oW.frozenAt _
      have y2 : W.cell? ⟨w.heap.size, k * 6 + 2, none⟩ = some (.int .i64 0) := by rw [oW.cellAt (k * 6 + 2) (by omega)]; exact hat.2.2.1
      have z2 : W.frozen? ⟨w.heap.size, k * 6 + 2, none⟩ = false := oW.frozenAt _
      have y3 : W.cell? ⟨w.heap.size, k * 6 + 3, none⟩ = some (.int .i64 0) := by rw [oW.cellAt (k * 6 + 3) (by omega)]; exact hat.2.2.2.1
      have z3 : W.frozen? ⟨w.heap.size, k * 6 + 3, none⟩ = false := oW.frozenAt _
      have y4 : W.cell? ⟨w.heap.size, k * 6 + 4, none⟩ = some (.int .i64 0) := by rw [oW.cellAt (k * 6 + 4) (by omega)]; exact hat.2.2.2.2.1
      have z4 : W.frozen? ⟨w.heap.size, k * 6 + 4, none⟩ = false := oW.frozenAt _
      have y5 : W.cell? ⟨w.heap.size, k * 6 + 5, none⟩ = some (.bool false) := by rw [oW.cellAt (k * 6 + 5) (by omega)]; exact hat.2.2.2.2.2
      have z5 : W.frozen? ⟨w.heap.size, k * 6 + 5, none⟩ = false := oW.frozenAt _
      have HR : Hid ((((((((W.setCell ⟨w.heap.size, k * 6, none⟩ (.string ⟨r.toArray⟩)).setCell ⟨w.heap.size, k * 6 + 1, none⟩ (.int .i64 i)).setCell ⟨w.heap.size, k * 6 + 2, none⟩ (.int .i64 c)).setCell ⟨w.heap.size, k * 6 + 3, none⟩ (.int .i64 m)).setCell ⟨w.heap.size, k * 6 + 4, none⟩ (.int .i64 d)).setCell ⟨w.heap.size, k * 6 + 5, none⟩ (.bool u))).ownsRow w.heap.size 30 6 (.slice (some ⟨w.heap.size, 0, none⟩) az.length az.length) az.length (acells (halfA az (k + 1)))) := by
        have R := (((((((oW.stored (k * 6) (.string ⟨r.toArray⟩)).1.stored (k * 6 + 1) (.int .i64 i)).1.stored (k * 6 + 2) (.int .i64 c)).1.stored (k * 6 + 3) (.int .i64 m)).1.stored (k * 6 + 4) (.int .i64 d)).1.stored (k * 6 + 5) (.bool u))).1
        rw [HT.out, HS.out] at R
        exact R
      have HBW : Hid (Below w.heap.size w (((((((W.setCell ⟨w.heap.size, k * 6, none⟩ (.string ⟨r.toArray⟩)).setCell ⟨w.heap.size, k * 6 + 1, none⟩ (.int .i64 i)).setCell ⟨w.heap.size, k * 6 + 2, none⟩ (.int .i64 c)).setCell ⟨w.heap.size, k * 6 + 3, none⟩ (.int .i64 m)).setCell ⟨w.heap.size, k * 6 + 4, none⟩ (.int .i64 d)).setCell ⟨w.heap.size, k * 6 + 5, none⟩ (.bool u)))) := (((((((HBR.out.trans (bW.mono HBR.out.size)).setCell (Nat.le_refl _) _).setCell (Nat.le_refl _) _).setCell (Nat.le_refl _) _).setCell (Nat.le_refl _) _).setCell (Nat.le_refl _) _).setCell (Nat.le_refl _) _)
      have HBOX : Hid ((((((((W.setCell ⟨w.heap.size, k * 6, none⟩ (.string ⟨r.toArray⟩)).setCell ⟨w.heap.size, k * 6 + 1, none⟩ (.int .i64 i)).setCell ⟨w.heap.size, k * 6 + 2, none⟩ (.int .i64 c)).setCell ⟨w.heap.size, k * 6 + 3, none⟩ (.int .i64 m)).setCell ⟨w.heap.size, k * 6 + 4, none⟩ (.int .i64 d)).setCell ⟨w.heap.size, k * 6 + 5, none⟩ (.bool u))).cell? ⟨wr.heap.size, 0, none⟩ = some (.string ⟨r.toArray⟩)) := (World.grownBy.cell_far (row := some w.heap.size) (((((((oW.stored (k * 6) (.string ⟨r.toArray⟩)).2).trans ((oW.stored (k * 6) (.string ⟨r.toArray⟩)).1.stored (k * 6 + 1) (.int .i64 i)).2).trans (((oW.stored (k * 6) (.string ⟨r.toArray⟩)).1.stored (k * 6 + 1) (.int .i64 i)).1.stored (k * 6 + 2) (.int .i64 c)).2).trans ((((oW.stored (k * 6) (.string ⟨r.toArray⟩)).1.stored (k * 6 + 1) (.int .i64 i)).1.stored (k * 6 + 2) (.int .i64 c)).1.stored (k * 6 + 3) (.int .i64 m)).2).trans (((((oW.stored (k * 6) (.string ⟨r.toArray⟩)).1.stored (k * 6 + 1) (.int .i64 i)).1.stored (k * 6 + 2) (.int .i64 c)).1.stored (k * 6 + 3) (.int .i64 m)).1.stored (k * 6 + 4) (.int .i64 d)).2).trans ((((((oW.stored (k * 6) (.string ⟨r.toArray⟩)).1.stored (k * 6 + 1) (.int .i64 i)).1.stored (k * 6 + 2) (.int .i64 c)).1.stored (k * 6 + 3) (.int .i64 m)).1.stored (k * 6 + 4) (.int .i64 d)).1.stored (k * 6 + 5) (.bool u)).2) ⟨wr.heap.size, 0, none⟩ BX.lt (by simp; omega)).trans BX.c0
      obtain ⟨q0, q1, q2, q3, q4, q5⟩ := BX
      simp only at q0 q1 q2 q3 q4 q5
      clear oW hat bW HO HA HS HT
      go_upto_region 6 with fail
      clear q0 q1 q2 q3 q4 q5 y0 z0 y1 z1 y2 z2 y3 z3 y4 z4 y5 z5
      obtain ⟨V, hV⟩ : ∃ V, (((((((W.setCell ⟨w.heap.size, k * 6, none⟩ (.string ⟨r.toArray⟩)).setCell ⟨w.heap.size, k * 6 + 1, none⟩ (.int .i64 i)).setCell ⟨w.heap.size, k * 6 + 2, none⟩ (.int .i64 c)).setCell ⟨w.heap.size, k * 6 + 3, none⟩ (.int .i64 m)).setCell ⟨w.heap.size, k * 6 + 4, none⟩ (.int .i64 d)).setCell ⟨w.heap.size, k * 6 + 5, none⟩ (.bool u))) = V := ⟨_, rfl⟩
      rw [hV] at HR HBW HBOX ⊢
      clear hV
      have v0 := HBOX.out
      have lb : wr.heap.size < V.heap.size := World.block_lt_of_cell? V _ v0
      go_wp2_with fail
      refine (clone_any r _ hdk).mono ?_
      rintro e w2 ⟨rfl, b2⟩
      have o2 := keepA HR.out b2
      have hat := acells_at (halfA az (k + 1)) k HFL2.out
      rw [HAT.out] at hat
      have t0 : w2.cell? ⟨w.heap.size, k * 6, none⟩ = some (.string ⟨r.toArray⟩) := by rw [o2.cellAt (k * 6) (by omega)]; exact hat.1
      have t1 : w2.frozen? ⟨w.heap.size, k * 6, none⟩ = false := o2.frozenAt _
      have HR2 : Hid ((w2.setCell ⟨w.heap.size, k * 6, none⟩ (.string ⟨r.toArray⟩)).ownsRow w.heap.size 30 6 (.slice (some ⟨w.heap.size, 0, none⟩) az.length az.length) az.length (acells (halfA az (k + 1)))) := by
        have R := (o2.stored (k * 6) (.string ⟨r.toArray⟩)).1
        rw [set_there hat.1] at R
        exact R
      have HB2 : Hid (Below w.heap.size w (w2.setCell ⟨w.heap.size, k * 6, none⟩ (.string ⟨r.toArray⟩))) := (HBW.out.trans (b2.mono HBW.out.size)).setCell (Nat.le_refl _) _
      clear o2 hat b2 HR HBW v0 HBOX HBX HAT
      go_wp2
      go_roundw
      case rel => exact ⟨k + 1, by omega, by go_num, HR2.out, HB2.out⟩
      case measure => simp [intOf]; omega
    · have hke : k = az.length := by omega
      subst hke
      rw [halfA_all] at ho
      have HO : Hid _ := ho
      clear ho
      go_wp2
      go_ret
      exact ⟨rfl, HO.out, hbr⟩

end Go.Proofs.Ytpjfigjgamlcdaa
