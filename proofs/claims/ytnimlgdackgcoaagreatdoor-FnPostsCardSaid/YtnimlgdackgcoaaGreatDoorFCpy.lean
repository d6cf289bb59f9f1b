/- The contracts of the program's join at one list of lines, and of copyLedger. -/
import Derived.Test.YtnimlgdackgcoaaGreatDoorSPost
namespace Go.Proofs.YtnimlgdackgcoaaGreatDoor
open Go.RowKit
set_option maxRecDepth 100000

set_option maxHeartbeats 1600000 in
theorem joinL_any (g : Nat) (ao : Option Addr) (cap : Nat) (ls : List Ln) (w : World) (hc : w.cell? ⟨g, 0, none⟩ = some (.slice ao ls.length cap)) (hz : LinesAt w ao ls) (hn : ls.length ≤ 1048577) :
    Calls Tryz.prog 42 #[.slice (some ⟨g, 0, none⟩) 1 1] w fun e w' => ∃ a2 k2, e = .returned (.slice a2 ls.length k2) ∧
      w'.ownsRow w.heap.size 49 3 (.slice a2 ls.length k2) ls.length (lcells ls) ∧ Below w.heap.size w w' := by
  have HZ : Hid (LinesAt w ao ls) := hz
  clear hz
  go_enter Tryz.func42, Tryz.ntmps42
  go_wp2
  refine wp_loop_rounds 2 ?_
  rw [rounds_succ]
  go_wp2_with (at_builtin; refine wpList_append_lines _ rfl (.tmp 12) (.tmp 13) rfl w.heap.size _ 0 [] rfl (World.ownsRow_nil _ _ _ _) ao cap ls rfl HZ.out (by omega) (Nat.le_refl _) ?_; intro v2 w2 o2 g2)
  have q2 : Below w.heap.size w w2 := (Below.refl _ _).grown g2 (Nat.le_refl _) (fun k hk => by cases hk)
  rw [Nat.zero_add, List.nil_append] at o2
  obtain ⟨a2, k2, hv2, -, -⟩ := lines_of_own o2
  subst hv2
  have HO2 : Hid (w2.ownsRow w.heap.size 49 3 (.slice a2 ls.length k2) ls.length (lcells ls)) := o2
  clear o2 g2 HZ hc
  go_wp2
  rw [rounds_succ]
  go_wp2
  go_ret
  exact ⟨a2, k2, rfl, HO2.out, q2⟩

set_option maxHeartbeats 1600000 in
theorem iCopy_any (ao : Option Addr) (cap : Nat) (ls : List Ln) (w : World) (hz : LinesAt w ao ls) (hn : ls.length ≤ 1048577) :
    Calls Tryz.prog 20 #[.agg #[.slice ao ls.length cap]] w (LedR w ls) := by
  obtain ⟨W, hW⟩ : ∃ W, W = ((w.alloc (.cells #[.slice ao ls.length cap] 26)).alloc (.cells #[.slice none 0 0] 26)).alloc (.cells #[.slice ao ls.length cap] 24) := ⟨_, rfl⟩
  have hWs : W.heap.size = w.heap.size + 3 := by rw [hW]; simp
  have bW : Below w.heap.size w W := by rw [hW]; go_grown
  have HZ : Hid (LinesAt W ao ls) := hz.below bW
  have c1 : W.cell? ⟨w.heap.size + 1, 0, none⟩ = some (.slice none 0 0) := by rw [hW]; simp [go_sem]
  have c2 : W.cell? ⟨w.heap.size + 1 + 1, 0, none⟩ = some (.slice ao ls.length cap) := by rw [hW]; simp [go_sem]
  have z1 : W.frozen? ⟨w.heap.size + 1, 0, none⟩ = false := by rw [hW]; simp [go_sem]
  have HC1 : Hid _ := c1
  have HZ1 : Hid _ := z1
  have HBW : Hid _ := bW
  have HWS : Hid _ := hWs
  have HW : Hid _ := hW
  clear hz c1 z1 bW hWs hW
  go_enter Tryz.func20, Tryz.ntmps20
  go_wp2_with fail
  rw [← HW.out]
  refine (joinL_any (w.heap.size + 1 + 1) ao cap ls W c2 HZ.out hn).mono ?_
  rintro e w2 ⟨a2, k2, rfl, o2, b2⟩
  have d1 := (b2.cell (p := ⟨w.heap.size + 1, 0, none⟩) (by have := HWS.out; show w.heap.size + 1 < W.heap.size; omega)).trans HC1.out
  have e1 := (b2.frozen (p := ⟨w.heap.size + 1, 0, none⟩) (by have := HWS.out; show w.heap.size + 1 < W.heap.size; omega)).trans HZ1.out
  have HO2 : Hid (w2.ownsRow W.heap.size 49 3 (.slice a2 ls.length k2) ls.length (lcells ls)) := o2
  have HB2 : Hid (Below w.heap.size w w2) := next HBW.out b2
  clear o2 b2 c2
  go_wp2
  refine bodyPost_ret (by simp [results, Tryz.results20, go_sem, d1]; try rfl) rfl ?_
  refine ⟨a2, k2, rfl, ?_, HB2.out.setCell (by show w.heap.size ≤ w.heap.size + 1; omega) _⟩
  have hs := HWS.out
  exact lowerL (keepSetL HO2.out _ _ (fun g hg => by have := (HO2.out.lt g hg).1; simp only; omega)) (by omega)

end Go.Proofs.YtnimlgdackgcoaaGreatDoor
