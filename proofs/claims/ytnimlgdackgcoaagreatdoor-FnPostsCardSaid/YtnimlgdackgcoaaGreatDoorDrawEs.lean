/- A drawn list of entries. -/
import Derived.Test.YtnimlgdackgcoaaGreatDoorDrawEn
import Derived.Test.YtnimlgdackgcoaaGreatDoorEnLaw
namespace Go.Proofs.YtnimlgdackgcoaaGreatDoor
open Go.RowKit
set_option maxRecDepth 100000

theorem ecells_append (a b : List En) : ecells (a ++ b) = ecells a ++ ecells b := by simp [ecells]
theorem one4 (x y z t : Int) : ∀ u ∈ [Value.int .i64 x, .int .i64 y, .int .i64 z, .int .i64 t], u.oneCell' = true := by
  intro u hu
  simp at hu
  rcases hu with rfl | rfl | rfl | rfl <;> rfl
def EsSm (es : List En) : Prop := es.length ≤ 6 ∧ ∀ x ∈ es, EnSm x
def EsD (B g : Nat) (w : World) (e : Ending) (w' : World) : Prop :=
  ∃ ao k es, e = .returned (.slice ao (List.length es) k) ∧ EsSm es ∧ EntsAt w' ao es ∧ (∀ b off, ao = some ⟨b, off, none⟩ → w.heap.size ≤ b) ∧ Cursor B w' g ∧ w.grownBy w' (some g)

set_option maxHeartbeats 1600000 in
theorem entriesD_any {B : Nat} (g : Nat) (w : World) (hc : Cursor B w g) : Calls Tryz.prog 19 #[.pointer (some ⟨g, 0, none⟩)] w (EsD B g w) := by
  obtain ⟨i0, hi, hz0, hz1, hz2⟩ := info_parts infoE
  have cb := cursor_bd hc
  have own : (w.alloc (.cells #[] 35)).ownsRow w.heap.size 35 4 (.slice (some ⟨w.heap.size, 0, none⟩) 0 0) 0 [] := World.ownsRow_lit w #[] 0 (Nat.le_refl _) (by unfold maxLen; omega) rfl
  have gA := grown_alloc w (.cells #[] 35) (some g)
  go_enter Tryz.func19, Tryz.ntmps19
  go_wp2_with fail
  refine (below_any _ _ _ (cursor_alloc hc _) (by omega)).mono ?_
  rintro e w1 ⟨m, rfl, m0, m1, c1, g1⟩
  have hm := m1 (by omega)
  obtain ⟨M, rfl⟩ := Int.eq_ofNat_of_zero_le m0
  have o1 : w1.ownsRow w.heap.size 35 4 (.slice (some ⟨w.heap.size, 0, none⟩) 0 0) 0 (ecells []) := own.kept g1 (.inr (by simp [Value.ownBlock]; omega))
  have b1 : w.grownBy w1 (some g) := gA.trans g1
  have hM : M ≤ 6 := by omega
  clear own gA g1 m1 hc m0 hm
  go_wp2
  go_loopw [3, 5] (fun v i wr => ∃ (u : Value) (k : Nat) (es : List En), u = v ∧ k ≤ M ∧ i = .int .i64 k ∧ es.length = k ∧ (∀ x ∈ es, EnSm x) ∧ wr.ownsRow w.heap.size 35 4 u es.length (ecells es) ∧ Cursor B wr g ∧ w.grownBy wr (some g)) (fun _ i _ => M - (intOf i).toNat)
  case atStart => exact ⟨_, 0, [], rfl, Nat.zero_le _, rfl, rfl, (fun x hx => by cases hx), o1, c1, b1⟩
  case round =>
    obtain ⟨v, k, es, hvs, hk, rfl, hl, hsm, ho, hc, hbr⟩ := hrel
    subst hvs
    clear o1 c1 b1
    by_cases hlt : k < M
    · have hki : (k : Int) < (M : Int) := by omega
      have HSM : Hid (∀ x ∈ es, EnSm x) := hsm
      have HLT : Hid (∀ j, v.ownBlock = some j → w.heap.size ≤ j) := fun j hj => (ho.lt j hj).1
      have HL : Hid (es.length = k) := hl
      have hel : es.length ≤ 6 := by omega
      clear hsm hl
      go_wp2_with fail
      refine (entryD_any _ _ hc).mono ?_
      rintro e w3 ⟨a, b, c, m, rfl, hs3, c3, g3⟩
      have HO3 : Hid (w3.ownsRow w.heap.size 35 4 v es.length (ecells es)) := ho.kept g3 (.inr fun e => by have := HLT.out g e; omega)
      have HS3 : Hid (EnSm (a, b, c, m)) := hs3
      have HC3 : Hid (Cursor B w3 g) := c3
      have HG3 : Hid (w.grownBy w3 (some g)) := hbr.trans g3
      have hs : w.heap.size ≤ w3.heap.size := HG3.out.size
      clear hc ho hbr c3 g3 hs3
      go_wp2_with (at_builtin; refine wpList_append_own _ rfl (.tmp 14) (.tmp 17) 27 rfl w.heap.size 35 i0 _ 4 32 Tryz.underlying27 hi hz0 hz1 hz2 rfl (by decide) _ _ _ rfl (HO3.out.alloc _) ⟨w3.heap.size, 0, none⟩ 1 1 [.int .i64 a, .int .i64 b, .int .i64 c, .int .i64 m] rfl rfl (World.news_of_block (heap_alloc_new w3 _)) (one4 a b c m) (by unfold maxLen; omega) (by omega) (by simp; omega) ?_; intro v5 w5 o5 g5 _)
      have gA := grown_alloc w3 (.cells #[.int .i64 a, .int .i64 b, .int .i64 c, .int .i64 m] 35) (some g)
      have HR5 : Hid (w5.ownsRow w.heap.size 35 4 v5 (es ++ [(a, b, c, m)]).length (ecells (es ++ [(a, b, c, m)]))) := by rw [Hid, List.length_append, ecells_append]; exact o5
      have HC5 : Hid (Cursor B w5 g) := cursor_keep (cursor_alloc HC3.out _) ((Below.refl _ _).grown g5 (cursor_bd (cursor_alloc HC3.out _)).2 (fun j hj => by have := HLT.out j hj; omega))
      have HG5 : Hid (w.grownBy w5 (some g)) := (HG3.out.trans gA).andThen g5 (fun j hj => .inl (HLT.out j hj))
      clear o5 g5 gA HO3 HC3 HG3
      go_wp2
      go_roundw
      case rel => exact ⟨_, k + 1, es ++ [(a, b, c, m)], rfl, by omega, by go_num, by have := HL.out; simp; omega, (fun x hx => by
        rcases List.mem_append.1 hx with h | h
        · exact HSM.out x h
        · simp only [List.mem_singleton] at h; rw [h]; exact HS3.out), HR5.out, HC5.out, HG5.out⟩
      case measure => simp [intOf]; omega
    · have hki : ¬ (k : Int) < (M : Int) := by omega
      obtain ⟨ao, cap, hv, hE, -⟩ := ents_of_own ho
      have HB : Hid (∀ b off, ao = some ⟨b, off, none⟩ → w.heap.size ≤ b) := fun b off e => (ho.lt b (by rw [hv, e]; rfl)).1
      have HS : Hid (EsSm es) := ⟨by omega, hsm⟩
      have HE : Hid (EntsAt wr ao es) := hE
      have HC : Hid (Cursor B wr g) := hc
      have HG : Hid (w.grownBy wr (some g)) := hbr
      subst hv
      clear ho hsm hE hc hbr hl
      go_wp2
      go_ret
      exact ⟨ao, cap, es, rfl, HS.out, HE.out, HB.out, HC.out, HG.out⟩

end Go.Proofs.YtnimlgdackgcoaaGreatDoor
