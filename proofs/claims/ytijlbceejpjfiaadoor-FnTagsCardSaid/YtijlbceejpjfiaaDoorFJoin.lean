/- The contract of the program's join, at three lists of tags. -/
import Derived.Test.YtijlbceejpjfiaaDoorTagApp
namespace Go.Proofs.YtijlbceejpjfiaaDoor
open Go.RowKit

/-- three slices of tags, laid side by side in a block -/
def Three (w : World) (g : Nat) (a1 : Option Addr) (c1 : Nat) (a2 : Option Addr) (c2 : Nat) (a3 : Option Addr) (c3 : Nat) (xs ys zs : List Fld) : Prop :=
  w.cell? ⟨g, 0, none⟩ = some (.slice a1 xs.length c1) ∧ w.cell? ⟨g, 1, none⟩ = some (.slice a2 ys.length c2) ∧ w.cell? ⟨g, 2, none⟩ = some (.slice a3 zs.length c3) ∧
  FldsAt w a1 xs ∧ FldsAt w a2 ys ∧ FldsAt w a3 zs
theorem Three.below {w w' : World} {g : Nat} {a1 a2 a3 : Option Addr} {c1 c2 c3 : Nat} {xs ys zs : List Fld} (h : Three w g a1 c1 a2 c2 a3 c3 xs ys zs) (hb : Below w.heap.size w w') : Three w' g a1 c1 a2 c2 a3 c3 xs ys zs := by
  obtain ⟨h1, h2, h3, h4, h5, h6⟩ := h
  have hg : g < w.heap.size := World.block_lt_of_cell? w _ h1
  exact ⟨(hb.cell (p := ⟨g, 0, none⟩) hg).trans h1, (hb.cell (p := ⟨g, 1, none⟩) hg).trans h2, (hb.cell (p := ⟨g, 2, none⟩) hg).trans h3, h4.below hb, h5.below hb, h6.below hb⟩

set_option maxRecDepth 100000 in
set_option maxHeartbeats 1600000 in
theorem join_any (g : Nat) (a1 a2 a3 : Option Addr) (c1 c2 c3 : Nat) (xs ys zs : List Fld) (w : World) (h : Three w g a1 c1 a2 c2 a3 c3 xs ys zs) (hx : xs.length ≤ 1048576) (hy : ys.length ≤ 1048576) (hz : zs.length ≤ 1048576) :
    Calls Tryd.prog 41 #[.slice (some ⟨g, 0, none⟩) 3 3] w fun e w' => ∃ v, e = .returned v ∧
      w'.ownsRow w.heap.size 48 2 v (xs.length + ys.length + zs.length) (fcells (xs ++ ys ++ zs)) ∧ Below w.heap.size w w' := by
  have HT : Hid (Three w g a1 c1 a2 c2 a3 c3 xs ys zs) := h
  obtain ⟨e1, e2, e3, f1, f2, f3⟩ := h
  have HF1 : Hid _ := f1
  clear f1 f2 f3
  go_enter Tryd.func41, Tryd.ntmps41
  go_wp2
  refine wp_loop_rounds 4 ?_
  rw [rounds_succ]
  go_wp2_with (at_builtin; refine wpList_append_flds _ rfl (.tmp 12) (.tmp 13) rfl w.heap.size _ 0 [] rfl (World.ownsRow_nil _ _ _ _) a1 c1 xs rfl HF1.out (by omega) (Nat.le_refl _) ?_; intro v2 w2 o2 g2 _)
  have q2 : Below w.heap.size w w2 := (Below.refl _ _).grown g2 (Nat.le_refl _) (fun k hk => by cases hk)
  obtain ⟨_, d2, d3, f1, f2, f3⟩ := HT.out.below q2
  have HF2 : Hid _ := f2
  have HO2 : Hid (w2.ownsRow w.heap.size 48 2 v2 (0 + xs.length) ([] ++ fcells xs)) := o2
  have hs2 := q2.size
  clear e1 e2 e3 f1 f2 f3 o2 g2 HF1
  go_wp2
  rw [rounds_succ]
  go_wp2_with (at_builtin; refine wpList_append_flds _ rfl (.tmp 12) (.tmp 13) rfl w.heap.size _ _ _ rfl HO2.out a2 c2 ys rfl HF2.out (by omega) hs2 ?_; intro v3 w3 o3 g3 _)
  have q3 : Below w.heap.size w w3 := q2.grown g3 hs2 (fun k hk => (HO2.out.lt k hk).1)
  obtain ⟨_, _, i3, f1, f2, f3⟩ := HT.out.below q3
  have HF3 : Hid _ := f3
  have HO3 : Hid (w3.ownsRow w.heap.size 48 2 v3 (0 + xs.length + ys.length) ([] ++ fcells xs ++ fcells ys)) := o3
  have hs3 := q3.size
  clear d2 d3 f1 f2 f3 o3 g3 HO2 hs2 HF2
  go_wp2
  rw [rounds_succ]
  go_wp2_with (at_builtin; refine wpList_append_flds _ rfl (.tmp 12) (.tmp 13) rfl w.heap.size _ _ _ rfl HO3.out a3 c3 zs rfl HF3.out (by omega) hs3 ?_; intro v4 w4 o4 g4 _)
  have q4 : Below w.heap.size w w4 := q3.grown g4 hs3 (fun k hk => (HO3.out.lt k hk).1)
  have HO4 : Hid (w4.ownsRow w.heap.size 48 2 v4 (xs.length + ys.length + zs.length) (fcells (xs ++ ys ++ zs))) := by
    rw [fcells_append, fcells_append]
    rw [Nat.zero_add, List.nil_append] at o4
    exact o4
  clear i3 o4 g4 HO3 hs3 HF3
  go_wp2
  rw [rounds_succ]
  go_wp2
  go_ret
  exact ⟨v4, rfl, HO4.out, q4⟩

end Go.Proofs.YtijlbceejpjfiaaDoor
