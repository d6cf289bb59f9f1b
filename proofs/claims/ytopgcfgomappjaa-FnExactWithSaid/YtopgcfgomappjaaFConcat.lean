/- The library's slices.Grow (at nil) and slices.Concat (of three), at slices of fields. -/
import Derived.Test.YtopgcfgomappjaaMsgOwn
import Derived.Lib.AppendZeros
import Derived.Maps.AppendAt
namespace Go.Proofs.Ytopgcfgomappjaa
open Go.RowKit

theorem flds_news {w : World} {b off : Nat} {xs : List Fld} (h : FldsAt w (some ⟨b, off, none⟩) xs) : ∀ j u, (fcells xs)[j]? = some u → w.cell? ((⟨b, off, none⟩ : Addr).add j) = some u := by
  intro j u hj
  have hlt : j < xs.length * 2 := by
    rw [← fcells_len]
    exact (List.getElem?_eq_some_iff.1 hj).1
  rcases h with rfl | ⟨b', off', hq, hb, hc⟩
  · simp at hlt
  · obtain ⟨rfl, rfl⟩ : b = b' ∧ off = off' := by simpa using hq
    have e : ((⟨b, off, none⟩ : Addr).add j) = ⟨b, off + j, none⟩ := by unfold Addr.add; split <;> simp_all
    have hk := hc (j / 2) (by omega)
    have hf := fcells_at xs (j / 2) (by omega)
    rw [e]
    rcases Nat.mod_two_eq_zero_or_one j with m | m
    · have hj' : j = j / 2 * 2 := by omega
      rw [hj', hf.1] at hj
      rw [hj', hk.1]; exact hj
    · have hj' : j = j / 2 * 2 + 1 := by omega
      rw [hj', hf.2] at hj
      rw [hj', ← Nat.add_assoc, hk.2]; exact hj

theorem zeroC (n : Nat) : (Builtin.zeroCells (Value.agg #[.int .i64 0, .string ⟨#[]⟩]).cells n).size = n * 2 := by rw [size_zeroCells]; rfl

set_option maxHeartbeats 800000 in
theorem growF_nil (n : Nat) (w : World) (h0 : 0 < n) (hn : n ≤ 4194304) :
    Calls Try.prog 38 #[.slice none 0 0, .int .i64 n] w fun e w' => ∃ cap, e = .returned (.slice (some ⟨w.heap.size, 0, none⟩) 0 cap) ∧
      w'.ownsRow w.heap.size 26 2 (.slice (some ⟨w.heap.size, 0, none⟩) 0 cap) 0 [] ∧ Below w.heap.size w w' := by
  obtain ⟨i0, hi, hz0, hz1, hz2⟩ := info_parts infoF
  have hge := grownCap_ge w n 0 26
  have hcm := grownCap_le_maxLen w n 0 26 (by unfold maxLen; omega)
  have hr := fun ty => Lib.run_append_nil_zeros (P := Try.prog) w 34 3 ty 26 i0 _ .i64 .i64 Try.underlying34 Try.underlying3 hi hz0 n h0 (by omega) (by omega) (by rw [hz2]; omega)
  obtain ⟨cap, hcap⟩ : ∃ c, grownCap w n 0 26 = c := ⟨_, rfl⟩
  rw [hcap] at hge hcm
  have hO : (w.drew.alloc (.cells (Builtin.zeroCells (Value.agg #[.int .i64 0, .string ⟨#[]⟩]).cells n ++ Builtin.zeroCells (Value.agg #[.int .i64 0, .string ⟨#[]⟩]).cells (cap - n)) 26)).ownsRow w.heap.size 26 2 (.slice (some ⟨w.heap.size, 0, none⟩) 0 cap) 0 [] :=
    World.ownsRow_made w.drew _ cap (Nat.le_refl _) hcm (by rw [Array.size_append, zeroC, zeroC, ← Nat.add_mul]; congr 1; omega)
  have HO : Hid ((w.drew.alloc (.cells (Builtin.zeroCells (Value.agg #[.int .i64 0, .string ⟨#[]⟩]).cells n ++ Builtin.zeroCells (Value.agg #[.int .i64 0, .string ⟨#[]⟩]).cells (cap - n)) 26)).ownsRow w.heap.size 26 2 (.slice (some ⟨w.heap.size, 0, none⟩) 0 cap) 0 []) := hO
  have hle : 0 ≤ cap := Nat.zero_le _
  have hcm' : cap ≤ 9223372036854775807 := by unfold maxLen at hcm; omega
  have hr2 := fun ty => hr ty
  rw [hcap] at hr2
  go_enter Try.func38, Try.ntmps38
  clear hr hcap hO hge hcm
  go_wp2_with (at_builtin; refine Lib.wpList_append_run _ rfl _ _ _ _ rfl _ _ rfl rfl _ _ (hr2 _) ?_)
  go_ret
  exact ⟨cap, rfl, HO.out, by go_grown⟩

/-- three slices of fields, laid side by side in a block -/
def Three (w : World) (g : Nat) (b1 o1 c1 b2 o2 c2 b3 o3 c3 : Nat) (xs ys zs : List Fld) : Prop :=
  w.cell? ⟨g, 0, none⟩ = some (.slice (some ⟨b1, o1, none⟩) xs.length c1) ∧ w.cell? ⟨g, 1, none⟩ = some (.slice (some ⟨b2, o2, none⟩) ys.length c2) ∧ w.cell? ⟨g, 2, none⟩ = some (.slice (some ⟨b3, o3, none⟩) zs.length c3) ∧
  FldsAt w (some ⟨b1, o1, none⟩) xs ∧ FldsAt w (some ⟨b2, o2, none⟩) ys ∧ FldsAt w (some ⟨b3, o3, none⟩) zs
theorem Three.below {w w' : World} {g b1 o1 c1 b2 o2 c2 b3 o3 c3 : Nat} {xs ys zs : List Fld} (h : Three w g b1 o1 c1 b2 o2 c2 b3 o3 c3 xs ys zs) (hb : Below w.heap.size w w') : Three w' g b1 o1 c1 b2 o2 c2 b3 o3 c3 xs ys zs := by
  obtain ⟨h1, h2, h3, h4, h5, h6⟩ := h
  have hg : g < w.heap.size := World.block_lt_of_cell? w _ h1
  exact ⟨(hb.cell (p := ⟨g, 0, none⟩) hg).trans h1, (hb.cell (p := ⟨g, 1, none⟩) hg).trans h2, (hb.cell (p := ⟨g, 2, none⟩) hg).trans h3, h4.below hb, h5.below hb, h6.below hb⟩

set_option maxHeartbeats 1600000 in
theorem concatF_any (g b1 o1 c1 b2 o2 c2 b3 o3 c3 : Nat) (xs ys zs : List Fld) (w : World) (h : Three w g b1 o1 c1 b2 o2 c2 b3 o3 c3 xs ys zs) (hy : 0 < ys.length) (hx : xs.length ≤ 1048576) (hy2 : ys.length ≤ 1048576) (hz2 : zs.length ≤ 1048576) :
    Calls Try.prog 33 #[.slice (some ⟨g, 0, none⟩) 3 3] w fun e w' => ∃ v, e = .returned v ∧
      w'.ownsRow w.heap.size 26 2 v (xs.length + ys.length + zs.length) (fcells (xs ++ ys ++ zs)) ∧ Below w.heap.size w w' := by
  obtain ⟨i0, hi, hz0, hz1, hz2'⟩ := info_parts infoF
  have HT : Hid (Three w g b1 o1 c1 b2 o2 c2 b3 o3 c3 xs ys zs) := h
  obtain ⟨e1, e2, e3, _, _, _⟩ := h
  go_enter Try.func33, Try.ntmps33
  go_wp2
  refine wp_loop_rounds 4 ?_
  rw [rounds_succ]
  go_wp2
  rw [rounds_succ]
  go_wp2
  rw [rounds_succ]
  go_wp2
  rw [rounds_succ]
  go_wp2_with fail
  rw [show (xs.length : Int) + (ys.length : Int) + (zs.length : Int) = ((xs.length + ys.length + zs.length : Nat) : Int) by omega]
  refine (growF_nil _ _ (by omega) (by omega)).mono ?_
  rintro e w1 ⟨cap, rfl, h1, q1⟩
  have T1 := HT.out.below q1
  have HT1 : Hid _ := T1
  obtain ⟨a1, a2, a3, f1, f2, f3⟩ := T1
  have n1 := flds_news f1
  have HO1 : Hid (w1.ownsRow w.heap.size 26 2 (.slice (some ⟨w.heap.size, 0, none⟩) 0 cap) 0 []) := h1
  have hs1 := q1.size
  clear e1 e2 e3 h1 f1 f2 f3
  go_wp2
  refine wp_loop_rounds 4 ?_
  rw [rounds_succ]
  go_wp2_with (at_builtin; refine wpList_append_own _ rfl (.tmp 31) (.tmp 32) 34 rfl w.heap.size 26 i0 _ 2 24 Try.underlying34 hi hz0 hz1 hz2' rfl (by decide) _ 0 _ rfl HO1.out ⟨b1, o1, none⟩ xs.length c1 (fcells xs) rfl (fcells_len xs) n1 (fcells_one xs) (by unfold maxLen; omega) (by omega) hs1 ?_; intro v2 w2 o2 g2 _)
  have q2 : Below w.heap.size w w2 := q1.grown g2 hs1 (fun k hk => (HO1.out.lt k hk).1)
  have T2 := HT.out.below q2
  obtain ⟨_, d2, d3, f1, f2, f3⟩ := T2
  have n2 := flds_news f2
  have HO2 : Hid (w2.ownsRow w.heap.size 26 2 v2 (0 + xs.length) ([] ++ fcells xs)) := o2
  have hs2 := q2.size
  clear a1 a2 a3 f1 f2 f3 n1 o2 g2 HO1 hs1 HT1
  go_wp2
  rw [rounds_succ]
  go_wp2_with (at_builtin; refine wpList_append_own _ rfl (.tmp 31) (.tmp 32) 34 rfl w.heap.size 26 i0 _ 2 24 Try.underlying34 hi hz0 hz1 hz2' rfl (by decide) _ _ _ rfl HO2.out ⟨b2, o2, none⟩ ys.length c2 (fcells ys) rfl (fcells_len ys) n2 (fcells_one ys) (by unfold maxLen; omega) (by omega) hs2 ?_; intro v3 w3 o3' g3 _)
  have q3 : Below w.heap.size w w3 := q2.grown g3 hs2 (fun k hk => (HO2.out.lt k hk).1)
  have T3 := HT.out.below q3
  obtain ⟨_, _, i3, f1, f2, f3⟩ := T3
  have n3 := flds_news f3
  have HO3 : Hid (w3.ownsRow w.heap.size 26 2 v3 (0 + xs.length + ys.length) ([] ++ fcells xs ++ fcells ys)) := o3'
  have hs3 := q3.size
  clear d2 d3 f1 f2 f3 n2 o3' g3 HO2 hs2
  go_wp2
  rw [rounds_succ]
  go_wp2_with (at_builtin; refine wpList_append_own _ rfl (.tmp 31) (.tmp 32) 34 rfl w.heap.size 26 i0 _ 2 24 Try.underlying34 hi hz0 hz1 hz2' rfl (by decide) _ _ _ rfl HO3.out ⟨b3, o3, none⟩ zs.length c3 (fcells zs) rfl (fcells_len zs) n3 (fcells_one zs) (by unfold maxLen; omega) (by omega) hs3 ?_; intro v4 w4 o4 g4 _)
  have q4 : Below w.heap.size w w4 := q3.grown g4 hs3 (fun k hk => (HO3.out.lt k hk).1)
  have HO4 : Hid (w4.ownsRow w.heap.size 26 2 v4 (xs.length + ys.length + zs.length) (fcells (xs ++ ys ++ zs))) := by
    rw [fcells_append, fcells_append]
    rw [Nat.zero_add, List.nil_append] at o4
    exact o4
  clear i3 n3 o4 g4 HO3 hs3
  go_wp2
  rw [rounds_succ]
  go_wp2
  go_ret
  exact ⟨v4, rfl, HO4.out, q4⟩

end Go.Proofs.Ytopgcfgomappjaa
