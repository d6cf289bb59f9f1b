/- AddWork, the program's: by the iterator over the working days. -/
import Derived.Test.YtenbhmmknejcjaaDoorJP91a
namespace Go.Proofs.YtenbhmmknejcjaaDoor
open Go.RowKit Go.Shelf

theorem addV_no {d n : Int} {zs : List Int} (h : dOk d = false ∨ n < 0 ∨ 400 < n ∨ offOk zs = false) : addV d n zs = none := by
  unfold addV
  rw [if_neg]
  rintro ⟨a, b, c, e⟩
  rcases h with h | h | h | h
  · rw [a] at h; cases h
  · omega
  · omega
  · rw [e] at h; cases h
theorem addV_yes {d n : Int} {zs : List Int} (a : dOk d = true) (b : 0 ≤ n) (c : n ≤ 400) (e : offOk zs = true) : addV d n zs = adv zs (80000 - d).toNat n.toNat := by
  unfold addV; rw [if_pos ⟨a, b, c, e⟩]

theorem two_cells (w : World) (x : Int) (y : Bool) : ((w.alloc (.cells #[.int .i64 x] 3)).alloc (.cells #[.bool y] 4)).cell? ⟨w.heap.size, 0, none⟩ = some (.int .i64 x) ∧
    ((w.alloc (.cells #[.int .i64 x] 3)).alloc (.cells #[.bool y] 4)).cell? ⟨w.heap.size + 1, 0, none⟩ = some (.bool y) := by
  refine ⟨?_, ?_⟩
  · rw [World.cell?_alloc_lt _ _ _ (by simp)]; simp
  · rw [← World.size_alloc w (.cells #[.int .i64 x] 3)]; simp
theorem two_below (w : World) (o o' : Obj) : Below w.heap.size w ((w.alloc o).alloc o') := ((Below.refl _ w).alloc (Nat.le_refl _) _).alloc (by simp) _

set_option maxHeartbeats 1000000 in
theorem iAdd_no (d n : Int) (ao : Option Addr) (c : Nat) (zs : List Int) (w : World) (hx : IntsAt w ao zs) (h1 : zs.length ≤ 1099511627776) (h : dOk d = false ∨ n < 0 ∨ 400 < n ∨ offOk zs = false) :
    Calls Tryd.prog 55 #[.int .i64 d, .int .i64 n, .slice ao zs.length c] w fun e w' => e = .returned (.tuple #[.int .i64 0, .bool false]) ∧ Below w.heap.size w w' := by
  have HX : Hid (IntsAt w ao zs) := hx
  clear hx
  have tc := two_cells w 0 false
  have HB : Hid _ := two_below w (.cells #[.int .i64 0] 3) (.cells #[.bool false] 4)
  cases hd : dOk d
  · go_enter Tryd.func55, Tryd.ntmps55
    go_wp2_with fail
    refine (iDayOk_any _ _).mono ?_
    rintro e w' ⟨rfl, hw⟩
    subst hw
    go_wp2
    refine bodyPost_ret (v := .tuple #[.int .i64 0, .bool false]) (by simp [results, Tryd.f55, go_sem]) rfl ⟨rfl, HB.out⟩
  · by_cases hn0 : n < 0
    · go_enter Tryd.func55, Tryd.ntmps55
      go_wp2_with fail
      refine (iDayOk_any _ _).mono ?_
      rintro e w' ⟨rfl, hw⟩
      subst hw
      go_wp2
      refine bodyPost_ret (v := .tuple #[.int .i64 0, .bool false]) (by simp [results, Tryd.f55, go_sem]) rfl ⟨rfl, HB.out⟩
    · by_cases hn4 : 400 < n
      · go_enter Tryd.func55, Tryd.ntmps55
        go_wp2_with fail
        refine (iDayOk_any _ _).mono ?_
        rintro e w' ⟨rfl, hw⟩
        subst hw
        go_wp2
        refine bodyPost_ret (v := .tuple #[.int .i64 0, .bool false]) (by simp [results, Tryd.f55, go_sem]) rfl ⟨rfl, HB.out⟩
      · have ho : offOk zs = false := by
          rcases h with h | h | h | h
          · rw [hd] at h; cases h
          · omega
          · omega
          · exact h
        clear h
        go_enter Tryd.func55, Tryd.ntmps55
        go_wp2_with fail
        refine (iDayOk_any _ _).mono ?_
        rintro e w' ⟨rfl, hw⟩
        subst hw
        go_wp2_with fail
        refine (iOk_any _ _ zs _ (IntsAt.below HX.out HB.out) h1).mono ?_
        rintro e w' ⟨rfl, hw⟩
        subst hw
        go_wp2
        refine bodyPost_ret (v := .tuple #[.int .i64 0, .bool false]) (by simp [results, Tryd.f55, go_sem]) rfl ⟨rfl, HB.out⟩

set_option maxHeartbeats 1000000 in
theorem iAdd_zero (d : Int) (ao : Option Addr) (c : Nat) (zs : List Int) (w : World) (hx : IntsAt w ao zs) (h1 : zs.length ≤ 1099511627776) (hd : dOk d = true) (ho : offOk zs = true) :
    Calls Tryd.prog 55 #[.int .i64 d, .int .i64 0, .slice ao zs.length c] w fun e w' => e = .returned (.tuple #[.int .i64 d, .bool true]) ∧ Below w.heap.size w w' := by
  have HX : Hid (IntsAt w ao zs) := hx
  clear hx
  have tc := two_cells w d true
  have HB0 : Hid _ := two_below w (.cells #[.int .i64 0] 3) (.cells #[.bool false] 4)
  have HB : Hid _ := two_below w (.cells #[.int .i64 d] 3) (.cells #[.bool true] 4)
  go_enter Tryd.func55, Tryd.ntmps55
  go_wp2_with fail
  refine (iDayOk_any _ _).mono ?_
  rintro e w' ⟨rfl, hw⟩
  subst hw
  go_wp2_with fail
  refine (iOk_any _ _ zs _ (IntsAt.below HX.out HB0.out) h1).mono ?_
  rintro e w' ⟨rfl, hw⟩
  subst hw
  go_wp2
  refine bodyPost_ret (v := .tuple #[.int .i64 d, .bool true]) (by simp [results, Tryd.f55, go_sem]) rfl ⟨rfl, HB.out⟩

/-- the box at block k holds v, and may be written -/
def Cl (W : World) (k : Nat) (v : Value) : Prop := W.cell? ⟨k, 0, none⟩ = some v ∧ W.frozen? ⟨k, 0, none⟩ = false
theorem Cl.kept {W W' : World} {row : Option Nat} {k : Nat} {v : Value} (h : Cl W k v) (hg : W.grownBy W' row) (hr : ∀ r, row = some r → ∃ o : Obj, W.heap[r]? = some o ∧ o.isCells = false) : Cl W' k v :=
  ⟨cell_kept h.1 hg hr, (frozen_kept h.1 hg hr).trans h.2⟩
theorem Cl.new (W : World) (v : Value) (t : TypeId) : Cl (W.alloc (.cells #[v] t)) W.heap.size v := by
  have h := World.alloc_heap_new W (.cells #[v] t)
  constructor
  · unfold World.cell?
    simp only [h]
    rfl
  · unfold World.frozen?
    simp only [h]
    rfl
theorem Cl.alloc {W : World} {k : Nat} {v : Value} (h : Cl W k v) (o : Obj) : Cl (W.alloc o) k v := h.kept (World.grownBy_alloc W o none) (fun r e => by cases e)
theorem Cl.other {W : World} {k j : Nat} {v u : Value} (h : Cl W k v) (hj : j ≠ k) : Cl (W.setCell ⟨j, 0, none⟩ u) k v := by
  refine ⟨?_, by rw [World.frozen?_setCell]; exact h.2⟩
  rw [World.cell?_setCell_other W ⟨j, 0, none⟩ u (b := ⟨k, 0, none⟩) (fun e => by injection e with e1; exact hj e1)]; exact h.1
theorem Cl.same {W : World} {k : Nat} {v u : Value} (h : Cl W k v) : Cl (W.setCell ⟨k, 0, none⟩ u) k u :=
  ⟨World.cell?_setCell_same W ⟨k, 0, none⟩ u h.1, by rw [World.frozen?_setCell]; exact h.2⟩
theorem Cl.put {W : World} {k D : Nat} {v : Value} {o o' : Obj} (h : Cl W k v) (hD : W.heap[D]? = some o) (ho : o.isCells = false) : Cl (W.putObj D o') k v :=
  h.kept (grownBy_putObj' W D o') (fun r e => by cases e; exact ⟨_, hD, ho⟩)
theorem bel_set {N j : Nat} {w W : World} (h : Below N w W) (hj : N ≤ j) (u : Value) : Below N w (W.setCell ⟨j, 0, none⟩ u) := h.setCell (p := ⟨j, 0, none⟩) hj u
theorem keep_set {N Bo j : Nat} (W : World) (u : Value) (hN : N ≤ j) (hj : j ≠ Bo) : Keep N Bo W (W.setCell ⟨j, 0, none⟩ u) :=
  ⟨(Below.refl N W).setCell (p := ⟨j, 0, none⟩) hN _, fun v hv => by
    rw [World.cell?_setCell_other W ⟨j, 0, none⟩ u (b := ⟨Bo, 0, none⟩) (fun e => by injection e with e1; exact hj e1)]; exact hv⟩

theorem adv_none {zs : List Int} {f m : Nat} (hm : 1 ≤ m) (h : (wd zs f).length < m) : adv zs f m = none := by
  obtain ⟨k, rfl⟩ : ∃ k, m = k + 1 := ⟨m - 1, by omega⟩
  rw [adv]; exact List.getElem?_eq_none (by omega)
theorem adv_pre {zs : List Int} {f m : Nat} {pre : List Int} {x : Int} (hp : pre ++ [x] <+: wd zs f) (hm : (pre ++ [x]).length = m) : adv zs f m = some x := by
  obtain ⟨t, ht⟩ := hp
  simp at hm
  subst hm
  rw [adv, ← ht]; simp

theorem five (w : World) (m : Nat) (ao : Option Addr) (k c : Nat) (d : Int) : ∀ W0, W0 = (((((w.alloc (.cells #[.int .i64 0] 3)).alloc (.cells #[.bool false] 4)).alloc (.cells #[.int .i64 m] 3)).alloc (.cells #[.slice ao k c] 52)).alloc (.cells #[.int .i64 d] 3)) →
    W0.heap.size = w.heap.size + 5 ∧ Below w.heap.size w W0 ∧ Cl W0 w.heap.size (.int .i64 0) ∧ Cl W0 (w.heap.size + 1) (.bool false) ∧ Cl W0 (w.heap.size + 1 + 1) (.int .i64 m) ∧ Cl W0 (w.heap.size + 1 + 1 + 1) (.slice ao k c) ∧ Cl W0 (w.heap.size + 1 + 1 + 1 + 1) (.int .i64 d) := by
  rintro _ rfl
  have z1 := World.size_alloc w (.cells #[.int .i64 0] 3)
  have z2 := World.size_alloc (w.alloc (.cells #[.int .i64 0] 3)) (.cells #[.bool false] 4)
  have z3 := World.size_alloc ((w.alloc (.cells #[.int .i64 0] 3)).alloc (.cells #[.bool false] 4)) (.cells #[.int .i64 m] 3)
  have z4 := World.size_alloc (((w.alloc (.cells #[.int .i64 0] 3)).alloc (.cells #[.bool false] 4)).alloc (.cells #[.int .i64 m] 3)) (.cells #[.slice ao k c] 52)
  have k1 := Cl.new w (.int .i64 0) 3
  have k2 := Cl.new (w.alloc (.cells #[.int .i64 0] 3)) (.bool false) 4
  have k3 := Cl.new ((w.alloc (.cells #[.int .i64 0] 3)).alloc (.cells #[.bool false] 4)) (.int .i64 m) 3
  have k4 := Cl.new (((w.alloc (.cells #[.int .i64 0] 3)).alloc (.cells #[.bool false] 4)).alloc (.cells #[.int .i64 m] 3)) (.slice ao k c) 52
  have k5 := Cl.new ((((w.alloc (.cells #[.int .i64 0] 3)).alloc (.cells #[.bool false] 4)).alloc (.cells #[.int .i64 m] 3)).alloc (.cells #[.slice ao k c] 52)) (.int .i64 d) 3
  rw [z4, z3, z2, z1] at k5
  rw [z3, z2, z1] at k4
  rw [z2, z1] at k3
  rw [z1] at k2
  refine ⟨?_, ?_, (((k1.alloc _).alloc _).alloc _).alloc _, ((k2.alloc _).alloc _).alloc _, (k3.alloc _).alloc _, k4.alloc _, k5⟩
  · rw [World.size_alloc, z4, z3, z2, z1]
  · exact (((two_below w _ _).alloc (by rw [z2, z1]; omega) _).alloc (by rw [z3, z2, z1]; omega) _).alloc (by rw [z4, z3, z2, z1]; omega) _

set_option maxRecDepth 100000 in
set_option maxHeartbeats 2000000 in
theorem iAdd_loop (d : Int) (m : Nat) (ao : Option Addr) (c : Nat) (zs : List Int) (w : World) (hx : IntsAt w ao zs) (h1 : zs.length ≤ 1099511627776) (hd : dOk d = true) (ho : offOk zs = true) (hm0 : 1 ≤ m) (hm : m ≤ 400) :
    CallsIn Fence.wide 6 Tryd.prog 55 #[.int .i64 d, .int .i64 m, .slice ao zs.length c] w fun e w' => e = .returned (.tuple #[.int .i64 ((adv zs (80000 - d).toNat m).getD 0), .bool (adv zs (80000 - d).toNat m).isSome]) ∧ Below w.heap.size w w' := by
  have HX : Hid (IntsAt w ao zs) := hx
  clear hx
  have hm1 : ¬ (m : Int) < 0 := by omega
  have hm2 : ¬ (400 : Int) < (m : Int) := by omega
  have hm3 : ((m : Int) == 0) = false := by simp; omega
  refine callsIn_of_wp_marks Tryd.func55 rfl trivial ?_ rfl
  simp only [Tryd.ntmps55, List.size_toArray, List.length_cons, List.length_nil, Nat.reduceAdd, Nat.reduceSub, Array.replicate_succ, Array.replicate_zero, List.push_toArray, List.append_toArray, List.nil_append, List.cons_append]
  gi_wp2_with fail
  refine ⟨trivial, (callsIn_wide.2 (iDayOk_any _ _)).mono ?_⟩
  rintro e w1 ⟨rfl, hw1⟩
  subst hw1
  gi_wp2_with fail
  refine ⟨trivial, (callsIn_wide.2 (iOk_any _ _ zs _ (IntsAt.below HX.out (two_below w _ _)) h1)).mono ?_⟩
  rintro e w1 ⟨rfl, hw1⟩
  subst hw1
  gi_wp2_with fail
  refine ⟨trivial, (callsIn_wide.2 (workBehind_any _ _ _ _ _)).mono ?_⟩
  rintro e w1 ⟨rfl, hw1⟩
  subst hw1
  gi_wp2_with fail
  obtain ⟨W0, hW0⟩ : ∃ W0, (((((w.alloc (.cells #[.int .i64 0] 3)).alloc (.cells #[.bool false] 4)).alloc (.cells #[.int .i64 m] 3)).alloc (.cells #[.slice ao zs.length c] 52)).alloc (.cells #[.int .i64 d] 3)) = W0 := ⟨_, rfl⟩
  obtain ⟨hsz, hB0, k1, k2, k3, k4, k5⟩ := five w m ao zs.length c d W0 hW0.symm
  rw [hW0]
  clear hW0
  have HZ : IntsIn w.heap.size W0 ao zs := (IntsAt.in HX.out).keep hB0
  refine wpIn_rangeFunc_ownF (α := Int) rfl (by omega) (gf := 77) (lb := #[.pointer (some ⟨w.heap.size + 1 + 1 + 1 + 1, 0, none⟩), .pointer (some ⟨w.heap.size + 1 + 1 + 1, 0, none⟩)]) rfl trivial (enters_of Tryd.func77 (by kernel_rfl) rfl)
    (behind_stops 5 (by omega) (w.heap.size + 1 + 1 + 1 + 1) (w.heap.size + 1 + 1 + 1) w.heap.size c ao zs d W0 hd ho (by omega) (by omega) (by omega) k5.1 k4.1 HZ) keep_t (keep_b (by omega)) (Below.refl _ _) (fun _ => rfl)
    (fun pre W => (pre.length < m ∧ Cl W (w.heap.size + 1 + 1) (.int .i64 ((m : Int) - pre.length)) ∧ Cl W w.heap.size (.int .i64 0) ∧ Cl W (w.heap.size + 1) (.bool false)) ∧ Below w.heap.size w W)
    (fun cd pre W => (cd = .ret ∧ ∃ (p : List Int) (x : Int), pre = p ++ [x] ∧ pre.length = m ∧ Cl W w.heap.size (.int .i64 x) ∧ Cl W (w.heap.size + 1) (.bool true)) ∧ Below w.heap.size w W)
    (OwnFrom.and (Own.from (fun s A B row hs hg hr => ⟨hs.1, hs.2.1.kept hg hr, hs.2.2.1.kept hg hr, hs.2.2.2.kept hg hr⟩) _) (ownFrom_below (Nat.le_refl _) (by omega)))
    (fun cd => OwnFrom.and (Own.from (fun s A B row hs hg hr => by obtain ⟨e1, p, x, e2, e3, e4, e5⟩ := hs; exact ⟨e1, p, x, e2, e3, e4.kept hg hr, e5.kept hg hr⟩) _) (ownFrom_below (Nat.le_refl _) (by omega)))
    ⟨⟨by simp; omega, by simpa using k3, k1, k2⟩, hB0⟩
    (fun x => { tmps := #[.int .i64 d, .int .i64 m, .slice ao zs.length c, undef, undef, undef, .pointer (some ⟨w.heap.size, 0, none⟩), .pointer (some ⟨w.heap.size + 1, 0, none⟩), .slice ao zs.length c, .pointer (some ⟨w.heap.size + 1 + 1, 0, none⟩), .int .i64 x, .slice ao zs.length c, .int .i64 d, .bool true, .bool false, .bool false, .int .i64 m, .bool (decide ((m : Int) < 0)), .bool (decide ((m : Int) < 0)), .bool (decide ((m : Int) < 0)), .int .i64 m, .bool (decide ((400 : Int) < (m : Int))), .bool (decide ((m : Int) < 0) || decide ((400 : Int) < (m : Int))), .bool (decide ((m : Int) < 0) || decide ((400 : Int) < (m : Int))), .slice ao zs.length c, .bool true, .bool false, .bool (decide ((m : Int) < 0) || decide ((400 : Int) < (m : Int))), .int .i64 m, .bool false, undef, .int .i64 m, .slice ao zs.length c, .int .i64 d, .func (.func 77) #[] #[.pointer (some ⟨w.heap.size + 1 + 1 + 1 + 1, 0, none⟩), .pointer (some ⟨w.heap.size + 1 + 1 + 1, 0, none⟩)], .int .i64 x, undef, undef, undef, undef, undef], defers := [] }) ?assign ?body ?done ?stop
  case assign =>
    intro l x W K hK
    have hsm := Oper.semAt_some
    gi_wp2
    exact hK
  case body =>
    rintro l pre x W ⟨⟨hlen, kl, ka, kb⟩, hB⟩ _
    obtain ⟨v, hv⟩ : ∃ v : Int, (m : Int) - pre.length = v := ⟨_, rfl⟩
    rw [hv] at kl
    have hv1 : 1 ≤ v := by omega
    have hv2 : v ≤ 400 := by omega
    have HV : Hid _ := hv
    have kl1 := kl.1
    have kl2 := kl.2
    have ka1 := ka.1
    have ka2 := ka.2
    have kb1 := kb.1
    have kb2 := kb.2
    clear hv
    cases he : (v - 1 == 0)
    · have hne : v ≠ 1 := by intro h; subst h; simp at he
      have hsm := Oper.semAt_some
      gi_wp2
      exact ⟨KeepsOthers.setCell _ _ _, keep_set W _ (by omega) (by omega), ⟨by have := HV.out; simp; omega, by rw [show (m : Int) - (pre ++ [x]).length = v - 1 from by have := HV.out; simp; omega]; exact kl.same, ka.other (by omega), kb.other (by omega)⟩, bel_set hB (by omega) _⟩
    · have hve : v = 1 := by have : v - 1 = 0 := by simpa using he
                             omega
      have hsm := Oper.semAt_some
      gi_wp2
      refine ⟨((KeepsOthers.setCell _ _ _).trans (KeepsOthers.setCell _ _ _)).trans (KeepsOthers.setCell _ _ _), ⟨rfl, pre, x, rfl, by have := HV.out; simp; omega, ((ka.other (by omega)).same).other (by omega), ((kb.other (by omega)).other (by omega)).same⟩, ?_⟩
      exact bel_set (bel_set (bel_set hB (by omega) _) (Nat.le_refl _) _) (by omega) _
  case done =>
    rintro D ys W hD rfl ⟨⟨hlen, kl, ka, kb⟩, hB⟩ hK
    have HN : Hid _ := adv_none hm0 hlen
    have ka1 := ka.1
    have ka2 := ka.2
    have kb1 := kb.1
    have kb2 := kb.2
    gi_wp2
    have hK' := (KeepsOthers.setCell (W.setCell ⟨w.heap.size, 0, none⟩ (.int .i64 0)) ⟨w.heap.size + 1, 0, none⟩ (.bool false)).same D _ ((KeepsOthers.setCell W ⟨w.heap.size, 0, none⟩ (.int .i64 0)).same D _ hK rfl) rfl
    refine ⟨by simp, .inl ⟨_, _, rfl, run_takeDeferred hK', ?_⟩⟩
    have qa := (((ka.same (u := .int .i64 0)).other (j := w.heap.size + 1) (u := .bool false) (by omega)).put (o' := .deferred none) hK' rfl).1
    have qb := (((kb.other (j := w.heap.size) (u := .int .i64 0) (by omega)).same (u := .bool false)).put (o' := .deferred none) hK' rfl).1
    refine ⟨.tuple #[.int .i64 0, .bool false], ?_, by rw [HN.out]; rfl, (bel_set (bel_set hB (Nat.le_refl _) _) (by omega) _).trans (belowK_b (w := w) (Nat.le_refl _) _ D _ _ (by omega) hK' rfl rfl)⟩
    simp [results, Tryd.f55, go_sem, qa, qb]
  case stop =>
    rintro D cd pre W hD hpre ⟨⟨rfl, p, x, rfl, hlen, ka, kb⟩, hB⟩ hK
    have HN : Hid _ := adv_pre hpre hlen
    gi_wp2
    refine ⟨by simp, .inl ⟨_, _, rfl, run_takeDeferred hK, ?_⟩⟩
    have qa := (ka.put (o' := .deferred none) hK rfl).1
    have qb := (kb.put (o' := .deferred none) hK rfl).1
    refine ⟨.tuple #[.int .i64 x, .bool true], ?_, by rw [HN.out]; rfl, hB.trans (belowK_b (w := w) (Nat.le_refl _) W D _ _ (by omega) hK rfl rfl)⟩
    simp [results, Tryd.f55, go_sem, qa, qb]

theorem iAdd_any (d n : Int) (ao : Option Addr) (c : Nat) (zs : List Int) (w : World) (hx : IntsAt w ao zs) (h1 : zs.length ≤ 1099511627776) :
    Calls Tryd.prog 55 #[.int .i64 d, .int .i64 n, .slice ao zs.length c] w fun e w' => e = .returned (.tuple #[.int .i64 ((addV d n zs).getD 0), .bool (addV d n zs).isSome]) ∧ Below w.heap.size w w' := by
  by_cases h : dOk d = false ∨ n < 0 ∨ 400 < n ∨ offOk zs = false
  · rw [addV_no h]; exact iAdd_no d n ao c zs w hx h1 h
  · have hd : dOk d = true := by cases e : dOk d; exact absurd (.inl e) h; rfl
    have ho : offOk zs = true := by cases e : offOk zs; exact absurd (.inr (.inr (.inr e))) h; rfl
    obtain ⟨m, rfl⟩ := Int.eq_ofNat_of_zero_le (show 0 ≤ n by omega)
    rw [addV_yes hd (by omega) (by omega) ho, show ((m : Int)).toNat = m from by omega]
    cases m with
    | zero =>
      have hb := dOk_bd hd
      rw [adv_zero, show 80000 - (((80000 - d).toNat : Nat) : Int) = d from by omega]
      exact iAdd_zero d ao c zs w hx h1 hd ho
    | succ m => exact callsIn_wide.1 (iAdd_loop d (m + 1) ao c zs w hx h1 hd ho (by omega) (by omega))

end Go.Proofs.YtenbhmmknejcjaaDoor
