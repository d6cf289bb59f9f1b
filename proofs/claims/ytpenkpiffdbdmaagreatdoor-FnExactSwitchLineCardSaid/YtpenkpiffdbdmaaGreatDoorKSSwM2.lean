/- The table of sorts is filled, in whatever order; what it says. -/
import Derived.Test.YtpenkpiffdbdmaaGreatDoorJS1a
namespace Go.Proofs.YtpenkpiffdbdmaaGreatDoor
open Go.RowKit Go.Maps
set_option maxRecDepth 100000

/-- which operations have come up: the table is made, the keys are built, of the entries those that the bits of m say -/
def swBits (m : Nat) : List Bool := [true, true, m.testBit 0, true, m.testBit 1, true, m.testBit 2, true, m.testBit 3, true, m.testBit 4, true, m.testBit 5, true, m.testBit 6, true, m.testBit 7, false, false]
def swDone (m k : Nat) : Bool := m.testBit k
def swCnt (m : Nat) : Nat := ((List.range 8).filter (m.testBit ·)).length
def swLeft (m : Nat) : List Nat := ((List.range 8).filter (!m.testBit ·)).map (2 + 2 * ·)
theorem swCnt_up : ∀ m, m < 256 → ∀ k, k < 8 → m.testBit k = false → swCnt (m ||| 2 ^ k) = swCnt m + 1 ∧ m ||| 2 ^ k < 256 ∧ (swBits m).toArray.setIfInBounds (2 + 2 * k) true = (swBits (m ||| 2 ^ k)).toArray := by
  have h : ((List.range 256).all fun m => (List.range 8).all fun k => m.testBit k || (decide (swCnt (m ||| 2 ^ k) = swCnt m + 1) && decide (m ||| 2 ^ k < 256) && decide ((swBits m).toArray.setIfInBounds (2 + 2 * k) true = (swBits (m ||| 2 ^ k)).toArray))) = true := by kernel_rfl
  intro m hm k hk hb
  have := List.all_eq_true.1 (List.all_eq_true.1 h m (List.mem_range.2 hm)) k (List.mem_range.2 hk)
  rw [hb] at this
  simp only [Bool.false_or, Bool.and_eq_true, decide_eq_true_eq] at this
  exact ⟨this.1.1, this.1.2, this.2⟩
theorem swCnt_all : ∀ m, m < 256 → swCnt m = 8 → m = 255 := by
  have h : ((List.range 256).all fun m => !decide (swCnt m = 8) || decide (m = 255)) = true := by kernel_rfl
  intro m hm hc
  have := List.all_eq_true.1 h m (List.mem_range.2 hm)
  rw [decide_eq_true hc] at this
  simpa using this
theorem swLeft_ne : ∀ m, m < 256 → swCnt m < 8 → swLeft m ≠ [] := by
  have h : ((List.range 256).all fun m => decide (swCnt m = 8) || !(swLeft m).isEmpty) = true := by kernel_rfl
  intro m hm hc
  have := List.all_eq_true.1 h m (List.mem_range.2 hm)
  rw [decide_eq_false (by omega)] at this
  intro e
  rw [e] at this
  simp at this
theorem sw_or {m k j : Nat} : (m ||| 2 ^ k).testBit j = if j = k then true else m.testBit j := by
  rw [Nat.testBit_or, Nat.testBit_two_pow]
  by_cases h : j = k
  · simp [h]
  · simp [h, Ne.symm h]

/-- an entry of a map literal, at the operation, in whatever order -/
theorem wpOp_insert {P : Program} {ops : Array Oper} {Q : Exit → Act → World → Prop} {K : Act → World → Prop} {i : Nat} {o : Oper} {a : Act} {w w' : World} {t : TypeId} {m x v : Operand} (hi : ops[i]? = some o) (hg : o.guard = none) (hop : o.op = Op.insert t m x v)
    {M key val : Value} (hm : a.eval m = M) (hx : a.eval x = key) (hv : a.eval v = val) (hrun : (Instr.mapUpdate t M key val).run P w = .ok () w') (h : K (a.put o.dst undef) w') : wpOp P ops Q i K a w := by
  unfold wpOp
  simp only [hi, Region.wanted, hg, if_true]
  left
  unfold Oper.wp
  simp [execOp, hop, hm, hx, hv, hrun, Result.andThen]
  exact h

theorem sw_fill {ops : Array Oper} {Q : Exit → Act → World → Prop} {A : Act} {X : Nat} {G : World → Prop}
    (hready : ∀ m, m < 255 → Region.ready .any ops (swBits m).toArray = swLeft m)
    (hop : ∀ k, k < 8 → ∃ o mm x v, ops[2 + 2 * k]? = some o ∧ o.guard = none ∧ o.op = Op.insert 65 mm x v ∧ A.eval mm = .map (some X) ∧ A.eval x = .agg #[.int .i64 (swKey k).1, .int .i64 (swKey k).2] ∧ A.eval v = .func (.func (swF k)) #[] #[] ∧ A.put o.dst undef = A)
    (hG : ∀ u u', G u → u.grownBy u' (some X) → G u')
    (hend : ∀ u n, SwMap u X n (fun k => (255 : Nat).testBit k) → G u → wpAnyH Tryz.prog .any ops Q (fun _ => True) 2 (swBits 255).toArray A u) :
    ∀ r m u n, m < 256 → swCnt m + r = 8 → n + r ≤ 8 → SwMap u X n (fun k => m.testBit k) → G u → wpAnyH Tryz.prog .any ops Q (fun _ => True) (r + 2) (swBits m).toArray A u := by
  intro r
  induction r with
  | zero =>
    intro m u n hm hc _ hmap hg
    obtain rfl := swCnt_all m hm hc
    exact hend u n hmap hg
  | succ r ih =>
    intro m u n hm hc hn hmap hg
    have hlt : swCnt m < 8 := by omega
    have hm' : m < 255 := by
      rcases Nat.lt_or_ge m 255 with h | h
      · exact h
      · obtain rfl : m = 255 := by omega
        exact absurd hlt (by decide)
    refine wpAnyH_all (hready m hm') (swLeft_ne m hm hlt) fun i hi => ?_
    obtain ⟨k, hk, rfl⟩ := List.mem_map.1 hi
    obtain ⟨hk8, hkb⟩ := List.mem_filter.1 hk
    have hk8' := List.mem_range.1 hk8
    have hkb' : m.testBit k = false := by simpa using hkb
    obtain ⟨o, mm, x, v, h1, h2, h3, h4, h5, h6, h7⟩ := hop k hk8'
    obtain ⟨u', hrun, hmap', hgr⟩ := hmap.put hk8' (by omega)
    obtain ⟨c1, c2, c3⟩ := swCnt_up m hm k hk8' hkb'
    refine wpOp_insert h1 h2 h3 h4 h5 h6 hrun ⟨trivial, ?_⟩
    rw [h7, c3]
    refine ih (m ||| 2 ^ k) u' (n + 1) c2 (by omega) (by omega) ?_ (hG u u' hg hgr)
    obtain ⟨D, d1, d2⟩ := hmap'
    refine ⟨D, d1, fun a c ha hc' => ?_⟩
    obtain ⟨e1, e2⟩ := d2 a c ha hc'
    constructor
    · rw [e1]
      cases hs : swSort a c with
      | none => rfl
      | some j => exact sw_or.symm
    · intro j hj hd
      exact e2 j hj (sw_or.symm.trans hd)

theorem sw_ready {ops : Array Oper} (h : ((List.range 255).all fun m => decide (Region.ready .any ops (swBits m).toArray = swLeft m)) = true) : ∀ m, m < 255 → Region.ready .any ops (swBits m).toArray = swLeft m := fun m hm =>
  of_decide_eq_true (List.all_eq_true.1 h m (List.mem_range.2 hm))
theorem sw_cast {P : Program} {md : Region.Mode} {ops : Array Oper} {Q : Exit → Act → World → Prop} {S : World → Prop} {l l' : Array Bool} {f f' : Nat} {a : Act} {w : World} (hl : l = l') (hf : f = f') (h : wpAnyH P md ops Q S f' l' a w) : wpAnyH P md ops Q S f l a w := by
  subst hl; subst hf; exact h

set_option maxHeartbeats 3200000 in
theorem swWords_any (kd cd : Int) (w : World) (hk : wfI kd) (hc : wfI cd) :
    Calls Tryz.prog 20 #[.agg #[.int .i64 kd, .int .i64 cd]] w fun e w' => ∃ v, e = .returned (.tuple #[v, .bool (swSort kd cd).isSome]) ∧ (∀ k, swSort kd cd = some k → v = .func (.func (swF k)) #[] #[]) ∧ Below w.heap.size w w' := by
  have hmm := @run_makeMap Tryz.prog
  go_enter Tryz.func20, Tryz.ntmps20
  go_upto_region 1 with fail
  refine wp_region_held_drew (S := fun _ => True) (by kernel_rfl) trivial (fun hHeld => ?_)
  (refine wpAnyH_take (i := 1) (oi := _) (v := ?vq1) (by simp only [List.getElem?_toArray, List.getElem?_cons_succ, List.getElem?_cons_zero]; rfl) (by kernel_rfl) (by kernel_rfl) (by kernel_rfl) ?hq1 (Or.inl ⟨by rfl, ?yq1⟩) trivial ?rq1; (case hq1 => exact (fun _ _ _ h => h)); (case yq1 => (intro w hSw; go_simp; (try with_reducible rfl))))
  (refine wpAnyH_take (i := 3) (oi := _) (v := ?vq2) (by simp only [List.getElem?_toArray, List.getElem?_cons_succ, List.getElem?_cons_zero]; rfl) (by kernel_rfl) (by kernel_rfl) (by kernel_rfl) ?hq2 (Or.inl ⟨by rfl, ?yq2⟩) trivial ?rq2; (case hq2 => exact (fun _ _ _ h => h)); (case yq2 => (intro w hSw; go_simp; (try with_reducible rfl))))
  (refine wpAnyH_take (i := 5) (oi := _) (v := ?vq3) (by simp only [List.getElem?_toArray, List.getElem?_cons_succ, List.getElem?_cons_zero]; rfl) (by kernel_rfl) (by kernel_rfl) (by kernel_rfl) ?hq3 (Or.inl ⟨by rfl, ?yq3⟩) trivial ?rq3; (case hq3 => exact (fun _ _ _ h => h)); (case yq3 => (intro w hSw; go_simp; (try with_reducible rfl))))
  (refine wpAnyH_take (i := 7) (oi := _) (v := ?vq4) (by simp only [List.getElem?_toArray, List.getElem?_cons_succ, List.getElem?_cons_zero]; rfl) (by kernel_rfl) (by kernel_rfl) (by kernel_rfl) ?hq4 (Or.inl ⟨by rfl, ?yq4⟩) trivial ?rq4; (case hq4 => exact (fun _ _ _ h => h)); (case yq4 => (intro w hSw; go_simp; (try with_reducible rfl))))
  (refine wpAnyH_take (i := 9) (oi := _) (v := ?vq5) (by simp only [List.getElem?_toArray, List.getElem?_cons_succ, List.getElem?_cons_zero]; rfl) (by kernel_rfl) (by kernel_rfl) (by kernel_rfl) ?hq5 (Or.inl ⟨by rfl, ?yq5⟩) trivial ?rq5; (case hq5 => exact (fun _ _ _ h => h)); (case yq5 => (intro w hSw; go_simp; (try with_reducible rfl))))
  (refine wpAnyH_take (i := 11) (oi := _) (v := ?vq6) (by simp only [List.getElem?_toArray, List.getElem?_cons_succ, List.getElem?_cons_zero]; rfl) (by kernel_rfl) (by kernel_rfl) (by kernel_rfl) ?hq6 (Or.inl ⟨by rfl, ?yq6⟩) trivial ?rq6; (case hq6 => exact (fun _ _ _ h => h)); (case yq6 => (intro w hSw; go_simp; (try with_reducible rfl))))
  (refine wpAnyH_take (i := 13) (oi := _) (v := ?vq7) (by simp only [List.getElem?_toArray, List.getElem?_cons_succ, List.getElem?_cons_zero]; rfl) (by kernel_rfl) (by kernel_rfl) (by kernel_rfl) ?hq7 (Or.inl ⟨by rfl, ?yq7⟩) trivial ?rq7; (case hq7 => exact (fun _ _ _ h => h)); (case yq7 => (intro w hSw; go_simp; (try with_reducible rfl))))
  (refine wpAnyH_take (i := 15) (oi := _) (v := ?vq8) (by simp only [List.getElem?_toArray, List.getElem?_cons_succ, List.getElem?_cons_zero]; rfl) (by kernel_rfl) (by kernel_rfl) (by kernel_rfl) ?hq8 (Or.inl ⟨by rfl, ?yq8⟩) trivial ?rq8; (case hq8 => exact (fun _ _ _ h => h)); (case yq8 => (intro w hSw; go_simp; (try with_reducible rfl))))
  simp only [Act.put, List.setIfInBounds_toArray]
  refine wpAnyH_ready (rs := [0]) (by kernel_rfl) (by simp) ?_
  refine AllReadyH.cons (o := _) rfl (fun K hK => ?_) AllReadyH.nil
  go_simp
  refine hK.out _ _ trivial (fun hHeld => ?_)
  clear hK K hHeld
  have bel0 : Below w.heap.size w (w.alloc (.cells #[.int .i64 kd, .int .i64 cd] 49)) := (Below.refl _ _).alloc (Nat.le_refl _) _
  have hmap0 : SwMap (((w.alloc (.cells #[.int .i64 kd, .int .i64 cd] 49)).alloc (.map #[] 0)).drew) (w.heap.size + 1) 0 (fun k => (0 : Nat).testBit k) := by
    obtain ⟨D, d1, d2⟩ := swMap_new (w.alloc (.cells #[.int .i64 kd, .int .i64 cd] 49))
    refine ⟨D, by simpa using d1.drew, fun a c ha hc' => ?_⟩
    obtain ⟨e1, e2⟩ := d2 a c ha hc'
    refine ⟨?_, fun k hk hd => by simp at hd⟩
    rw [e1]
    cases swSort a c <;> simp
  refine sw_cast (l' := (swBits 0).toArray) (f' := 8 + 2) (by kernel_rfl) (by kernel_rfl) ?_
  refine sw_fill (X := w.heap.size + 1) (G := fun u => Below (w.heap.size + 1) (w.alloc (.cells #[.int .i64 kd, .int .i64 cd] 49)) u) (sw_ready (by kernel_rfl)) ?hop ?hG ?hend 8 0 _ 0 (by decide) (by decide) (by decide) hmap0 ?hg0
  case hop =>
    intro k hk
    rcases (show k = 0 ∨ k = 1 ∨ k = 2 ∨ k = 3 ∨ k = 4 ∨ k = 5 ∨ k = 6 ∨ k = 7 by omega) with rfl | rfl | rfl | rfl | rfl | rfl | rfl | rfl <;> exact ⟨_, _, _, _, rfl, rfl, rfl, rfl, rfl, rfl, rfl⟩
  case hG =>
    intro u u' hb hg
    exact hb.grown hg (by have := hb.size; simp at this; omega) (fun j hj => by cases hj; exact Nat.le_refl _)
  case hg0 => exact ((Below.refl (w.heap.size + 1) (w.alloc (.cells #[.int .i64 kd, .int .i64 cd] 49))).alloc (by simp) _).drew
  case hend =>
    intro u n hmap hb
    obtain ⟨v, hlook, hv⟩ := hmap.look (fun k hk8 => by rcases (show k = 0 ∨ k = 1 ∨ k = 2 ∨ k = 3 ∨ k = 4 ∨ k = 5 ∨ k = 6 ∨ k = 7 by omega) with rfl | rfl | rfl | rfl | rfl | rfl | rfl | rfl <;> rfl) hk hc
    have HV : Hid (∀ k, swSort kd cd = some k → v = .func (.func (swF k)) #[] #[]) := hv
    have HB : Hid (Below w.heap.size w u) := bel0.trans (hb.mono (by simp))
    have c0 : u.cell? ⟨w.heap.size, 0, none⟩ = some (.int .i64 kd) := (hb.cell (p := ⟨w.heap.size, 0, none⟩) (by simp)).trans (by simp [go_sem])
    have c1 : u.cell? ⟨w.heap.size, 1, none⟩ = some (.int .i64 cd) := (hb.cell (p := ⟨w.heap.size, 1, none⟩) (by simp)).trans (by simp [go_sem])
    obtain ⟨S, hS⟩ : ∃ x, (swSort kd cd).isSome = x := ⟨_, rfl⟩
    rw [hS] at hlook
    have HS : Hid ((swSort kd cd).isSome = S) := hS
    clear hv hmap hb hmap0 bel0 hmm hS hHeld
    refine wpAnyH_ready (rs := [17]) (by kernel_rfl) (by simp) ?_
    refine AllReadyH.cons (o := _) rfl (fun K hK => ?_) AllReadyH.nil
    go_simp
    refine hK.out _ _ trivial (fun hHeld => ?_)
    clear hK K hHeld
    refine wpAnyH_ready (rs := [18]) (by kernel_rfl) (by simp) ?_
    refine AllReadyH.cons (o := _) rfl (fun K hK => ?_) AllReadyH.nil
    go_simp
    refine hK.out _ _ trivial (fun hHeld => ?_)
    clear hK K hHeld
    refine wpAnyH_done (by kernel_rfl) ?_ _
    go_wp2
    go_ret2
    exact ⟨v, by rw [HS.out]; rfl, HV.out, HB.out⟩

end Go.Proofs.YtpenkpiffdbdmaaGreatDoor
