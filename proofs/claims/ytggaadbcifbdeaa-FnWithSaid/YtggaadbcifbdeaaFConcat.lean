/- The library's slices.Grow (at nil) and slices.Concat (of three), at slices of fields. -/
import Derived.Test.YtggaadbcifbdeaaMsgOwn
import Derived.Lib.AppendZeros
import Derived.Maps.AppendAt
import Derived.Deep.AppendLies
namespace Go.Proofs.Ytggaadbcifbdeaa
open Go.RowKit
set_option maxRecDepth 100000

theorem flds_news {w : World} {b off : Nat} {xs : List Fld} (h : FldsAt w (some ⟨b, off, none⟩) xs) : ∀ j u, (fcells xs)[j]? = some u → w.cell? ((⟨b, off, none⟩ : Addr).add j) = some u := by
  intro j u hj
  have hlt : j < xs.length * 2 := by
    rw [← fcells_len]
    exact (List.getElem?_eq_some_iff.1 hj).1
  rcases h with rfl | ⟨b', off', hq, hb, hc⟩
  · simp at hlt
  · obtain ⟨rfl, rfl⟩ : b = b' ∧ off = off' := by simpa using hq
    have e : ((⟨b, off, none⟩ : Addr).add j) = ⟨b, off + j, none⟩ := by unfold Addr.add; split <;> simp_all
    have hk := hc (j / 2) (by omega)
    have hf := fcells_at xs (j / 2) (by omega)
    rw [e]
    rcases Nat.mod_two_eq_zero_or_one j with m | m
    · have hj' : j = j / 2 * 2 := by omega
      rw [hj', hf.1] at hj
      rw [hj', hk.1]; exact hj
    · have hj' : j = j / 2 * 2 + 1 := by omega
      rw [hj', hf.2] at hj
      rw [hj', ← Nat.add_assoc, hk.2]; exact hj

theorem zeroC (n : Nat) : (Builtin.zeroCells (Value.agg #[.int .i64 0, .string ⟨#[]⟩]).cells n).size = n * 2 := by rw [size_zeroCells]; rfl

set_option maxHeartbeats 800000 in
theorem growF_nil (n : Nat) (w : World) (h0 : 0 < n) (hn : n ≤ 4194304) :
    Calls Try.prog 28 #[.slice none 0 0, .int .i64 n] w fun e w' => ∃ cap, e = .returned (.slice (some ⟨w.heap.size, 0, none⟩) 0 cap) ∧
      w'.ownsRow w.heap.size 35 2 (.slice (some ⟨w.heap.size, 0, none⟩) 0 cap) 0 [] ∧ Below w.heap.size w w' := by
  obtain ⟨i0, hi, hz0, hz1, hz2⟩ := info_parts infoF
  have hge := grownCap_ge w n 0 35
  have hcm := grownCap_le_maxLen w n 0 35 (by unfold maxLen; omega)
  have hr := fun ty => Lib.run_append_nil_zeros (P := Try.prog) w 24 3 ty 35 i0 _ .i64 .i64 Try.underlying24 Try.underlying3 hi hz0 n h0 (by omega) (by omega) (by rw [hz2]; omega)
  obtain ⟨cap, hcap⟩ : ∃ c, grownCap w n 0 35 = c := ⟨_, rfl⟩
  rw [hcap] at hge hcm
  have hO : (w.drew.alloc (.cells (Builtin.zeroCells (Value.agg #[.int .i64 0, .string ⟨#[]⟩]).cells n ++ Builtin.zeroCells (Value.agg #[.int .i64 0, .string ⟨#[]⟩]).cells (cap - n)) 35)).ownsRow w.heap.size 35 2 (.slice (some ⟨w.heap.size, 0, none⟩) 0 cap) 0 [] :=
    World.ownsRow_made w.drew _ cap (Nat.le_refl _) hcm (by rw [Array.size_append, zeroC, zeroC, ← Nat.add_mul]; congr 1; omega)
  have HO : Hid ((w.drew.alloc (.cells (Builtin.zeroCells (Value.agg #[.int .i64 0, .string ⟨#[]⟩]).cells n ++ Builtin.zeroCells (Value.agg #[.int .i64 0, .string ⟨#[]⟩]).cells (cap - n)) 35)).ownsRow w.heap.size 35 2 (.slice (some ⟨w.heap.size, 0, none⟩) 0 cap) 0 []) := hO
  have hle : 0 ≤ cap := Nat.zero_le _
  have hcm' : cap ≤ 9223372036854775807 := by unfold maxLen at hcm; omega
  have hr2 := fun ty => hr ty
  rw [hcap] at hr2
  go_enter Try.func28, Try.ntmps28
  clear hr hcap hO hge hcm
  go_wp2_with (at_builtin; refine Lib.wpList_append_run _ rfl _ _ _ _ rfl _ _ rfl rfl _ _ (hr2 _) ?_)
  go_ret
  exact ⟨cap, rfl, HO.out, by go_grown⟩

theorem run_append_fl (w : World) (base : Nat) (ty : TypeId) (v : Value) (n : Nat) (xs : List Value) (hown : w.ownsRow base 35 2 v n xs) (ao : Option Addr) (c : Nat) (fs : List Fld) (hz : FldsAt w ao fs)
    (hn : n + fs.length ≤ 5000000) (hbase : base ≤ w.heap.size) :
    ∃ v' w', (Builtin.append_ #[24, 24] ty #[v, .slice ao fs.length c]).run Try.prog w = .ok v' w' ∧ w'.ownsRow base 35 2 v' (n + fs.length) (xs ++ fcells fs) ∧ w.grownBy w' v.ownBlock ∧
      (v ≠ .slice none 0 0 → v' ≠ .slice none 0 0) ∧ (v'.ownBlock = v.ownBlock ∨ v'.ownBlock = some w.heap.size) := by
  obtain ⟨i0, hi, hz0, hz1, hz2⟩ := info_parts infoF
  cases ao with
  | none =>
    have hf : fs = [] := by
      rcases hz with h | ⟨b, off, h, _⟩
      · exact h
      · cases h
    subst hf
    refine ⟨v, w, ?_, by simpa [fcells] using hown, ⟨rfl, rfl, rfl, Nat.le_refl _, fun _ _ _ => rfl⟩, id, .inl rfl⟩
    have hu := Try.underlying24
    rcases hown.2 with ⟨rfl, rfl⟩ | ⟨g, cap, cur, rfl, hbg, hg, hnc, hcm, hcs, htake⟩
    · simp [Builtin.append_, run_underlying hu, sizeOf, typeInfo, hi, Builtin.lenOf, Builtin.firstCells]
    · simp [Builtin.append_, run_underlying hu, sizeOf, typeInfo, hi, Builtin.lenOf, Builtin.firstCells, loadCells, hnc, storeCells]
  | some a =>
    have hnews : ∀ j u, (fcells fs)[j]? = some u → w.cell? (a.add j) = some u := by
      rcases hz with rfl | ⟨b, off, hq, hb, hc⟩
      · intro j u hj; simp [fcells] at hj
      · obtain rfl : a = ⟨b, off, none⟩ := by simpa using hq
        exact flds_news (.inr ⟨b, off, rfl, hb, hc⟩)
    obtain ⟨v', w', h1, h2, h3, h4, h5⟩ := run_append_own_at (P := Try.prog) w base 24 ty 35 i0 _ 2 24 Try.underlying24 hi hz0 hz1 hz2 rfl (by decide) v n xs hown a fs.length c (fcells fs) (fcells_len fs) hnews (fcells_one fs) (by unfold maxLen; omega) (by omega) hbase
    exact ⟨v', w', h1, h2, h3, fun hne h => hne (h4.1 h).1, h5⟩

theorem wpList_append_fl {ops : Array Oper} {rest : List Oper} {o : Oper} {a : Act} {Q : Exit → Act → World → Prop} (w : World) (hgd : o.guard = none) (s x : Operand)
    (ho : o.op = .call { callee := .builtin .append, args := #[s, x], argTypes := #[24, 24] }) (base : Nat) (v : Value) (n : Nat) (xs : List Value) (hs : a.eval s = v) (hown : w.ownsRow base 35 2 v n xs)
    (ao : Option Addr) (c : Nat) (fs : List Fld) (hx : a.eval x = .slice ao fs.length c) (hz : FldsAt w ao fs) (hn : n + fs.length ≤ 5000000) (hbase : base ≤ w.heap.size)
    (h : ∀ v' w', w'.ownsRow base 35 2 v' (n + fs.length) (xs ++ fcells fs) → w.grownBy w' v.ownBlock → wpList Try.prog ops Q rest (a.put o.dst v') w') : wpList Try.prog ops Q (o :: rest) a w := by
  obtain ⟨v', w', hr, h1, h2, _⟩ := run_append_fl w base o.type v n xs hown ao c fs hz hn hbase
  exact Lib.wpList_append_run w hgd s x _ _ ho _ _ hs hx v' w' hr (h v' w' h1 h2)

/-- at a step of a region that draws its order: append of whatever slice of fields onto a row of one's own that is not nil -/
theorem step_append_fl {ops : Array Oper} {o : Oper} {a : Act} {w : World} {K : Act → World → Prop} {Q : Exit → Act → World → Prop} {E : Prop} (hgd : o.guard = none) (s x : Operand)
    (ho : o.op = .call { callee := .builtin .append, args := #[s, x], argTypes := #[24, 24] }) (base G n cap : Nat) (xs : List Value) (hs : a.eval s = .slice (some ⟨G, 0, none⟩) n cap) (hown : w.ownsRow base 35 2 (.slice (some ⟨G, 0, none⟩) n cap) n xs)
    (ao : Option Addr) (c : Nat) (fs : List Fld) (hx : a.eval x = .slice ao fs.length c) (hz : FldsAt w ao fs) (hn : n + fs.length ≤ 5000000) (hbase : base ≤ w.heap.size)
    (h : ∀ g cap' w', w'.ownsRow base 35 2 (.slice (some ⟨g, 0, none⟩) (n + fs.length) cap') (n + fs.length) (xs ++ fcells fs) → w.grownBy w' (some G) → (g = G ∨ w.heap.size ≤ g) → K (a.put o.dst (.slice (some ⟨g, 0, none⟩) (n + fs.length) cap')) w') :
    if Region.wanted o (yielded ops a.tmps) = true then Oper.wp Try.prog o a w K Q else E := by
  have hw : Region.wanted o (yielded ops a.tmps) = true := by simp [Region.wanted, hgd]
  rw [if_pos hw]
  obtain ⟨v', w', hr, h2, h3, h4, h5⟩ := run_append_fl w base o.type _ n xs hown ao c fs hz hn hbase
  have hf : ∃ g cap', v' = .slice (some ⟨g, 0, none⟩) (n + fs.length) cap' := by
    rcases h2.2 with ⟨hv, _⟩ | ⟨g, cap', cur, hv, _⟩
    · exact absurd hv (h4 (by simp))
    · exact ⟨g, cap', hv⟩
  obtain ⟨g, cap', rfl⟩ := hf
  unfold Oper.wp execOp
  simp only [ho, resolve, invoke, builtin, Sem.run_bind, Sem.run_pure, Result.andThen_ok, List.map_toArray, List.map_cons, List.map_nil, hs, hx, hr]
  refine h g cap' w' h2 h3 ?_
  rcases h5 with h5 | h5
  · left; simpa [Value.ownBlock] using h5
  · right; have : g = w.heap.size := by simpa [Value.ownBlock] using h5
    omega

/-- three slices of fields, laid side by side in a block -/
def Three (w : World) (g : Nat) (a1 : Option Addr) (c1 : Nat) (a2 : Option Addr) (c2 : Nat) (a3 : Option Addr) (c3 : Nat) (xs ys zs : List Fld) : Prop :=
  w.cell? ⟨g, 0, none⟩ = some (.slice a1 xs.length c1) ∧ w.cell? ⟨g, 1, none⟩ = some (.slice a2 ys.length c2) ∧ w.cell? ⟨g, 2, none⟩ = some (.slice a3 zs.length c3) ∧
  FldsAt w a1 xs ∧ FldsAt w a2 ys ∧ FldsAt w a3 zs
theorem Three.below {w w' : World} {g : Nat} {a1 a2 a3 : Option Addr} {c1 c2 c3 : Nat} {xs ys zs : List Fld} (h : Three w g a1 c1 a2 c2 a3 c3 xs ys zs) (hb : Below w.heap.size w w') : Three w' g a1 c1 a2 c2 a3 c3 xs ys zs := by
  obtain ⟨h1, h2, h3, h4, h5, h6⟩ := h
  have hg : g < w.heap.size := World.block_lt_of_cell? w _ h1
  exact ⟨(hb.cell (p := ⟨g, 0, none⟩) hg).trans h1, (hb.cell (p := ⟨g, 1, none⟩) hg).trans h2, (hb.cell (p := ⟨g, 2, none⟩) hg).trans h3, h4.below hb, h5.below hb, h6.below hb⟩

set_option maxHeartbeats 1600000 in
theorem concatF_any (g : Nat) (a1 : Option Addr) (c1 : Nat) (a2 : Option Addr) (c2 : Nat) (a3 : Option Addr) (c3 : Nat) (xs ys zs : List Fld) (w : World) (h : Three w g a1 c1 a2 c2 a3 c3 xs ys zs) (hy : 0 < ys.length) (hx : xs.length ≤ 1048576) (hy2 : ys.length ≤ 1048576) (hz2 : zs.length ≤ 1048576) :
    Calls Try.prog 19 #[.slice (some ⟨g, 0, none⟩) 3 3] w fun e w' => ∃ v, e = .returned v ∧
      w'.ownsRow w.heap.size 35 2 v (xs.length + ys.length + zs.length) (fcells (xs ++ ys ++ zs)) ∧ Below w.heap.size w w' := by
  have HT : Hid (Three w g a1 c1 a2 c2 a3 c3 xs ys zs) := h
  obtain ⟨e1, e2, e3, _, _, _⟩ := h
  go_enter Try.func19, Try.ntmps19
  go_wp2
  refine wp_loop_rounds 4 ?_
  rw [rounds_succ]
  go_wp2
  rw [rounds_succ]
  go_wp2
  rw [rounds_succ]
  go_wp2
  rw [rounds_succ]
  go_wp2_with fail
  rw [show (xs.length : Int) + (ys.length : Int) + (zs.length : Int) = ((xs.length + ys.length + zs.length : Nat) : Int) by omega]
  refine (growF_nil _ _ (by omega) (by omega)).mono ?_
  rintro e w1 ⟨cap, rfl, h1, q1⟩
  obtain ⟨e4, e5, e6, f1, f2, f3⟩ := HT.out.below q1
  have N1 : Hid _ := f1
  have HO1 : Hid (w1.ownsRow w.heap.size 35 2 (.slice (some ⟨w.heap.size, 0, none⟩) 0 cap) 0 []) := h1
  have hs1 := q1.size
  clear e1 e2 e3 h1 f1 f2 f3
  go_wp2
  refine wp_loop_rounds 4 ?_
  rw [rounds_succ]
  go_wp2_with (at_builtin; refine wpList_append_fl _ rfl (.tmp 31) (.tmp 32) rfl w.heap.size _ 0 _ rfl HO1.out a1 c1 xs rfl N1.out (by omega) hs1 ?_; intro v2 w2 o2 g2)
  have q2 : Below w.heap.size w w2 := q1.grown g2 hs1 (fun k hk => (HO1.out.lt k hk).1)
  obtain ⟨_, d2, d3, f1, f2, f3⟩ := HT.out.below q2
  have N2 : Hid _ := f2
  have HO2 : Hid (w2.ownsRow w.heap.size 35 2 v2 (0 + xs.length) ([] ++ fcells xs)) := o2
  have hs2 := q2.size
  clear e4 e5 e6 f1 f2 f3 N1 o2 g2 HO1 hs1
  go_wp2
  rw [rounds_succ]
  go_wp2_with (at_builtin; refine wpList_append_fl _ rfl (.tmp 31) (.tmp 32) rfl w.heap.size _ _ _ rfl HO2.out a2 c2 ys rfl N2.out (by omega) hs2 ?_; intro v3 w3 o3' g3)
  have q3 : Below w.heap.size w w3 := q2.grown g3 hs2 (fun k hk => (HO2.out.lt k hk).1)
  obtain ⟨_, _, i3, f1, f2, f3⟩ := HT.out.below q3
  have N3 : Hid _ := f3
  have HO3 : Hid (w3.ownsRow w.heap.size 35 2 v3 (0 + xs.length + ys.length) ([] ++ fcells xs ++ fcells ys)) := o3'
  have hs3 := q3.size
  clear d2 d3 f1 f2 f3 N2 o3' g3 HO2 hs2
  go_wp2
  rw [rounds_succ]
  go_wp2_with (at_builtin; refine wpList_append_fl _ rfl (.tmp 31) (.tmp 32) rfl w.heap.size _ _ _ rfl HO3.out a3 c3 zs rfl N3.out (by omega) hs3 ?_; intro v4 w4 o4 g4)
  have q4 : Below w.heap.size w w4 := q3.grown g4 hs3 (fun k hk => (HO3.out.lt k hk).1)
  have HO4 : Hid (w4.ownsRow w.heap.size 35 2 v4 (xs.length + ys.length + zs.length) (fcells (xs ++ ys ++ zs))) := by
    rw [fcells_append, fcells_append]
    rw [Nat.zero_add, List.nil_append] at o4
    exact o4
  clear i3 N3 o4 g4 HO3 hs3
  go_wp2
  rw [rounds_succ]
  go_wp2
  go_ret
  exact ⟨v4, rfl, HO4.out, q4⟩

end Go.Proofs.Ytggaadbcifbdeaa
