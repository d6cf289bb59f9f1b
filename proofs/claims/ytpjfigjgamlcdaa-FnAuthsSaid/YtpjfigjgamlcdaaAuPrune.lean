/- The contracts of AuthPrune, the program's and the specification's. -/
import Derived.Test.YtpjfigjgamlcdaaFACopy
import Derived.Test.YtpjfigjgamlcdaaAuApp
import Derived.Test.YtpjfigjgamlcdaaSAuOk
import Derived.Lib.SliceRun
namespace Go.Proofs.Ytpjfigjgamlcdaa
open Go.RowKit
set_option maxRecDepth 100000

def keepP (f : Int) (a : Au) : Bool := !a.used && decide (f ≤ a.day)
def pruneL (az : List Au) (t : Int) : List Au := if dOk t = true then az.filter (keepP (t - 7)) else []
theorem pruneL_len (az : List Au) (t : Int) : (pruneL az t).length ≤ az.length := by unfold pruneL; split; exact List.length_filter_le _ _; exact Nat.zero_le _
theorem take_filter (f : Int) (az : List Au) (k : Nat) (h : k < az.length) : (az.take (k + 1)).filter (keepP f) = (az.take k).filter (keepP f) ++ (if keepP f (auAt az k) = true then [auAt az k] else []) := by
  rw [List.take_succ_eq_append_getElem h, List.filter_append, auAt_is h]
  cases hq : keepP f az[k] <;> simp [hq]

/-- a row of one's own, cells from a place on written -/
theorem own_setCells {base n : Nat} {t : TypeId} {g cap : Nat} (vs : List Value) : ∀ (o : Nat) (w : World) (xs : List Value), w.ownsRow base t 6 (.slice (some ⟨g, 0, none⟩) n cap) n xs → o + vs.length ≤ n * 6 →
    ∃ ys, (w.setCells g o vs).ownsRow base t 6 (.slice (some ⟨g, 0, none⟩) n cap) n ys ∧ ys.take o = xs.take o ∧ w.grownBy (w.setCells g o vs) (some g) := by
  induction vs with
  | nil => intro o w xs h _; exact ⟨xs, h, rfl, World.grownBy.refl _ _⟩
  | cons v r ih =>
    intro o w xs h hl
    have hs := h.stored o v
    obtain ⟨ys, h1, h2, h3⟩ := ih (o + 1) _ _ hs.1 (by simp at hl; omega)
    refine ⟨ys, h1, ?_, hs.2.trans h3⟩
    have e : ys.take o = (ys.take (o + 1)).take o := by rw [List.take_take, Nat.min_eq_left (Nat.le_succ o)]
    rw [e, h2, List.take_take, Nat.min_eq_left (Nat.le_succ o), List.take_set_of_le (Nat.le_refl o)]
/-- the first of such a row -/
theorem own_cut {w : World} {base n s : Nat} {t : TypeId} {g cap : Nat} {xs : List Value} (h : w.ownsRow base t 6 (.slice (some ⟨g, 0, none⟩) n cap) n xs) (hs : s ≤ n) : w.ownsRow base t 6 (.slice (some ⟨g, 0, none⟩) s cap) s (xs.take (s * 6)) := by
  obtain ⟨h1, h2⟩ := h
  rcases h2 with ⟨hv, _⟩ | ⟨g', cap', cur, hv, hg, hh, a1, a2, a3, a4⟩
  · cases hv
  · obtain ⟨rfl, rfl⟩ : g = g' ∧ cap = cap' := by simpa using hv
    refine ⟨by rw [List.length_take, h1]; omega, .inr ⟨g, cap, cur, rfl, hg, hh, by omega, a2, a3, ?_⟩⟩
    rw [← a4, List.take_take, Nat.min_eq_left (by omega)]
theorem zeros_one (n : Nat) : ∀ v ∈ (Builtin.zeroCells (Value.agg #[.string ⟨#[]⟩, .int .i64 0, .int .i64 0, .int .i64 0, .int .i64 0, .bool false]).cells n).toList, v.oneCell' = true := by
  intro v hv
  simp only [Builtin.zeroCells, Array.toList_map, List.mem_map] at hv
  obtain ⟨j, _, rfl⟩ := hv
  have : j % 6 = 0 ∨ j % 6 = 1 ∨ j % 6 = 2 ∨ j % 6 = 3 ∨ j % 6 = 4 ∨ j % 6 = 5 := by omega
  simp only [Value.cells]
  show Value.oneCell' ((#[Value.string ⟨#[]⟩, .int .i64 0, .int .i64 0, .int .i64 0, .int .i64 0, .bool false] : Array Value)[j % 6]!) = true
  rcases this with e | e | e | e | e | e <;> rw [e] <;> rfl
theorem clear_rows {W : World} {base n s g : Nat} {xs : List Value} (ho : W.ownsRow base 30 6 (.slice (some ⟨g, 0, none⟩) n n) n xs) (hs : s < n) :
    ∃ V ys, (∀ ty, (Builtin.clear_ #[67] ty #[.slice (some ⟨g, s * 6, none⟩) (n - s) (n - s)]).run Try.prog W = .ok (.tuple #[]) V) ∧ V.ownsRow base 30 6 (.slice (some ⟨g, 0, none⟩) n n) n ys ∧ ys.take (s * 6) = xs.take (s * 6) ∧ W.grownBy V (some g) := by
  have hlen : (Builtin.zeroCells (Value.agg #[.string ⟨#[]⟩, .int .i64 0, .int .i64 0, .int .i64 0, .int .i64 0, .bool false]).cells (n - s)).toList.length = (n - s) * 6 := by simp [Builtin.zeroCells, Value.cells]
  obtain ⟨vs, hvs⟩ : ∃ vs, (Builtin.zeroCells (Value.agg #[.string ⟨#[]⟩, .int .i64 0, .int .i64 0, .int .i64 0, .int .i64 0, .bool false]).cells (n - s)).toList = vs := ⟨_, rfl⟩
  have hone : ∀ v ∈ vs, v.oneCell' = true := by rw [← hvs]; exact zeros_one _
  rw [hvs] at hlen
  have hxl := ho.1
  obtain ⟨ys, h1, h2, h3⟩ := own_setCells vs (s * 6) W xs ho (by rw [hlen]; omega)
  refine ⟨_, ys, fun ty => ?_, h1, h2, h3⟩
  have hst := run_storeCells_cells (P := Try.prog) g (s * 6) vs 0 W (fun j hj => by rw [ho.cellAt _ (by omega)]; simp; omega) (fun j hj => ho.frozenAt _) hone
  simp only [Nat.add_zero] at hst
  obtain ⟨q, hq⟩ : ∃ q, n - s = q + 1 := ⟨n - s - 1, by omega⟩
  rw [hq] at hvs ⊢
  simp [Builtin.clear_, run_underlying Try.underlying67, Try.zeroValue30, hvs, hst]

theorem au_one {w : World} {g : Nat} {a : Au} (h : AuB g a w) : AuthsAt w (some ⟨g, 0, none⟩) [a] :=
  .inr ⟨g, 0, rfl, h.lt, fun i hi => by
    obtain rfl : i = 0 := by simpa using hi
    exact ⟨h.c0, h.c1, h.c2, h.c3, h.c4, h.c5⟩⟩
theorem elemOwn : Try.prog.elem 67 = 30 := by simp [Program.elem, Try.underlying67]
theorem underOwn : Try.prog.underlying 67 = some (.slice (Try.prog.elem 67)) := by rw [elemOwn]; exact Try.underlying67
theorem sizeOwn (w : World) : (sizeOf 30).run Try.prog w = .ok 6 w := by
  obtain ⟨i0, hi, hz0, hz1, hz2⟩ := info_parts infoA
  simp [sizeOf, typeInfo, hi, hz1]
theorem slice_from {g n s : Nat} (hs : s ≤ n) (W : World) : (Instr.slice 67 (.slice (some ⟨g, 0, none⟩) n n) (some (.int .i64 s)) none none).run Try.prog W = .ok (.slice (some (if n = s then ⟨g, 0, none⟩ else ⟨g, s * 6, none⟩)) (n - s) (n - s)) W := by
  rw [run_slice_l W _ _ _ _ underOwn .i64 _ (by omega) (by omega), elemOwn, sizeOwn]
  by_cases h : n = s
  · simp [Result.andThen, sliced, h]
  · simp [Result.andThen, sliced, h, Addr.add]
    intro h0
    exact h0.symm
theorem slice_upto {g n s : Nat} (hs : s ≤ n) (W : World) : (Instr.slice 67 (.slice (some ⟨g, 0, none⟩) n n) none (some (.int .i64 s)) none).run Try.prog W = .ok (.slice (some ⟨g, 0, none⟩) s n) W := by
  rw [run_slice_h W _ _ _ _ underOwn .i64 _ (by omega) (by omega), elemOwn, sizeOwn]
  simp [Result.andThen, sliced, Addr.add]

/-- what lies in a list that is pruned in place, behind k rounds: s that stay lie in front -/
structure Prn (f : Int) (az bs : List Au) (s k : Nat) : Prop where
  len : bs.length = az.length
  le : s ≤ k
  front : bs.take s = (az.take k).filter (keepP f)
  rest : ∀ j, k ≤ j → j < az.length → auAt bs j = auAt az j
theorem Prn.start (f : Int) (az : List Au) : Prn f az az 0 0 := ⟨rfl, Nat.le_refl _, rfl, fun _ _ _ => rfl⟩
theorem Prn.skip {f : Int} {az bs : List Au} {s k : Nat} (h : Prn f az bs s k) (hk : k < az.length) (hq : keepP f (auAt az k) = false) : Prn f az bs s (k + 1) :=
  ⟨h.len, Nat.le_succ_of_le h.le, by rw [take_filter f az k hk, hq, h.front]; simp, fun j h1 h2 => h.rest j (by omega) h2⟩
theorem Prn.keep {f : Int} {az bs : List Au} {s k : Nat} (h : Prn f az bs s k) (hk : k < az.length) (hq : keepP f (auAt az k) = true) : Prn f az (bs.set s (auAt az k)) (s + 1) (k + 1) := by
  have hl := h.len
  have hle := h.le
  refine ⟨by rw [List.length_set]; exact hl, by omega, ?_, fun j h1 h2 => ?_⟩
  · rw [take_filter f az k hk, hq, if_pos rfl, ← h.front, List.take_succ_eq_append_getElem (by rw [List.length_set]; omega), List.take_set_of_le (Nat.le_refl s), List.getElem_set_self]
  · rw [auAt_is (by rw [List.length_set]; omega), List.getElem_set_ne (by omega), ← auAt_is (by omega)]
    exact h.rest j (by omega) h2

set_option maxHeartbeats 3200000 in
theorem pruned_any (g base : Nat) (az : List Au) (f : Int) (w : World) (ho : w.ownsRow base 30 6 (.slice (some ⟨g, 0, none⟩) az.length az.length) az.length (acells az)) (hn : az.length ≤ 4194304) :
    Calls Try.prog 46 #[.slice (some ⟨g, 0, none⟩) az.length az.length, .int .i64 f] w fun e w' => e = .returned (.slice (some ⟨g, 0, none⟩) (az.filter (keepP f)).length az.length) ∧
      w'.ownsRow base 30 6 (.slice (some ⟨g, 0, none⟩) (az.filter (keepP f)).length az.length) (az.filter (keepP f)).length (acells (az.filter (keepP f))) ∧ w.grownBy w' (some g) := by
  have HO0 : Hid _ := ho
  clear ho
  go_enter Try.func46, Try.ntmps46
  go_wp2
  go_loopw [5, 7, 10] (fun s _ i wr => ∃ (k y : Nat) (bs : List Au), k ≤ az.length ∧ i = .int .i64 k ∧ s = .int .i64 y ∧ Prn f az bs y k ∧ wr.ownsRow base 30 6 (.slice (some ⟨g, 0, none⟩) az.length az.length) az.length (acells bs) ∧ w.grownBy wr (some g)) (fun _ _ i _ => az.length - (intOf i).toNat)
  case atStart => exact ⟨0, 0, az, Nat.zero_le _, rfl, rfl, Prn.start f az, HO0.out, World.grownBy.refl _ _⟩
  case round =>
    obtain ⟨k, y, bs, hk, rfl, rfl, hp, hor, hgr⟩ := hrel
    have hyk := hp.le
    have HP : Hid (Prn f az bs y k) := hp
    have HBL : Hid (bs.length = az.length) := hp.len
    clear hp HO0
    by_cases hlt : k < az.length
    · have hki : (k : Int) < (az.length : Int) := by omega
      have hat := acells_at bs k (by have := HBL.out; omega)
      rw [HP.out.rest k (Nat.le_refl _) hlt] at hat
      have x0 : wr.cell? ⟨g, k * 6, none⟩ = some (.string ⟨(auAt az k).ref.toArray⟩) := by rw [hor.cellAt (k * 6) (by omega)]; exact hat.1
      have x1 : wr.cell? ⟨g, k * 6 + 1, none⟩ = some (.int .i64 (auAt az k).iss) := by rw [hor.cellAt (k * 6 + 1) (by omega)]; exact hat.2.1
      have x2 : wr.cell? ⟨g, k * 6 + 2, none⟩ = some (.int .i64 (auAt az k).cur) := by rw [hor.cellAt (k * 6 + 2) (by omega)]; exact hat.2.2.1
      have x3 : wr.cell? ⟨g, k * 6 + 3, none⟩ = some (.int .i64 (auAt az k).am) := by rw [hor.cellAt (k * 6 + 3) (by omega)]; exact hat.2.2.2.1
      have x4 : wr.cell? ⟨g, k * 6 + 4, none⟩ = some (.int .i64 (auAt az k).day) := by rw [hor.cellAt (k * 6 + 4) (by omega)]; exact hat.2.2.2.2.1
      have x5 : wr.cell? ⟨g, k * 6 + 5, none⟩ = some (.bool (auAt az k).used) := by rw [hor.cellAt (k * 6 + 5) (by omega)]; exact hat.2.2.2.2.2
      have HK : Hid (keepP f (auAt az k) = (!(auAt az k).used && decide (f ≤ (auAt az k).day))) := rfl
      have HTK : Hid (keepP f (auAt az k) = true → Prn f az (bs.set y (auAt az k)) (y + 1) (k + 1)) := fun h => HP.out.keep hlt h
      have HTS : Hid (keepP f (auAt az k) = false → Prn f az bs y (k + 1)) := fun h => HP.out.skip hlt h
      have HST : Hid _ := acells_set bs (auAt az k) y (by have := HBL.out; omega)
      obtain ⟨⟨r, i, c, m, d, u⟩, hf⟩ : ∃ a, auAt az k = a := ⟨_, rfl⟩
      rw [hf] at x0 x1 x2 x3 x4 x5 HK HTK HTS HST
      simp only at x0 x1 x2 x3 x4 x5 HK HST
      have HO : Hid (wr.ownsRow base 30 6 (.slice (some ⟨g, 0, none⟩) az.length az.length) az.length (acells bs)) := hor
      have HG : Hid (w.grownBy wr (some g)) := hgr
      have hgl : g < wr.heap.size := (hor.lt g rfl).2
      clear hf hor hgr hat
      go_upto_region 5 with fail
      clear x0 x1 x2 x3 x4 x5
      obtain ⟨W, hW⟩ : ∃ W, wr.alloc (.cells #[.string ⟨r.toArray⟩, .int .i64 i, .int .i64 c, .int .i64 m, .int .i64 d, .bool u] 30) = W := ⟨_, rfl⟩
      have bW : Below wr.heap.size wr W := hW ▸ (Below.refl _ _).alloc (Nat.le_refl _) _
      have BX : AuB wr.heap.size ⟨r, i, c, m, d, u⟩ W := hW ▸ AuB.new wr ⟨r, i, c, m, d, u⟩ _
      rw [hW]
      clear hW
      have oW := keepA HO.out bW
      have gW : w.grownBy W (some g) := HG.out.trans ⟨bW.os, bW.tape, bW.output, bW.size, fun j hj _ => bW.block j hj⟩
      have HOW : Hid (W.ownsRow base 30 6 (.slice (some ⟨g, 0, none⟩) az.length az.length) az.length (acells bs)) := oW
      have HGW : Hid (w.grownBy W (some g)) := gW
      obtain ⟨q0, q1, q2, q3, q4, q5⟩ := BX
      simp only at q0 q1 q2 q3 q4 q5
      cases u
      · by_cases hfd : f ≤ d
        · have HY : Hid (Prn f az (bs.set y ⟨r, i, c, m, d, false⟩) (y + 1) (k + 1)) := HTK.out (by rw [HK.out, decide_eq_true hfd]; rfl)
          have hat2 := acells_at bs y (by have := HBL.out; omega)
          have y0 : W.cell? ⟨g, y * 6, none⟩ = some (.string ⟨(auAt bs y).ref.toArray⟩) := by rw [oW.cellAt (y * 6) (by omega)]; exact hat2.1
          have z0 : W.frozen? ⟨g, y * 6, none⟩ = false := oW.frozenAt _
          have y1 : W.cell? ⟨g, y * 6 + 1, none⟩ = some (.int .i64 (auAt bs y).iss) := by rw [oW.cellAt (y * 6 + 1) (by omega)]; exact hat2.2.1
          have z1 : W.frozen? ⟨g, y * 6 + 1, none⟩ = false := oW.frozenAt _
          have y2 : W.cell? ⟨g, y * 6 + 2, none⟩ = some (.int .i64 (auAt bs y).cur) := by rw [oW.cellAt (y * 6 + 2) (by omega)]; exact hat2.2.2.1
          have z2 : W.frozen? ⟨g, y * 6 + 2, none⟩ = false := oW.frozenAt _
          have y3 : W.cell? ⟨g, y * 6 + 3, none⟩ = some (.int .i64 (auAt bs y).am) := by rw [oW.cellAt (y * 6 + 3) (by omega)]; exact hat2.2.2.2.1
          have z3 : W.frozen? ⟨g, y * 6 + 3, none⟩ = false := oW.frozenAt _
          have y4 : W.cell? ⟨g, y * 6 + 4, none⟩ = some (.int .i64 (auAt bs y).day) := by rw [oW.cellAt (y * 6 + 4) (by omega)]; exact hat2.2.2.2.2.1
          have z4 : W.frozen? ⟨g, y * 6 + 4, none⟩ = false := oW.frozenAt _
          have y5 : W.cell? ⟨g, y * 6 + 5, none⟩ = some (.bool (auAt bs y).used) := by rw [oW.cellAt (y * 6 + 5) (by omega)]; exact hat2.2.2.2.2.2
          have z5 : W.frozen? ⟨g, y * 6 + 5, none⟩ = false := oW.frozenAt _
          obtain ⟨⟨r', i', c', m', d', u'⟩, hf'⟩ : ∃ a, auAt bs y = a := ⟨_, rfl⟩
          rw [hf'] at y0 y1 y2 y3 y4 y5
          simp only at y0 y1 y2 y3 y4 y5
          have HR : Hid ((((((((W.setCell ⟨g, y * 6, none⟩ (.string ⟨r.toArray⟩)).setCell ⟨g, y * 6 + 1, none⟩ (.int .i64 i)).setCell ⟨g, y * 6 + 2, none⟩ (.int .i64 c)).setCell ⟨g, y * 6 + 3, none⟩ (.int .i64 m)).setCell ⟨g, y * 6 + 4, none⟩ (.int .i64 d)).setCell ⟨g, y * 6 + 5, none⟩ (.bool false))).ownsRow base 30 6 (.slice (some ⟨g, 0, none⟩) az.length az.length) az.length (acells (bs.set y ⟨r, i, c, m, d, false⟩))) := by
            have R := (((((((oW.stored (y * 6) (.string ⟨r.toArray⟩)).1.stored (y * 6 + 1) (.int .i64 i)).1.stored (y * 6 + 2) (.int .i64 c)).1.stored (y * 6 + 3) (.int .i64 m)).1.stored (y * 6 + 4) (.int .i64 d)).1.stored (y * 6 + 5) (.bool false))).1
            rw [HST.out] at R
            exact R
          have HGR : Hid (w.grownBy (((((((W.setCell ⟨g, y * 6, none⟩ (.string ⟨r.toArray⟩)).setCell ⟨g, y * 6 + 1, none⟩ (.int .i64 i)).setCell ⟨g, y * 6 + 2, none⟩ (.int .i64 c)).setCell ⟨g, y * 6 + 3, none⟩ (.int .i64 m)).setCell ⟨g, y * 6 + 4, none⟩ (.int .i64 d)).setCell ⟨g, y * 6 + 5, none⟩ (.bool false))) (some g)) := gW.trans (((((((oW.stored (y * 6) (.string ⟨r.toArray⟩)).2).trans ((oW.stored (y * 6) (.string ⟨r.toArray⟩)).1.stored (y * 6 + 1) (.int .i64 i)).2).trans (((oW.stored (y * 6) (.string ⟨r.toArray⟩)).1.stored (y * 6 + 1) (.int .i64 i)).1.stored (y * 6 + 2) (.int .i64 c)).2).trans ((((oW.stored (y * 6) (.string ⟨r.toArray⟩)).1.stored (y * 6 + 1) (.int .i64 i)).1.stored (y * 6 + 2) (.int .i64 c)).1.stored (y * 6 + 3) (.int .i64 m)).2).trans (((((oW.stored (y * 6) (.string ⟨r.toArray⟩)).1.stored (y * 6 + 1) (.int .i64 i)).1.stored (y * 6 + 2) (.int .i64 c)).1.stored (y * 6 + 3) (.int .i64 m)).1.stored (y * 6 + 4) (.int .i64 d)).2).trans ((((((oW.stored (y * 6) (.string ⟨r.toArray⟩)).1.stored (y * 6 + 1) (.int .i64 i)).1.stored (y * 6 + 2) (.int .i64 c)).1.stored (y * 6 + 3) (.int .i64 m)).1.stored (y * 6 + 4) (.int .i64 d)).1.stored (y * 6 + 5) (.bool false)).2)
          have hyl : (y : Int) < (az.length : Int) := by omega
          clear hf' hat2 oW gW bW HO HG HOW HGW HP HK HTK HTS HST HBL
          go_wp2
          go_roundw
          case rel => exact ⟨k + 1, y + 1, _, by omega, by go_num, by go_num, HY.out, HR.out, HGR.out⟩
          case measure => simp [intOf]; omega
        · have HY : Hid (Prn f az bs y (k + 1)) := HTS.out (by rw [HK.out, decide_eq_false hfd]; rfl)
          clear oW gW bW HO HG HP HK HTK HTS HST HBL
          go_wp2
          go_roundw
          case rel => exact ⟨k + 1, y, bs, by omega, by go_num, rfl, HY.out, HOW.out, HGW.out⟩
          case measure => simp [intOf]; omega
      · have HY : Hid (Prn f az bs y (k + 1)) := HTS.out (by rw [HK.out]; rfl)
        clear oW gW bW HO HG HP HK HTK HTS HST HBL
        go_wp2
        go_roundw
        case rel => exact ⟨k + 1, y, bs, by omega, by go_num, rfl, HY.out, HOW.out, HGW.out⟩
        case measure => simp [intOf]; omega
    · have hke : k = az.length := by omega
      subst hke
      have hfr : bs.take y = az.filter (keepP f) := by have := HP.out.front; rwa [List.take_length] at this
      have hfl : (az.filter (keepP f)).length = y := by rw [← hfr, List.length_take, HBL.out]; omega
      have htk : (acells bs).take (y * 6) = acells (az.filter (keepP f)) := by
        have e : acells bs = acells (bs.take y) ++ acells (bs.drop y) := by rw [← acells_append, List.take_append_drop]
        rw [e, List.take_append_of_le_length (by rw [acells_len, List.length_take, HBL.out]; omega), List.take_of_length_le (by rw [acells_len, List.length_take, HBL.out]; omega), hfr]
      have HFL : Hid _ := hfl
      have HTK : Hid _ := htk
      have HO : Hid (wr.ownsRow base 30 6 (.slice (some ⟨g, 0, none⟩) az.length az.length) az.length (acells bs)) := hor
      have HG : Hid (w.grownBy wr (some g)) := hgr
      have hs1 := slice_from (g := g) (n := az.length) (s := y) hyk
      have hs2 := slice_upto (g := g) (n := az.length) (s := y) hyk
      by_cases hye : az.length = y
      · have HR : Hid (wr.ownsRow base 30 6 (.slice (some ⟨g, 0, none⟩) y az.length) y (acells (az.filter (keepP f)))) := by
          have := own_cut HO.out hyk
          rwa [HTK.out] at this
        rw [hye, Nat.sub_self, if_pos rfl] at hs1
        rw [hye] at hs2
        have HYE : Hid _ := hye
        have hcl : ∀ ty, (Builtin.clear_ #[67] ty #[.slice (some ⟨g, 0, none⟩) 0 0]).run Try.prog wr = .ok (.tuple #[]) wr := fun ty => by
          simp [Builtin.clear_, run_underlying Try.underlying67]
        rw [hye] at HR hn ⊢
        clear hor hgr hfr hfl htk HP HBL hye hyk hk hlt HO HTK
        go_wp2
        go_ret
        rw [HFL.out, HYE.out]
        exact ⟨rfl, HR.out, HG.out⟩
      · obtain ⟨V, ys, hcl, oV, htv, gV⟩ := clear_rows HO.out (show y < az.length by omega)
        have HR : Hid (V.ownsRow base 30 6 (.slice (some ⟨g, 0, none⟩) y az.length) y (acells (az.filter (keepP f)))) := by
          have := own_cut oV hyk
          rwa [htv, HTK.out] at this
        have HGV : Hid (w.grownBy V (some g)) := HG.out.trans gV
        rw [if_neg hye] at hs1
        clear hor hgr hfr hfl htk HP HBL HO HTK oV htv gV
        go_wp2
        go_ret
        rw [HFL.out]
        exact ⟨rfl, HR.out, HGV.out⟩

set_option maxHeartbeats 1600000 in
theorem iPrune_any (ao : Option Addr) (cap : Nat) (az : List Au) (t : Int) (w : World) (hz : AuthsAt w ao az) (hn : az.length ≤ 4194304) (hd : ∀ a ∈ az, a.ref.length ≤ 1099511627776) :
    Calls Try.prog 20 #[.slice ao az.length cap, .int .i64 t] w (AuR1 w (pruneL az t)) := by
  cases hq : dOk t
  · have HL : Hid (pruneL az t = []) := by rw [Hid, pruneL, if_neg (by rw [hq]; decide)]
    go_enter Try.func20, Try.ntmps20
    go_wp2_with fail
    refine (iDayOk_any t _).mono ?_
    rintro e w1 ⟨rfl, hw⟩
    subst hw
    rw [hq]
    go_wp2
    go_ret
    rw [HL.out]
    exact ⟨none, 0, rfl, World.ownsRow_nil _ _ _ _, Below.refl _ _⟩
  · have htb := dOk_bd hq
    have HL : Hid (pruneL az t = az.filter (keepP (t - 7))) := by rw [Hid, pruneL, if_pos hq]
    go_enter Try.func20, Try.ntmps20
    go_wp2_with fail
    refine (iDayOk_any t _).mono ?_
    rintro e w1 ⟨rfl, hw⟩
    subst hw
    rw [hq]
    go_wp2_with fail
    refine (copyAuths_any _ _ _ _ hz hn hd).mono ?_
    rintro e w2 ⟨rfl, o2, b2⟩
    have HO : Hid _ := o2
    have HB : Hid _ := b2
    clear o2 b2 hz
    go_wp2_with fail
    refine (pruned_any _ _ _ _ _ HO.out hn).mono ?_
    rintro e w3 ⟨rfl, o3, g3⟩
    have HO3 : Hid _ := o3
    have HG3 : Hid _ := HB.out.grown g3 HB.out.size (fun k hk => by cases hk; exact Nat.le_refl _)
    clear o3 g3 HO HB
    go_wp2
    go_ret
    rw [HL.out]
    exact ⟨_, _, rfl, HO3.out, HG3.out⟩

set_option maxHeartbeats 3200000 in
theorem sPrune_any (ao : Option Addr) (cap : Nat) (az : List Au) (t : Int) (w : World) (hz : AuthsAt w ao az) (hn : az.length ≤ 4194304) :
    Calls Try.prog 21 #[.slice ao az.length cap, .int .i64 t] w (AuR1 w (pruneL az t)) := by
  have bA : Below w.heap.size w (w.alloc (.cells #[] 30)) := (Below.refl _ _).alloc (Nat.le_refl _) _
  have oA := auLit w
  have HDY : Hid (∀ u, Calls Try.prog 47 #[.int .i64 t] u fun e w' => e = .returned (.bool (dOk t)) ∧ w' = u) := fun u => sDayOk_any t u
  cases hq : dOk t
  · have HL : Hid (pruneL az t = []) := by rw [Hid, pruneL, if_neg (by rw [hq]; decide)]
    rw [hq] at HDY
    have HO : Hid _ := And.intro oA bA
    clear oA bA
    by_cases h0 : 0 < az.length
    · have h0' : (0 : Int) < (az.length : Int) := by omega
      go_enter Try.func21, Try.ntmps21
      go_wp2
      refine wp_loop_rounds 1 ?_
      rw [rounds_succ]
      go_wp2_with fail
      refine (HDY.out _).mono ?_
      rintro e w1 ⟨rfl, hw⟩
      subst hw
      go_wp2
      go_ret
      rw [HL.out]
      exact ⟨_, _, rfl, HO.out.1, HO.out.2⟩
    · have h0' : ¬ (0 : Int) < (az.length : Int) := by omega
      go_enter Try.func21, Try.ntmps21
      go_wp2
      refine wp_loop_rounds 1 ?_
      rw [rounds_succ]
      go_wp2
      go_ret
      rw [HL.out]
      exact ⟨_, _, rfl, HO.out.1, HO.out.2⟩
  · have htb := dOk_bd hq
    have HL : Hid (pruneL az t = az.filter (keepP (t - 7))) := by rw [Hid, pruneL, if_pos hq]
    rw [hq] at HDY
    rcases hz with rfl | ⟨b, off, rfl, hb, hcell⟩
    · have HO : Hid _ := And.intro oA bA
      clear oA bA
      go_enter Try.func21, Try.ntmps21
      go_wp2
      refine wp_loop_rounds 1 ?_
      rw [rounds_succ]
      go_wp2
      go_ret
      rw [HL.out]
      exact ⟨_, _, rfl, HO.out.1, HO.out.2⟩
    have HC : Hid (∀ i, i < az.length → w.cell? ⟨b, off + i * 6, none⟩ = some (.string ⟨(auAt az i).ref.toArray⟩) ∧ w.cell? ⟨b, off + i * 6 + 1, none⟩ = some (.int .i64 (auAt az i).iss) ∧ w.cell? ⟨b, off + i * 6 + 2, none⟩ = some (.int .i64 (auAt az i).cur) ∧ w.cell? ⟨b, off + i * 6 + 3, none⟩ = some (.int .i64 (auAt az i).am) ∧ w.cell? ⟨b, off + i * 6 + 4, none⟩ = some (.int .i64 (auAt az i).day) ∧ w.cell? ⟨b, off + i * 6 + 5, none⟩ = some (.bool (auAt az i).used)) := hcell
    clear hcell
    go_enter Try.func21, Try.ntmps21
    go_wp2
    go_loopw [5, 6] (fun v i wr => ∃ (k : Nat) (ao : Option Addr) (c : Nat), k ≤ az.length ∧ i = .int .i64 k ∧ v = .slice ao ((az.take k).filter (keepP (t - 7))).length c ∧ wr.ownsRow w.heap.size 30 6 (.slice ao ((az.take k).filter (keepP (t - 7))).length c) ((az.take k).filter (keepP (t - 7))).length (acells ((az.take k).filter (keepP (t - 7)))) ∧ Below w.heap.size w wr) (fun _ i _ => az.length - (intOf i).toNat)
    case atStart => exact ⟨0, _, _, Nat.zero_le _, rfl, rfl, oA, bA⟩
    case round =>
      obtain ⟨k, ao, cc, hk, rfl, rfl, hor, hbr⟩ := hrel
      clear oA bA
      by_cases hlt : k < az.length
      · have x0 : wr.cell? ⟨b, off + k * 6, none⟩ = some (.string ⟨(auAt az k).ref.toArray⟩) := (hbr.cell (p := ⟨b, off + k * 6, none⟩) hb).trans (HC.out k hlt).1
        have x1 : wr.cell? ⟨b, off + k * 6 + 1, none⟩ = some (.int .i64 (auAt az k).iss) := (hbr.cell (p := ⟨b, off + k * 6 + 1, none⟩) hb).trans (HC.out k hlt).2.1
        have x2 : wr.cell? ⟨b, off + k * 6 + 2, none⟩ = some (.int .i64 (auAt az k).cur) := (hbr.cell (p := ⟨b, off + k * 6 + 2, none⟩) hb).trans (HC.out k hlt).2.2.1
        have x3 : wr.cell? ⟨b, off + k * 6 + 3, none⟩ = some (.int .i64 (auAt az k).am) := (hbr.cell (p := ⟨b, off + k * 6 + 3, none⟩) hb).trans (HC.out k hlt).2.2.2.1
        have x4 : wr.cell? ⟨b, off + k * 6 + 4, none⟩ = some (.int .i64 (auAt az k).day) := (hbr.cell (p := ⟨b, off + k * 6 + 4, none⟩) hb).trans (HC.out k hlt).2.2.2.2.1
        have x5 : wr.cell? ⟨b, off + k * 6 + 5, none⟩ = some (.bool (auAt az k).used) := (hbr.cell (p := ⟨b, off + k * 6 + 5, none⟩) hb).trans (HC.out k hlt).2.2.2.2.2
        have hki : (k : Int) < (az.length : Int) := by omega
        have HTF : Hid _ := take_filter (t - 7) az k hlt
        have HK : Hid (keepP (t - 7) (auAt az k) = (!(auAt az k).used && decide (t - 7 ≤ (auAt az k).day))) := rfl
        have hll : ((az.take k).filter (keepP (t - 7))).length ≤ k := Nat.le_trans (List.length_filter_le _ _) (by simp; omega)
        obtain ⟨B, hB⟩ : ∃ B, (az.take k).filter (keepP (t - 7)) = B := ⟨_, rfl⟩
        obtain ⟨⟨r, i, c, m, d, u⟩, hf⟩ : ∃ a, auAt az k = a := ⟨_, rfl⟩
        rw [hf] at x0 x1 x2 x3 x4 x5 HK HTF
        rw [hB] at hor hll HTF ⊢
        simp only at x0 x1 x2 x3 x4 x5 HK
        have HO : Hid (wr.ownsRow w.heap.size 30 6 (.slice ao B.length cc) B.length (acells B)) := hor
        have HB : Hid (Below w.heap.size w wr) := hbr
        clear hB hf hor hbr
        go_wp2_with fail
        refine (HDY.out _).mono ?_
        rintro e w1 ⟨rfl, hw⟩
        subst hw
        cases u
        · by_cases hfd : t - 7 ≤ d
          · have HE : Hid ((az.take (k + 1)).filter (keepP (t - 7)) = B ++ [⟨r, i, c, m, d, false⟩]) := by rw [Hid, HTF.out, HK.out, decide_eq_true hfd]; rfl
            have HON : Hid (AuthsAt (w1.alloc (.cells #[.string ⟨r.toArray⟩, .int .i64 i, .int .i64 c, .int .i64 m, .int .i64 d, .bool false] 30)) (some ⟨w1.heap.size, 0, none⟩) [⟨r, i, c, m, d, false⟩]) := au_one (AuB.new w1 ⟨r, i, c, m, d, false⟩ _)
            have HOA : Hid ((w1.alloc (.cells #[.string ⟨r.toArray⟩, .int .i64 i, .int .i64 c, .int .i64 m, .int .i64 d, .bool false] 30)).ownsRow w.heap.size 30 6 (.slice ao B.length cc) B.length (acells B)) := keepA HO.out ((Below.refl _ _).alloc (Nat.le_refl _) _)
            have hwz : w.heap.size ≤ w1.heap.size := HB.out.size
            go_wp2_with (at_builtin; refine wpList_append_auths _ rfl (.tmp 34) (.tmp 39) rfl w.heap.size (.slice ao B.length cc) B.length (acells B) rfl HOA.out (some ⟨w1.heap.size, 0, none⟩) 1 [⟨r, i, c, m, d, false⟩] rfl HON.out (by simp; omega) (by simp; omega) ?_; intro v2 w2 o2 g2 n2)
            obtain ⟨a2, c2, rfl⟩ := auShape o2
            have HO2 : Hid (w2.ownsRow w.heap.size 30 6 (.slice a2 (B ++ ([⟨r, i, c, m, d, false⟩] : List Au)).length c2) (B ++ ([⟨r, i, c, m, d, false⟩] : List Au)).length (acells (B ++ [⟨r, i, c, m, d, false⟩]))) := by rw [Hid, List.length_append, acells_append]; exact o2
            have HB2 : Hid (Below w.heap.size w w2) := (HB.out.alloc HB.out.size _).grown g2 (by simp; omega) (fun j hj => (HOA.out.lt j hj).1)
            clear o2 g2 n2 HOA HON HTF HK
            go_wp2
            go_roundw
            case rel => exact ⟨k + 1, a2, c2, by omega, by go_num, by rw [HE.out, List.length_append], by rw [HE.out]; exact HO2.out, HB2.out⟩
            case measure => simp [intOf]; omega
          · have HE : Hid ((az.take (k + 1)).filter (keepP (t - 7)) = B) := by rw [Hid, HTF.out, HK.out, decide_eq_false hfd]; simp
            clear HTF HK
            go_wp2
            go_roundw
            case rel => exact ⟨k + 1, ao, cc, by omega, by go_num, by rw [HE.out], by rw [HE.out]; exact HO.out, HB.out⟩
            case measure => simp [intOf]; omega
        · have HE : Hid ((az.take (k + 1)).filter (keepP (t - 7)) = B) := by rw [Hid, HTF.out, HK.out]; simp
          clear HTF HK
          go_wp2
          go_roundw
          case rel => exact ⟨k + 1, ao, cc, by omega, by go_num, by rw [HE.out], by rw [HE.out]; exact HO.out, HB.out⟩
          case measure => simp [intOf]; omega
      · have hke : k = az.length := by omega
        subst hke
        rw [List.take_length] at hor ⊢
        have HO : Hid _ := And.intro hor hbr
        clear hor hbr
        go_wp2
        go_ret
        rw [HL.out]
        exact ⟨_, _, rfl, HO.out.1, HO.out.2⟩

end Go.Proofs.Ytpjfigjgamlcdaa
