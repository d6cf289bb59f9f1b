/- The contract of the specification's Block. -/
import Derived.Test.YtbncdhfmhokgeaaGreatDoorJFnBatch1a
import Derived.Test.YtbncdhfmhokgeaaGreatDoorJFnBatch0a
import Derived.Deep.RegionLaw
namespace Go.Proofs.YtbncdhfmhokgeaaGreatDoor
open Go.RowKit
set_option maxRecDepth 100000

theorem app_below {B : Nat} {w X w4 : World} {v : Value} (hb : Below B w X) (hB : B ≤ X.heap.size) (hlt : ∀ j, v.ownBlock = some j → B ≤ j) (g4 : X.grownBy w4 v.ownBlock) : Below B w w4 := hb.grown g4 hB hlt
/-- bytes that can be read at a block's head -/
def InB (w : World) (g : Nat) (l : List UInt8) : Prop := ∀ j u, l[j]? = some u → w.cell? ((⟨g, 0, none⟩ : Addr).add j) = some (.int .u8 (u.toNat : Int))
theorem inB_new (Y : World) (g : Nat) (l : List UInt8) (t : TypeId) (hg : Y.heap.size = g) : InB (Y.alloc (.cells (l.map cell).toArray t)) g l := by
  subst hg
  intro j u h
  have hj := (List.getElem?_eq_some_iff.1 h).1
  rw [add_at, Nat.zero_add]
  simp [hj, cell, (List.getElem?_eq_some_iff.1 h).2]
theorem inB_conv (Y : World) (g : Nat) (r : List UInt8) (hg : Y.heap.size = g) : InB (convW r Y) g r := by
  subst hg
  intro j u h
  rw [add_at, Nat.zero_add]
  exact (convW_row r Y).cell j u h
theorem InB.below {w w' : World} {g : Nat} {l : List UInt8} (h : InB w g l) (hg : g < w.heap.size) (hb : Below w.heap.size w w') : InB w' g l := fun j u hj => by
  have := h j u hj
  rw [add_at] at this ⊢
  exact (hb.cell (p := ⟨g, 0 + j, none⟩) hg).trans this
theorem InB.grown {w w' : World} {g : Nat} {l : List UInt8} {row : Option Nat} (h : InB w g l) (hb : w.grownBy w' row) (hg : row ≠ some g) : InB w' g l := fun j u hj => by
  have := h j u hj
  rw [add_at] at this ⊢
  exact hb.cell (a := ⟨g, 0 + j, none⟩) this (fun e => hg e.symm)
theorem InB.pC {Y : World} {g : Nat} {l : List UInt8} (h : InB Y g l) (hg : g < Y.heap.size) (r : List UInt8) : InB (convW r Y) g l := h.below hg (convW_below r Y)
theorem InB.pA {Y : World} {g : Nat} {l : List UInt8} (h : InB Y g l) (hg : g < Y.heap.size) (o : Obj) : InB (Y.alloc o) g l := h.below hg ((Below.refl _ _).alloc (Nat.le_refl _) o)
theorem InB.pD {Y : World} {g : Nat} {l : List UInt8} (h : InB Y g l) : InB Y.drew g l := h
theorem InB.pC' {Y : World} {g : Nat} {l : List UInt8} (hg : g < Y.heap.size) (h : InB Y g l) (r : List UInt8) : InB (convW r Y) g l := h.below hg (convW_below r Y)
theorem InB.pA' {Y : World} {g : Nat} {l : List UInt8} (hg : g < Y.heap.size) (h : InB Y g l) (o : Obj) : InB (Y.alloc o) g l := h.below hg ((Below.refl _ _).alloc (Nat.le_refl _) o)
theorem szB6 {w Y : World} (h : Below w.heap.size w Y) : w.heap.size ≤ Y.heap.size := h.size
theorem bA {w Y : World} (h : Below w.heap.size w Y) (o : Obj) : Below w.heap.size w (Y.alloc o) := h.alloc h.size o
theorem bC {w Y : World} (h : Below w.heap.size w Y) (r : List UInt8) : Below w.heap.size w (convW r Y) := h.trans ((convW_below r Y).mono h.size)

theorem own_row {w : World} {base n : Nat} {v : Value} {l : List UInt8} (h : w.ownsRow base 5 1 v n (l.map cell)) (h0 : 0 < l.length) : ∃ g c, v = .slice (some ⟨g, 0, none⟩) n c ∧ Row w g l ∧ n ≤ c ∧ c ≤ maxLen := by
  have hl : l.length = n := by simpa using h.1
  rcases h.2 with ⟨_, h1⟩ | ⟨g, c, cur, rfl, _, _, h1, h2, _⟩
  · omega
  · exact ⟨g, c, rfl, row_of_own h, h1, h2⟩
theorem filled_at (l : List UInt8) (i : Nat) (h : i < l.length) : (filled l).getD i 0 = l.getD i 0 := by
  rw [filled, List.getD_eq_getElem?_getD, List.getElem?_append_left h, List.getD_eq_getElem?_getD]
theorem filled_64 (l : List UInt8) (i : Nat) (h : ¬ i < l.length) (h2 : i < nBlk l.length * 1012) : (filled l).getD i 0 = 64 := by
  rw [filled, List.getD_eq_getElem?_getD, List.getElem?_append_right (by omega), List.getElem?_replicate, if_pos (by omega)]; rfl
theorem news2 (w : World) (a b : Value) (t : TypeId) : ∀ (j : Nat) (u : Value), [a, b][j]? = some u → (w.alloc (.cells #[a, b] t)).cell? ((⟨w.heap.size, 0, none⟩ : Addr).add j) = some u := by
  intro j u h
  match j with
  | 0 => simp at h; subst h; simp [Addr.add, go_sem]
  | 1 => simp at h; subst h; simp [Addr.add, go_sem]
  | j + 2 => simp at h
def sliceAt : Value → Option (Addr × Nat)
  | .slice (some a) n _ => some (a, n)
  | _ => none
theorem sliceAt_is {v : Value} {a : Addr} {n : Nat} (h : sliceAt v = some (a, n)) : ∃ c, v = .slice (some a) n c := by
  unfold sliceAt at h
  split at h
  · simp at h; obtain ⟨rfl, rfl⟩ := h; exact ⟨_, rfl⟩
  · cases h
theorem step_app8 {ops : Array Oper} {o : Oper} {a : Act} {w : World} {K : Act → World → Prop} {Q : Exit → Act → World → Prop} {E : Prop}
    (hg : o.guard = none) (s x : Operand) (ho : o.op = Op.call { callee := Callee.builtin Builtin.append, args := #[s, x], argTypes := #[22, 22] })
    (base : Nat) (v : Value) (n : Nat) (xs : List Value) (hs : a.eval s = v) (hown : w.ownsRow base 5 1 v n xs)
    (g m : Nat) (l : List UInt8) (hx : sliceAt (a.eval x) = some (⟨g, 0, none⟩, m)) (hl : l.length = m) (hnews : InB w g l)
    (hb : n + m ≤ 100000000) (hbase : base ≤ w.heap.size)
    (h : ∀ v' w', w'.ownsRow base 5 1 v' (n + m) (xs ++ l.map cell) → w.grownBy w' v.ownBlock → K (a.put o.dst v') w') :
    if Region.wanted o (yielded ops a.tmps) = true then Oper.wp Tryz.prog o a w K Q else E := by
  obtain ⟨i0, hi, hz0, hz1, hz2⟩ := info_parts info5
  obtain ⟨c, hx⟩ := sliceAt_is hx
  rw [if_pos (by simp [Region.wanted, hg])]
  refine wp_append_own w s x _ ho base 5 i0 (.int .u8 0) 1 1 Tryz.underlying22 hi hz0 hz1 hz2 rfl (by decide) v n xs hs hown ⟨g, 0, none⟩ m c (l.map cell) hx (by simp [hl]) (fun j u hj => ?_) (map_cell_one l) (by unfold maxLen; omega) (by omega) hbase (fun v' w' h1 h2 _ => h v' w' h1 h2)
  rw [List.getElem?_map] at hj
  obtain ⟨y, hy, rfl⟩ := Option.map_eq_some_iff.1 hj
  exact hnews j y hy

set_option maxRecDepth 100000 in
set_option maxHeartbeats 3200000 in
theorem sBlock_any (ao : Option Addr) (cap : Nat) (rs : Recs) (w : World) (hz : TxtsAt w ao rs) (hn : rs.length ≤ 1099511627776) (hd : ∀ r ∈ rs, r.length ≤ 1099511627776) :
    Calls Tryz.prog 63 #[.slice ao rs.length cap] w fun e w' => e = .returned (.tuple #[.string ⟨(blockL rs).toArray⟩, .bool (blockOk rs)]) ∧ Below w.heap.size w w' := by
  obtain ⟨i0, hi, hz0, hz1, hz2⟩ := info_parts info5
  by_cases h200 : (200 : Int) < (rs.length : Int)
  · have HN : Hid _ := blockOk_no1 (rs := rs) (by omega)
    go_enter Tryz.func63, Tryz.ntmps63
    go_wp2
    go_ret2
    exact ⟨str_ok (by rw [blockL_no HN.out]) HN.out.symm, Below.refl _ _⟩
  have h2 : rs.length ≤ 200 := by omega
  have HZ : Hid (TxtsAt w ao rs) := hz
  have HD : Hid (∀ r ∈ rs, r.length ≤ 1099511627776) := hd
  clear hz hd
  have own : (w.alloc (.cells #[] 5)).ownsRow w.heap.size 5 1 (.slice (some ⟨w.heap.size, 0, none⟩) 0 0) 0 [] := World.ownsRow_lit w #[] 0 (Nat.le_refl _) (by unfold maxLen; omega) rfl
  go_enter Tryz.func63, Tryz.ntmps63
  go_wp2
  go_loopw [4, 5] (fun s i wr => ∃ (v : Value) (k : Nat), v = s ∧ k ≤ rs.length ∧ i = .int .i64 k ∧ recsOk rs = recsOk (rs.drop k) ∧ (layR (rs.take k)).length ≤ 3004 * k ∧ wr.ownsRow w.heap.size 5 1 v (layR (rs.take k)).length ((layR (rs.take k)).map cell) ∧ Below w.heap.size w wr) (fun _ i _ => rs.length - (intOf i).toNat)
  case atStart => exact ⟨_, 0, rfl, Nat.zero_le _, rfl, rfl, by simp [layR], own, by go_grown⟩
  case round =>
    obtain ⟨v, k, hvs, hk, rfl, hok, hbd, ho, hbr⟩ := hrel
    subst hvs
    have hbs := hbr.size
    clear own
    by_cases hlt : k < rs.length
    · rcases HZ.out with h | ⟨b, off, rfl, hb, hcell⟩
      · rw [h] at hlt; simp at hlt
      have c0 := hcell k hlt
      have c1 := (hbr.cell (p := ⟨b, off + k, none⟩) hb).trans c0
      have hki : (k : Int) < (rs.length : Int) := by omega
      have hst := recsOk_step rs k hlt
      have hls := layR_step rs k hlt
      have hrl := HD.out _ (nth_mem hlt)
      obtain ⟨r, hr⟩ : ∃ r, nth rs k = r := ⟨_, rfl⟩
      rw [hr] at c0 c1 hst hrl hls
      have HCK : Hid _ := c0
      clear c0
      cases hro : recOk r
      · have HN : Hid (blockOk rs = false) := blockOk_no2 (by rw [hok, hst, hro]; rfl)
        have HRO : Hid _ := hro
        have HRI : Hid _ := in_rec r
        clear hcell hok hst hr hro hls
        go_wp2_with fail
        refine (in6_any _ _ _ _).mono ?_
        rintro e w2 ⟨rfl, hw2⟩
        rw [hw2, HRI.out, HRO.out]
        clear hw2
        go_wp2
        go_ret2
        exact ⟨str_ok (by rw [blockL_no HN.out]) HN.out.symm, hbr⟩
      · have HN : Hid (recsOk rs = recsOk (rs.drop (k + 1))) := by rw [Hid, hok, hst, hro]; rfl
        have hr3 := recOk_is hro
        have HRO : Hid _ := hro
        have HRI : Hid _ := in_rec r
        obtain ⟨L, hL⟩ : ∃ L, layR (rs.take k) = L := ⟨_, rfl⟩
        rw [hL] at ho hbd hls
        have HLS : Hid _ := hls
        have HO : Hid (wr.ownsRow w.heap.size 5 1 v L.length (L.map cell)) := ho
        have HLT : Hid (∀ j, v.ownBlock = some j → w.heap.size ≤ j) := fun j hj => (ho.lt j hj).1
        have HLU : Hid (∀ j, v.ownBlock = some j → j < wr.heap.size) := fun j hj => (ho.lt j hj).2
        have HBD : Hid ((layR (rs.take (k + 1))).length ≤ 3004 * (k + 1)) := by rw [Hid, hls, List.length_append, List.length_append, be4_len]; omega
        clear hcell hok hst hr hro hls hL ho
        go_wp2_with fail
        refine (in6_any _ _ _ _).mono ?_
        rintro e w2 ⟨rfl, hw2⟩
        rw [hw2, HRI.out, HRO.out]
        clear hw2
        have hcv := conv_run r
        have hcA : ∀ o, (wr.alloc o).cell? ⟨b, off + k, none⟩ = some (.string ⟨r.toArray⟩) := fun o => (World.cell?_alloc_lt _ _ ⟨b, off + k, none⟩ (Nat.lt_of_lt_of_le hb hbs)).trans c1
        have hcC : (convW r wr.drew).cell? ⟨b, off + k, none⟩ = some (.string ⟨r.toArray⟩) := ((convW_below r wr.drew).cell (p := ⟨b, off + k, none⟩) (Nat.lt_of_lt_of_le hb hbs)).trans c1
        go_wp2
        go_region_law (first
          | (refine step_app8 rfl (.tmp 26) (.tmp 32) rfl w.heap.size v L.length (L.map cell) (by kernel_rfl) (keepRowS HO.out ?_) (wr.heap.size) 4 (be4 r.length) (by kernel_rfl) (be4_len _) ?_ (by omega) (Nat.le_trans hbs (szB6 (w := wr) ?_)) ?_; (repeat (first | with_reducible exact Below.refl _ _ | with_reducible refine bA ?_ _ | with_reducible refine bC ?_ _ | with_reducible refine Below.drew ?_ | with_reducible refine below_drewN ?_ _ | (with_reducible refine inB_new _ _ _ _ ?_; focus (first | rfl | (simp; done) | (rw [convW_size]; simp; done) | (rw [convW_size]; rfl))) | (with_reducible refine inB_conv _ _ _ ?_; focus (first | rfl | (simp; done) | (rw [convW_size]; simp; done) | (rw [convW_size]; rfl))) | with_reducible refine InB.pD ?_ | (with_reducible refine InB.pC' ?_ ?_ _; focus (first | (simp; done) | (simp; omega) | (rw [convW_size]; simp; done) | (rw [convW_size]; simp; omega) | (rw [convW_size]; omega))) | (with_reducible refine InB.pA' ?_ ?_ _; focus (first | (simp; done) | (simp; omega) | (rw [convW_size]; simp; done) | (rw [convW_size]; simp; omega) | (rw [convW_size]; omega))))); intro v4 w4 o4 g4; have q4 : Below w.heap.size w w4 := (by refine app_below (hbr.trans (Below.mono (B := wr.heap.size) ?_ hbs)) (Nat.le_trans hbs (szB6 (w := wr) ?_)) HLT.out g4; (repeat (first | with_reducible exact Below.refl _ _ | with_reducible refine bA ?_ _ | with_reducible refine bC ?_ _ | with_reducible refine Below.drew ?_ | with_reducible refine below_drewN ?_ _ | (with_reducible refine inB_new _ _ _ _ ?_; focus (first | rfl | (simp; done) | (rw [convW_size]; simp; done) | (rw [convW_size]; rfl))) | (with_reducible refine inB_conv _ _ _ ?_; focus (first | rfl | (simp; done) | (rw [convW_size]; simp; done) | (rw [convW_size]; rfl))) | with_reducible refine InB.pD ?_ | (with_reducible refine InB.pC' ?_ ?_ _; focus (first | (simp; done) | (simp; omega) | (rw [convW_size]; simp; done) | (rw [convW_size]; simp; omega) | (rw [convW_size]; omega))) | (with_reducible refine InB.pA' ?_ ?_ _; focus (first | (simp; done) | (simp; omega) | (rw [convW_size]; simp; done) | (rw [convW_size]; simp; omega) | (rw [convW_size]; omega)))))); have c4 := (q4.cell (p := ⟨b, off + k, none⟩) hb).trans HCK.out; have HT4 : Hid (∀ g l, wr.heap.size ≤ g → InB _ g l → InB w4 g l) := fun g l hg h => h.grown g4 (fun e => by have := HLU.out g e; omega); have HO4 : Hid (w4.ownsRow w.heap.size 5 1 v4 (L.length + 4) (L.map cell ++ (be4 r.length).map cell)) := o4; have HL4 : Hid (∀ j, v4.ownBlock = some j → w.heap.size ≤ j) := fun j hj => (o4.lt j hj).1; have hs4 := q4.size; clear o4 g4)
          | (refine step_app8 rfl (.tmp 26) (.tmp 32) rfl w.heap.size v L.length (L.map cell) (by kernel_rfl) (keepRowS HO.out ?_) ((convW r wr.drew).heap.size) 4 (be4 r.length) (by kernel_rfl) (be4_len _) ?_ (by omega) (Nat.le_trans hbs (szB6 (w := wr) ?_)) ?_; (repeat (first | with_reducible exact Below.refl _ _ | with_reducible refine bA ?_ _ | with_reducible refine bC ?_ _ | with_reducible refine Below.drew ?_ | with_reducible refine below_drewN ?_ _ | (with_reducible refine inB_new _ _ _ _ ?_; focus (first | rfl | (simp; done) | (rw [convW_size]; simp; done) | (rw [convW_size]; rfl))) | (with_reducible refine inB_conv _ _ _ ?_; focus (first | rfl | (simp; done) | (rw [convW_size]; simp; done) | (rw [convW_size]; rfl))) | with_reducible refine InB.pD ?_ | (with_reducible refine InB.pC' ?_ ?_ _; focus (first | (simp; done) | (simp; omega) | (rw [convW_size]; simp; done) | (rw [convW_size]; simp; omega) | (rw [convW_size]; omega))) | (with_reducible refine InB.pA' ?_ ?_ _; focus (first | (simp; done) | (simp; omega) | (rw [convW_size]; simp; done) | (rw [convW_size]; simp; omega) | (rw [convW_size]; omega))))); intro v4 w4 o4 g4; have q4 : Below w.heap.size w w4 := (by refine app_below (hbr.trans (Below.mono (B := wr.heap.size) ?_ hbs)) (Nat.le_trans hbs (szB6 (w := wr) ?_)) HLT.out g4; (repeat (first | with_reducible exact Below.refl _ _ | with_reducible refine bA ?_ _ | with_reducible refine bC ?_ _ | with_reducible refine Below.drew ?_ | with_reducible refine below_drewN ?_ _ | (with_reducible refine inB_new _ _ _ _ ?_; focus (first | rfl | (simp; done) | (rw [convW_size]; simp; done) | (rw [convW_size]; rfl))) | (with_reducible refine inB_conv _ _ _ ?_; focus (first | rfl | (simp; done) | (rw [convW_size]; simp; done) | (rw [convW_size]; rfl))) | with_reducible refine InB.pD ?_ | (with_reducible refine InB.pC' ?_ ?_ _; focus (first | (simp; done) | (simp; omega) | (rw [convW_size]; simp; done) | (rw [convW_size]; simp; omega) | (rw [convW_size]; omega))) | (with_reducible refine InB.pA' ?_ ?_ _; focus (first | (simp; done) | (simp; omega) | (rw [convW_size]; simp; done) | (rw [convW_size]; simp; omega) | (rw [convW_size]; omega)))))); have c4 := (q4.cell (p := ⟨b, off + k, none⟩) hb).trans HCK.out; have HT4 : Hid (∀ g l, wr.heap.size ≤ g → InB _ g l → InB w4 g l) := fun g l hg h => h.grown g4 (fun e => by have := HLU.out g e; omega); have HO4 : Hid (w4.ownsRow w.heap.size 5 1 v4 (L.length + 4) (L.map cell ++ (be4 r.length).map cell)) := o4; have HL4 : Hid (∀ j, v4.ownBlock = some j → w.heap.size ≤ j) := fun j hj => (o4.lt j hj).1; have hs4 := q4.size; clear o4 g4)
          | (refine step_app8 rfl (.tmp 33) (.tmp 38) rfl w.heap.size v4 (L.length + 4) (L.map cell ++ (be4 r.length).map cell) (by kernel_rfl) (keepRowS HO4.out ?_) (w4.heap.size) r.length r (by kernel_rfl) rfl (?_) (by omega) (Nat.le_trans hs4 (szB6 (w := w4) ?_)) ?_; (repeat (first | with_reducible exact Below.refl _ _ | with_reducible refine bA ?_ _ | with_reducible refine bC ?_ _ | with_reducible refine Below.drew ?_ | with_reducible refine below_drewN ?_ _ | (with_reducible refine inB_new _ _ _ _ ?_; focus (first | rfl | (simp; done) | (rw [convW_size]; simp; done) | (rw [convW_size]; rfl))) | (with_reducible refine inB_conv _ _ _ ?_; focus (first | rfl | (simp; done) | (rw [convW_size]; simp; done) | (rw [convW_size]; rfl))) | with_reducible refine InB.pD ?_ | (with_reducible refine InB.pC' ?_ ?_ _; focus (first | (simp; done) | (simp; omega) | (rw [convW_size]; simp; done) | (rw [convW_size]; simp; omega) | (rw [convW_size]; omega))) | (with_reducible refine InB.pA' ?_ ?_ _; focus (first | (simp; done) | (simp; omega) | (rw [convW_size]; simp; done) | (rw [convW_size]; simp; omega) | (rw [convW_size]; omega))))); intro v5 w5 o5 g5; have q5 : Below w.heap.size w w5 := (by refine app_below (q4.trans (Below.mono (B := w4.heap.size) ?_ hs4)) (Nat.le_trans hs4 (szB6 (w := w4) ?_)) HL4.out g5; (repeat (first | with_reducible exact Below.refl _ _ | with_reducible refine bA ?_ _ | with_reducible refine bC ?_ _ | with_reducible refine Below.drew ?_ | with_reducible refine below_drewN ?_ _ | (with_reducible refine inB_new _ _ _ _ ?_; focus (first | rfl | (simp; done) | (rw [convW_size]; simp; done) | (rw [convW_size]; rfl))) | (with_reducible refine inB_conv _ _ _ ?_; focus (first | rfl | (simp; done) | (rw [convW_size]; simp; done) | (rw [convW_size]; rfl))) | with_reducible refine InB.pD ?_ | (with_reducible refine InB.pC' ?_ ?_ _; focus (first | (simp; done) | (simp; omega) | (rw [convW_size]; simp; done) | (rw [convW_size]; simp; omega) | (rw [convW_size]; omega))) | (with_reducible refine InB.pA' ?_ ?_ _; focus (first | (simp; done) | (simp; omega) | (rw [convW_size]; simp; done) | (rw [convW_size]; simp; omega) | (rw [convW_size]; omega)))))); have HR5 : Hid (w5.ownsRow w.heap.size 5 1 v5 (layR (rs.take (k + 1))).length ((layR (rs.take (k + 1))).map cell)) := (by rw [HLS.out]; rw [← List.map_append, ← List.map_append] at o5; rw [← List.append_assoc, List.length_append, List.length_append, be4_len]; exact o5); clear o5 g5)
          | (refine step_app8 rfl (.tmp 33) (.tmp 38) rfl w.heap.size v4 (L.length + 4) (L.map cell ++ (be4 r.length).map cell) (by kernel_rfl) (keepRowS HO4.out ?_) (wr.heap.size + 1) r.length r (by kernel_rfl) rfl (HT4.out _ _ (by omega) ?_) (by omega) (Nat.le_trans hs4 (szB6 (w := w4) ?_)) ?_; (repeat (first | with_reducible exact Below.refl _ _ | with_reducible refine bA ?_ _ | with_reducible refine bC ?_ _ | with_reducible refine Below.drew ?_ | with_reducible refine below_drewN ?_ _ | (with_reducible refine inB_new _ _ _ _ ?_; focus (first | rfl | (simp; done) | (rw [convW_size]; simp; done) | (rw [convW_size]; rfl))) | (with_reducible refine inB_conv _ _ _ ?_; focus (first | rfl | (simp; done) | (rw [convW_size]; simp; done) | (rw [convW_size]; rfl))) | with_reducible refine InB.pD ?_ | (with_reducible refine InB.pC' ?_ ?_ _; focus (first | (simp; done) | (simp; omega) | (rw [convW_size]; simp; done) | (rw [convW_size]; simp; omega) | (rw [convW_size]; omega))) | (with_reducible refine InB.pA' ?_ ?_ _; focus (first | (simp; done) | (simp; omega) | (rw [convW_size]; simp; done) | (rw [convW_size]; simp; omega) | (rw [convW_size]; omega))))); intro v5 w5 o5 g5; have q5 : Below w.heap.size w w5 := (by refine app_below (q4.trans (Below.mono (B := w4.heap.size) ?_ hs4)) (Nat.le_trans hs4 (szB6 (w := w4) ?_)) HL4.out g5; (repeat (first | with_reducible exact Below.refl _ _ | with_reducible refine bA ?_ _ | with_reducible refine bC ?_ _ | with_reducible refine Below.drew ?_ | with_reducible refine below_drewN ?_ _ | (with_reducible refine inB_new _ _ _ _ ?_; focus (first | rfl | (simp; done) | (rw [convW_size]; simp; done) | (rw [convW_size]; rfl))) | (with_reducible refine inB_conv _ _ _ ?_; focus (first | rfl | (simp; done) | (rw [convW_size]; simp; done) | (rw [convW_size]; rfl))) | with_reducible refine InB.pD ?_ | (with_reducible refine InB.pC' ?_ ?_ _; focus (first | (simp; done) | (simp; omega) | (rw [convW_size]; simp; done) | (rw [convW_size]; simp; omega) | (rw [convW_size]; omega))) | (with_reducible refine InB.pA' ?_ ?_ _; focus (first | (simp; done) | (simp; omega) | (rw [convW_size]; simp; done) | (rw [convW_size]; simp; omega) | (rw [convW_size]; omega)))))); have HR5 : Hid (w5.ownsRow w.heap.size 5 1 v5 (layR (rs.take (k + 1))).length ((layR (rs.take (k + 1))).map cell)) := (by rw [HLS.out]; rw [← List.map_append, ← List.map_append] at o5; rw [← List.append_assoc, List.length_append, List.length_append, be4_len]; exact o5); clear o5 g5)
          | (refine step_app8 rfl (.tmp 33) (.tmp 38) rfl w.heap.size v4 (L.length + 4) (L.map cell ++ (be4 r.length).map cell) (by kernel_rfl) (keepRowS HO4.out ?_) (wr.heap.size) r.length r (by kernel_rfl) rfl (HT4.out _ _ (Nat.le_refl _) ?_) (by omega) (Nat.le_trans hs4 (szB6 (w := w4) ?_)) ?_; (repeat (first | with_reducible exact Below.refl _ _ | with_reducible refine bA ?_ _ | with_reducible refine bC ?_ _ | with_reducible refine Below.drew ?_ | with_reducible refine below_drewN ?_ _ | (with_reducible refine inB_new _ _ _ _ ?_; focus (first | rfl | (simp; done) | (rw [convW_size]; simp; done) | (rw [convW_size]; rfl))) | (with_reducible refine inB_conv _ _ _ ?_; focus (first | rfl | (simp; done) | (rw [convW_size]; simp; done) | (rw [convW_size]; rfl))) | with_reducible refine InB.pD ?_ | (with_reducible refine InB.pC' ?_ ?_ _; focus (first | (simp; done) | (simp; omega) | (rw [convW_size]; simp; done) | (rw [convW_size]; simp; omega) | (rw [convW_size]; omega))) | (with_reducible refine InB.pA' ?_ ?_ _; focus (first | (simp; done) | (simp; omega) | (rw [convW_size]; simp; done) | (rw [convW_size]; simp; omega) | (rw [convW_size]; omega))))); intro v5 w5 o5 g5; have q5 : Below w.heap.size w w5 := (by refine app_below (q4.trans (Below.mono (B := w4.heap.size) ?_ hs4)) (Nat.le_trans hs4 (szB6 (w := w4) ?_)) HL4.out g5; (repeat (first | with_reducible exact Below.refl _ _ | with_reducible refine bA ?_ _ | with_reducible refine bC ?_ _ | with_reducible refine Below.drew ?_ | with_reducible refine below_drewN ?_ _ | (with_reducible refine inB_new _ _ _ _ ?_; focus (first | rfl | (simp; done) | (rw [convW_size]; simp; done) | (rw [convW_size]; rfl))) | (with_reducible refine inB_conv _ _ _ ?_; focus (first | rfl | (simp; done) | (rw [convW_size]; simp; done) | (rw [convW_size]; rfl))) | with_reducible refine InB.pD ?_ | (with_reducible refine InB.pC' ?_ ?_ _; focus (first | (simp; done) | (simp; omega) | (rw [convW_size]; simp; done) | (rw [convW_size]; simp; omega) | (rw [convW_size]; omega))) | (with_reducible refine InB.pA' ?_ ?_ _; focus (first | (simp; done) | (simp; omega) | (rw [convW_size]; simp; done) | (rw [convW_size]; simp; omega) | (rw [convW_size]; omega)))))); have HR5 : Hid (w5.ownsRow w.heap.size 5 1 v5 (layR (rs.take (k + 1))).length ((layR (rs.take (k + 1))).map cell)) := (by rw [HLS.out]; rw [← List.map_append, ← List.map_append] at o5; rw [← List.append_assoc, List.length_append, List.length_append, be4_len]; exact o5); clear o5 g5)
          | (go_simp; go_at_call 108; refine (l06Len_any r.length _ (by omega)).mono ?_; rintro e w3 ⟨rfl, hw3⟩; rw [hw3]; clear hw3)
          | fail)
        all_goals
          go_wp2
          go_roundw
          case rel => exact ⟨_, k + 1, rfl, by omega, by go_num, HN.out, HBD.out, HR5.out, q5⟩
          case measure => simp [intOf]; omega
    · have hke : k = rs.length := by omega
      subst hke
      have hok2 : recsOk rs = true := by rw [hok]; exact recsOk_end rs
      rw [List.take_length] at ho hbd
      have HLY : Hid (layR rs ++ be4 0 = laid rs) := rfl
      have hA4 := laid_len rs
      have HOKY : Hid (nBlk (laid rs).length * 1014 ≤ 60000 → blockOk rs = true ∧ blockL rs = fileOf (laid rs)) := fun h => by
        have := blockOk_of h2 hok2 h
        exact ⟨this, blockL_yes this⟩
      have HOKN : Hid (60000 < nBlk (laid rs).length * 1014 → blockOk rs = false ∧ blockL rs = []) := fun h => by
        have := blockOk_no3 h
        exact ⟨this, blockL_no this⟩
      have HO : Hid (wr.ownsRow w.heap.size 5 1 v (layR rs).length ((layR rs).map cell)) := ho
      have HLT : Hid (∀ j, v.ownBlock = some j → w.heap.size ≤ j) := fun j hj => (ho.lt j hj).1
      obtain ⟨A, hA⟩ : ∃ A, laid rs = A := ⟨_, rfl⟩
      rw [hA] at HLY hA4 HOKY HOKN
      clear hok hok2 ho hA
      go_wp2_with (at_builtin; refine wpList_append_own _ rfl (.tmp 40) (.tmp 41) 22 rfl w.heap.size 5 i0 (.int .u8 0) 1 1 Tryz.underlying22 hi hz0 hz1 hz2 rfl (by decide) v (layR rs).length _ rfl (HO.out.alloc _) ⟨wr.heap.size, 0, none⟩ 4 4 [.int .u8 0, .int .u8 0, .int .u8 0, .int .u8 0] rfl rfl (news4 _ _ _ _ _ _) (one4 _ _ _ _) (by unfold maxLen; omega) (by omega) (by simp; omega) ?_; intro v4 w4 o4 g4 _)
      have q4 : Below w.heap.size w w4 := app_below (hbr.alloc hbs _) (by simp; omega) HLT.out g4
      have hs4 := q4.size
      have R4 : w4.ownsRow w.heap.size 5 1 v4 A.length (A.map cell) := by
        rw [← HLY.out, List.length_append, be4_len, List.map_append]
        exact o4
      obtain ⟨ga, ca, hva, hrow, hca⟩ := own_row R4 (by omega)
      subst hva
      have hgl := hrow.lt
      have hca2 := hca.2
      unfold maxLen at hca2
      have hca1 := hca.1
      clear hca
      have HROW : Hid (Row w4 ga A) := hrow
      have hA0 : 0 < A.length := by omega
      have hAb : A.length ≤ 600804 := by omega
      clear o4 g4 R4 hrow HO HLT hbr hbs hA4 hbd
      have hb0 : 0 < nBlk A.length := by have := nBlk_le A.length; omega
      have HK : Hid (∀ m, m < nBlk A.length → m * 1012 < A.length) := fun k hk => by have := nBlk_lt A.length; omega
      have HK2 : Hid (∀ m, ¬ m < nBlk A.length → ¬ m * 1012 < A.length) := fun k hk => by have := nBlk_le A.length; omega
      have HFL : Hid _ := filled_len A
      have hMb : nBlk A.length ≤ 700 := by unfold nBlk; omega
      have HAT : Hid _ := filled_at A
      have HAT2 : Hid _ := filled_64 A
      have HEND : Hid (fileM (filled A) (nBlk A.length) = fileOf A) := rfl
      obtain ⟨M, hM⟩ : ∃ M, nBlk A.length = M := ⟨_, rfl⟩
      obtain ⟨F, hF⟩ : ∃ F, filled A = F := ⟨_, rfl⟩
      rw [hM] at hb0 hMb HK HK2 HFL HOKY HOKN HEND HAT2
      rw [hF] at HFL HAT HAT2 HEND
      clear hM hF
      have own2 : (w4.alloc (.cells #[] 5)).ownsRow w4.heap.size 5 1 (.slice (some ⟨w4.heap.size, 0, none⟩) 0 0) 0 [] := World.ownsRow_lit w4 #[] 0 (Nat.le_refl _) (by unfold maxLen; omega) rfl
      have HOWN2 : Hid ((w4.alloc (.cells #[] 5)).ownsRow w4.heap.size 5 1 (.slice (some ⟨w4.heap.size, 0, none⟩) 0 0) 0 []) := own2
      clear own2
      go_wp2
      go_loopw [6, 7] (fun s i wx => ∃ (v : Value) (m a : Nat), v = s ∧ m ≤ M ∧ i = .int .i64 (a : Nat) ∧ a = m * 1012 ∧ m * 1014 ≤ 60000 ∧ wx.ownsRow w4.heap.size 5 1 v (m * 1014) ((fileM F m).map cell) ∧ Below w4.heap.size w4 wx) (fun _ i _ => M * 1012 - (intOf i).toNat)
      case atStart => exact ⟨_, 0, 0, rfl, Nat.zero_le _, rfl, rfl, by omega, HOWN2.out, by go_grown⟩
      case round =>
        obtain ⟨v, m, a, hvs, hm, rfl, ha, hm6, ho, hb5⟩ := hrel
        have HAE : Hid (a = m * 1012) := ha
        subst hvs
        obtain ⟨W, hW⟩ : ∃ W, W = wr := ⟨wr, rfl⟩
        subst hW
        have HO : Hid (W.ownsRow w4.heap.size 5 1 v (m * 1014) ((fileM F m).map cell)) := ho
        have hs5 := hb5.size
        have hq := next q4 hb5
        clear HOWN2 ho
        by_cases hlt : m < M
        · have hml := HK.out m hlt
          have hmi : (a : Int) < (A.length : Int) := by omega
          have hFl := HFL.out
          have hmM : m * 1012 + 1012 ≤ F.length := by rw [hFl]; omega
          have HTK : Hid (∀ j, j < 1012 → (F.drop (m * 1012)).take (j + 1) = (F.drop (m * 1012)).take j ++ [F.getD (m * 1012 + j) 0]) := fun j hj => by
            rw [take_succ_at _ j (by rw [List.length_drop]; omega), List.getD_eq_getElem?_getD, List.getElem?_drop, List.getD_eq_getElem?_getD]
          have HSU : Hid _ := fileM_succ F m
          have hab : a ≤ 100000 := by omega
          rw [← ha] at hmM HTK HSU
          have HMM : Hid _ := hmM
          clear ha hmM
          go_wp2
          go_loopw [6, 8] (fun s i wx => ∃ (v : Value) (j p : Nat), v = s ∧ j ≤ 1012 ∧ i = .int .i64 (p : Nat) ∧ p = a + j ∧ wx.ownsRow w4.heap.size 5 1 v (m * 1014 + j) ((fileM F m ++ (F.drop a).take j).map cell) ∧ Below w4.heap.size w4 wx) (fun _ i _ => a + 1012 - (intOf i).toNat)
          case atStart => exact ⟨_, 0, a, rfl, Nat.zero_le _, rfl, rfl, by rw [List.take_zero, List.append_nil]; exact HO.out, hb5⟩
          case round =>
            obtain ⟨u, j, p, hus, hj, rfl, hp, hou, hb6⟩ := hrel
            have HPE : Hid (p = a + j) := hp
            subst hus
            have hs6 := hb6.size
            have HOU : Hid (wr.ownsRow w4.heap.size 5 1 u (m * 1014 + j) ((fileM F m ++ (F.drop a).take j).map cell)) := hou
            have HLT : Hid (∀ j, u.ownBlock = some j → w4.heap.size ≤ j) := fun j hj => (hou.lt j hj).1
            clear HO hou
            by_cases hj2 : j < 1012
            · have hji : (p : Int) < (a : Int) + 1014 - 2 := by omega
              have htk := HTK.out j hj2
              rw [← hp] at htk
              clear hp
              by_cases hin : p < A.length
              · have hini : (p : Int) < (A.length : Int) := by omega
                have c1 : wr.cell? ⟨ga, p, none⟩ = some (.int .u8 ((A.getD p 0).toNat : Int)) := (HROW.out.keep hb6 hgl).at hin
                rw [HAT.out _ hin] at htk
                obtain ⟨x, hx⟩ : ∃ x, A.getD p 0 = x := ⟨_, rfl⟩
                rw [hx] at c1 htk
                have HTX : Hid _ := htk
                clear hx htk
                go_wp2_with (at_builtin; refine wpList_append_own _ rfl (.tmp 63) (.tmp 68) 22 rfl w4.heap.size 5 i0 (.int .u8 0) 1 1 Tryz.underlying22 hi hz0 hz1 hz2 rfl (by decide) u (m * 1014 + j) _ rfl (HOU.out.alloc _) ⟨wr.heap.size, 0, none⟩ 1 1 [.int .u8 (x.toNat : Int)] rfl rfl (cell_one_new _ _ _) (ints_oneCell .u8 [(x.toNat : Int)]) (by unfold maxLen; omega) (by omega) (by simp; omega) ?_; intro v7 w7 o7 g7 _)
                have q7 : Below w4.heap.size w4 w7 := app_below (hb6.alloc hs6 _) (by simp; omega) HLT.out g7
                have HR7 : Hid (w7.ownsRow w4.heap.size 5 1 v7 (m * 1014 + (j + 1)) ((fileM F m ++ (F.drop a).take (j + 1)).map cell)) := by
                  rw [HTX.out, ← List.append_assoc, List.map_append]; exact o7
                clear o7 g7 HOU
                go_wp2
                go_roundw
                case rel => exact ⟨_, j + 1, p + 1, rfl, by omega, by go_num, by have := HPE.out; omega, HR7.out, q7⟩
                case measure => have := HPE.out; simp [intOf]; omega
              · have hini : ¬ (p : Int) < (A.length : Int) := by omega
                rw [HAT2.out _ hin (by have := HPE.out; have := HAE.out; have := HFL.out; have := HMM.out; omega)] at htk
                have HTX : Hid _ := htk
                clear htk
                go_wp2_with (at_builtin; refine wpList_append_own _ rfl (.tmp 70) (.tmp 71) 22 rfl w4.heap.size 5 i0 (.int .u8 0) 1 1 Tryz.underlying22 hi hz0 hz1 hz2 rfl (by decide) u (m * 1014 + j) _ rfl (HOU.out.alloc _) ⟨wr.heap.size, 0, none⟩ 1 1 [.int .u8 64] rfl rfl (cell_one_new _ _ _) (ints_oneCell .u8 [64]) (by unfold maxLen; omega) (by omega) (by simp; omega) ?_; intro v7 w7 o7 g7 _)
                have q7 : Below w4.heap.size w4 w7 := app_below (hb6.alloc hs6 _) (by simp; omega) HLT.out g7
                have HR7 : Hid (w7.ownsRow w4.heap.size 5 1 v7 (m * 1014 + (j + 1)) ((fileM F m ++ (F.drop a).take (j + 1)).map cell)) := by
                  rw [HTX.out, ← List.append_assoc, List.map_append]; exact o7
                clear o7 g7 HOU
                go_wp2
                go_roundw
                case rel => exact ⟨_, j + 1, p + 1, rfl, by omega, by go_num, by have := HPE.out; omega, HR7.out, q7⟩
                case measure => have := HPE.out; simp [intOf]; omega
            · have hje : j = 1012 := by omega
              subst hje
              have hji : ¬ (p : Int) < (a : Int) + 1014 - 2 := by omega
              clear hp
              go_wp2_with (at_builtin; refine wpList_append_own _ rfl (.tmp 73) (.tmp 74) 22 rfl w4.heap.size 5 i0 (.int .u8 0) 1 1 Tryz.underlying22 hi hz0 hz1 hz2 rfl (by decide) u (m * 1014 + 1012) _ rfl (HOU.out.alloc _) ⟨wr.heap.size, 0, none⟩ 2 2 [.int .u8 64, .int .u8 64] rfl rfl (news2 _ _ _ _) (ints_oneCell .u8 [64, 64]) (by unfold maxLen; omega) (by omega) (by simp; omega) ?_; intro v7 w7 o7 g7 _)
              have q7 : Below w4.heap.size w4 w7 := app_below (hb6.alloc hs6 _) (by simp; omega) HLT.out g7
              have R7 : w7.ownsRow w4.heap.size 5 1 v7 ((m + 1) * 1014) ((fileM F (m + 1)).map cell) := by
                rw [HSU.out, ← List.append_assoc, List.map_append, show (m + 1) * 1014 = m * 1014 + 1012 + 2 by omega]; exact o7
              obtain ⟨N8, hN8⟩ : ∃ N8, (m + 1) * 1014 = N8 := ⟨_, rfl⟩
              rw [hN8] at R7
              obtain ⟨g8, c8, hv8, -, -⟩ := own_row R7 (by rw [fileM_len F (m + 1) (by have := HMM.out; have := HAE.out; omega)]; omega)
              subst hv8
              have HR7 : Hid (w7.ownsRow w4.heap.size 5 1 (.slice (some ⟨g8, 0, none⟩) N8 c8) N8 ((fileM F (m + 1)).map cell)) := R7
              have HN8 : Hid _ := hN8
              have hN8b : N8 ≤ 800000 := by omega
              clear o7 g7 HOU R7 hN8
              by_cases h6 : (60000 : Int) < (N8 : Int)
              · obtain ⟨e1, e2⟩ := HOKN.out (by have : (m + 1) * 1014 ≤ M * 1014 := Nat.mul_le_mul_right _ hlt; have := HN8.out; omega)
                have E1 : Hid _ := e1
                have E2 : Hid _ := e2
                have Q := next q4 q7
                have hd6 : decide ((60000 : Int) < (N8 : Int)) = true := decide_eq_true h6
                clear e1 e2 h6
                go_simp
                go_wp2
                go_ret2
                exact ⟨str_ok (by rw [E2.out]) E1.out.symm, Q⟩
              · go_wp2
                go_roundw
                case rel => exact ⟨_, m + 1, a + 1012, rfl, by omega, by go_num, by have := HAE.out; omega, by have := HN8.out; omega, by have := HN8.out; rw [this]; exact HR7.out, q7⟩
                case measure => have := HAE.out; simp [intOf]; omega
        · have hmM : m = M := by omega
          subst hmM
          have hml := HK2.out m (by omega)
          have hmi : ¬ (a : Int) < (A.length : Int) := by omega
          clear ha
          obtain ⟨e1, e2⟩ := HOKY.out hm6
          have E1 : Hid _ := e1
          have E2 : Hid _ := e2
          have ht := text_own HO.out
          rw [HEND.out] at ht
          rw [← e2] at ht
          clear e1 e2 HO
          go_wp2
          go_ret2
          exact ⟨str_ok rfl E1.out.symm, hq⟩

end Go.Proofs.YtbncdhfmhokgeaaGreatDoor
