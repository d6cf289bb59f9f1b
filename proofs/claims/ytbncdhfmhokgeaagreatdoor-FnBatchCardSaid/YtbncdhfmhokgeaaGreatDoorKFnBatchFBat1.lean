/- The contracts of the program's batchHead, placedRecord, join (of messages), tailRecord. -/
import Derived.Test.YtbncdhfmhokgeaaGreatDoorJFnBatch5a
import Derived.Test.YtbncdhfmhokgeaaGreatDoorJFnBatch3a
import Derived.Test.YtbncdhfmhokgeaaGreatDoorJFnBatch0a
import Derived.Test.YtbncdhfmhokgeaaGreatDoorJFnBatch1a
import Derived.Deep.DeepCutAuto
namespace Go.Proofs.YtbncdhfmhokgeaaGreatDoor
open Go.RowKit
set_option maxRecDepth 100000

set_option maxHeartbeats 400000 in
theorem batchHead_any (w : World) :
    Calls Tryz.prog 56 #[] w fun e w' => e = .returned (.agg #[.int .i64 1644, .slice (some ⟨w.heap.size + 1, 0, none⟩) 1 1]) ∧ FldsAt w' (some ⟨w.heap.size + 1, 0, none⟩) headF ∧ Below w.heap.size w w' := by
  go_enter Tryz.func56, Tryz.ntmps56
  go_wp2
  go_returns
  refine ⟨rfl, ?_, ?_⟩
  · refine .inr ⟨w.heap.size + 1, 0, rfl, by simp, fun i hi => ?_⟩
    obtain rfl : i = 0 := by simpa [headF] using hi
    exact ⟨by simp [go_sem, at0, headF], by simp [go_sem, at0, headF]⟩
  · go_grown

theorem small_ok {fs : List Fld} (h : okF 1 fs = true) : fs.length ≤ 92 ∧ sumF fs ≤ 100000 := by
  have hl : fs.length ≤ 92 := by
    rcases okF_len h (by omega) with rfl | h1
    · simp
    · omega
  have : ∀ gs : List Fld, (∀ f ∈ gs, fieldOk f.1 f.2 = true) → sumF gs ≤ 999 * gs.length := by
    intro gs
    induction gs with
    | nil => intro _; simp [sumF]
    | cons f r ih =>
      intro hg
      have h1 := ih (fun x hx => hg x (List.mem_cons_of_mem _ hx))
      have h2 : f.2.length ≤ 999 := by rcases fieldOk_K (hg f (List.mem_cons_self ..)) with h | h | h | h | h <;> omega
      simp only [sumF, List.map_cons, List.sum_cons, List.length_cons] at h1 ⊢
      omega
  have h3 := this fs (fun f hf => (okF_mem h f hf).1)
  exact ⟨hl, by omega⟩
/-- what a placed record is -/
def placedL (kd : Int) (fs : List Fld) (i : Nat) : List UInt8 := if msgOk kd fs = true then packL kd (withF fs 71 (place i)) else []
theorem placedL_no {kd : Int} {fs : List Fld} {i : Nat} (h : msgOk kd fs = false) : placedL kd fs i = [] := if_neg (by rw [h]; decide)
theorem placedL_yes {kd : Int} {fs : List Fld} {i : Nat} (h : msgOk kd fs = true) : placedL kd fs i = packL kd (withF fs 71 (place i)) := if_pos h

/-- what stands behind With's call, in whatever order its box was made -/
structure PlB (W : World) (kd : Int) (gs : List Fld) (B : Nat) (ao : Option Addr) (cap : Nat) (u : World) : Prop where
  c0 : u.cell? ⟨B, 0, none⟩ = some (.int .i64 kd)
  c1 : u.cell? ⟨B, 1, none⟩ = some (.slice ao gs.length cap)
  fl : FldsAt u ao gs
  bel : Below W.heap.size W u
theorem plB_set {W u : World} {kd : Int} {gs : List Fld} {B base cap : Nat} {ao : Option Addr} {z0 z1 : Value} (hB : W.heap.size ≤ B) (c0 : u.cell? ⟨B, 0, none⟩ = some z0) (c1 : u.cell? ⟨B, 1, none⟩ = some z1)
    (o : u.ownsRow base 60 2 (.slice ao gs.length cap) gs.length (fcells gs)) (hb : B < base) (bel : Below W.heap.size W u) :
    PlB W kd gs B ao cap ((u.setCell ⟨B, 0, none⟩ (.int .i64 kd)).setCell ⟨B, 1, none⟩ (.slice ao gs.length cap)) := by
  have hne : ∀ x, (Value.slice ao gs.length cap).ownBlock = some x → x ≠ B := fun x hx => by have := (o.lt x hx).1; omega
  refine ⟨by simp [go_sem, c0], by simp [go_sem, c1], ?_, (bel.setCell hB _).setCell hB _⟩
  obtain ⟨ao', cap', hv, hf, _⟩ := flds_of_own' (keepSet (keepSet o ⟨B, 0, none⟩ (.int .i64 kd) hne) ⟨B, 1, none⟩ (.slice ao gs.length cap) hne)
  obtain ⟨rfl, _⟩ : ao = ao' ∧ cap = cap' := by simpa using hv
  exact hf
theorem plB_new {W u : World} {kd : Int} {gs : List Fld} {base cap : Nat} {ao : Option Addr} {t : TypeId}
    (o : u.ownsRow base 60 2 (.slice ao gs.length cap) gs.length (fcells gs)) (bel : Below W.heap.size W u) :
    PlB W kd gs u.heap.size ao cap (u.alloc (.cells #[.int .i64 kd, .slice ao gs.length cap] t)) := by
  refine ⟨by simp, by simp, ?_, bel.alloc bel.size _⟩
  obtain ⟨ao', cap', hv, hf, _⟩ := flds_of_own' o
  obtain ⟨rfl, _⟩ : ao = ao' ∧ cap = cap' := by simpa using hv
  exact hf.below (by go_grown)
theorem box2f {w u : World} {x y : Value} {t : TypeId} (b : Below (w.alloc (.cells #[x, y] t)).heap.size (w.alloc (.cells #[x, y] t)) u) :
    u.cell? ⟨w.heap.size, 0, none⟩ = some x ∧ u.cell? ⟨w.heap.size, 1, none⟩ = some y ∧ u.frozen? ⟨w.heap.size, 0, none⟩ = false ∧ u.frozen? ⟨w.heap.size, 1, none⟩ = false ∧ Below w.heap.size w u ∧ w.heap.size < u.heap.size :=
  ⟨(box2 b).1, (box2 b).2.1, (b.frozen (p := ⟨w.heap.size, 0, none⟩) (by simp)).trans (by simp [go_sem]), (b.frozen (p := ⟨w.heap.size, 1, none⟩) (by simp)).trans (by simp [go_sem]), (box2 b).2.2.1, (box2 b).2.2.2⟩
theorem keep4 {w u : World} {B : Nat} {x y : Value} (h : w.cell? ⟨B, 0, none⟩ = some x ∧ w.cell? ⟨B, 1, none⟩ = some y ∧ w.frozen? ⟨B, 0, none⟩ = false ∧ w.frozen? ⟨B, 1, none⟩ = false) (b : Below w.heap.size w u) :
    u.cell? ⟨B, 0, none⟩ = some x ∧ u.cell? ⟨B, 1, none⟩ = some y ∧ u.frozen? ⟨B, 0, none⟩ = false ∧ u.frozen? ⟨B, 1, none⟩ = false :=
  have hb : B < w.heap.size := World.block_lt_of_cell? w _ h.1
  ⟨(b.cell (p := ⟨B, 0, none⟩) hb).trans h.1, (b.cell (p := ⟨B, 1, none⟩) hb).trans h.2.1, (b.frozen (p := ⟨B, 0, none⟩) hb).trans h.2.2.1, (b.frozen (p := ⟨B, 1, none⟩) hb).trans h.2.2.2⟩

theorem dZ (W : World) (o : Obj) : Below W.heap.size W (W.alloc o).drew := ((Below.refl _ _).alloc (Nat.le_refl _) o).drew
theorem bA1 {W u : World} (h : Below W.heap.size W u) (o : Obj) : Below W.heap.size W (u.alloc o) := h.alloc h.size o
theorem drewBox {W u : World} {x y : Value} {t : TypeId} (b : Below (W.alloc (.cells #[x, y] t)).drew.heap.size (W.alloc (.cells #[x, y] t)).drew u) :
    u.cell? ⟨W.heap.size, 0, none⟩ = some x ∧ u.cell? ⟨W.heap.size, 1, none⟩ = some y ∧ u.frozen? ⟨W.heap.size, 0, none⟩ = false ∧ u.frozen? ⟨W.heap.size, 1, none⟩ = false ∧ Below W.heap.size W u ∧ W.heap.size < u.heap.size := by
  obtain ⟨a, b, c, d, e, f⟩ := box2f (((Below.refl _ _).drew).trans b)
  exact ⟨a, b, c, d, e, f⟩

set_option maxHeartbeats 3200000 in
theorem placed_any (kd : Int) (ao : Option Addr) (cap : Nat) (fs : List Fld) (p : Int) (i : Nat) (w : World) (hp : p = (i : Int)) (hg : GoodMV ⟨kd, ao, cap, fs⟩) (hz : FldsAt w ao fs) (hn : fs.length ≤ 1048576) (hd : sumF fs ≤ 1048576) (hi : i < 100000000) (ht : Pow10 w) :
    Calls Tryz.prog 57 #[.agg #[.int .i64 kd, .slice ao fs.length cap], .int .i64 p] w fun e w' => e = .returned (.tuple #[.string ⟨(placedL kd fs i).toArray⟩, .bool (msgOk kd fs)]) ∧ Below w.heap.size w w' := by
  subst hp
  obtain ⟨W, hW⟩ : ∃ W, W = w.alloc (.cells #[.int .i64 kd, .slice ao fs.length cap] 26) := ⟨_, rfl⟩
  have bel : Below w.heap.size w W := by rw [hW]; go_grown
  have k0 : W.cell? ⟨w.heap.size, 0, none⟩ = some (.int .i64 kd) := by rw [hW]; simp
  have k1 : W.cell? ⟨w.heap.size, 1, none⟩ = some (.slice ao fs.length cap) := by rw [hW]; simp
  have HZ : Hid (FldsAt W ao fs) := hz.below bel
  have HT : Hid (Pow10 W) := ht.below bel
  have HB : Hid _ := bel
  have hp8 := place_len i
  have hp9 : (place i).length ≤ 1099511627776 := by omega
  have HWO : Hid (withOk kd fs 71 (place i) = msgOk kd fs) := withOk71 hi
  have HPL : Hid (padT (i : Int) 8 = place i) := rfl
  have HSZ : Hid (w.heap.size < W.heap.size) := by rw [hW, Hid]; simp
  clear hz ht bel
  go_enter Tryz.func57, Tryz.ntmps57
  go_upto_region 1 with fail
  rw [← hW]
  clear hW
  have k0a : ∀ o, (W.alloc o).cell? ⟨w.heap.size, 0, none⟩ = some (.int .i64 kd) := fun o => (World.cell?_alloc_lt _ _ ⟨w.heap.size, 0, none⟩ HSZ.out).trans k0
  have k1a : ∀ o, (W.alloc o).cell? ⟨w.heap.size, 1, none⟩ = some (.slice ao fs.length cap) := fun o => (World.cell?_alloc_lt _ _ ⟨w.heap.size, 1, none⟩ HSZ.out).trans k1
  go_cut [6, 7] (fun v6 v7 wc => ∃ B a3 c3, v6 = .pointer (some ⟨B, 0, none⟩) ∧ v7 = .bool (msgOk kd fs) ∧ PlB W kd (withL kd fs 71 (place i)) B a3 c3 wc)
  case first =>
    go_region_law (first
      | (go_simp; go_at_call 36; refine (iPadNum_any _ _ _ (HT.out.below ((Below.refl _ _).drew))).mono ?_; rintro e w2 ⟨rfl, b2⟩; have q2 : Below W.heap.size W w2 := ((Below.refl _ _).drew).trans b2; rw [HPL.out]; obtain ⟨j0, j1⟩ := keep2 k0 k1 q2; have j0a : ∀ o, (w2.alloc o).cell? ⟨w.heap.size, 0, none⟩ = some (.int .i64 kd) := (fun o => (World.cell?_alloc_lt _ _ ⟨w.heap.size, 0, none⟩ (World.block_lt_of_cell? w2 _ j0)).trans j0); have j1a : ∀ o, (w2.alloc o).cell? ⟨w.heap.size, 1, none⟩ = some (.slice ao fs.length cap) := (fun o => (World.cell?_alloc_lt _ _ ⟨w.heap.size, 1, none⟩ (World.block_lt_of_cell? w2 _ j1)).trans j1); have hk2 : W.heap.size ≤ w2.heap.size := q2.size; clear b2)
      | (go_simp; go_at_call 36; refine (iPadNum_any _ _ _ (HT.out.below (dZ _ _))).mono ?_; rintro e w2 ⟨rfl, b2⟩; have b2' := drewBox b2; obtain ⟨m0, m1, m2, m3, q2, hlt2⟩ := b2'; rw [HPL.out]; obtain ⟨j0, j1⟩ := keep2 k0 k1 q2; have hk2 : W.heap.size ≤ w2.heap.size := q2.size; clear b2)
      | (go_simp; go_at_call 22; refine (iWithG hg (HZ.out.below q2) hn hd hp9).mono ?_; rintro e w3 ⟨a3, c3, rfl, o3, b3⟩; rw [HWO.out]; have q3 := next q2 b3; have HO3 : Hid (w3.ownsRow w2.heap.size 60 2 (.slice a3 (withL kd fs 71 (place i)).length c3) (withL kd fs 71 (place i)).length (fcells (withL kd fs 71 (place i)))) := o3; (first | (have t := keep4 ⟨m0, m1, m2, m3⟩ b3; obtain ⟨n0, n1, n2, n3⟩ := t) | skip); clear b3 o3)
      | (go_simp; go_at_call 22; refine (iWithG hg (HZ.out.below (bA1 q2 _)) hn hd hp9).mono ?_; rintro e w3 ⟨a3, c3, rfl, o3, b3⟩; rw [HWO.out]; obtain ⟨n0, n1, n2, n3, q3', hlt3⟩ := box2f b3; have q3 := next q2 q3'; have HO3 : Hid (w3.ownsRow (w2.heap.size + 1) 60 2 (.slice a3 (withL kd fs 71 (place i)).length c3) (withL kd fs 71 (place i)).length (fcells (withL kd fs 71 (place i)))) := (by rw [Hid]; simpa using o3); clear b3 o3 q3')
      | fail)
    all_goals
      go_wp2_with fail
      go_meet
      first
        | exact ⟨_, _, _, rfl, rfl, plB_new HO3.out q3⟩
        | exact ⟨_, _, _, rfl, rfl, plB_set hk2 n0 n1 HO3.out (Nat.lt_succ_self _) q3⟩
        | exact ⟨_, _, _, rfl, rfl, plB_set (Nat.le_refl _) n0 n1 HO3.out hlt2 q3⟩
  case rest =>
    obtain ⟨B, a3, c3, rfl, rfl, P⟩ := hcut
    obtain ⟨u, hu⟩ : ∃ x, x = wc := ⟨_, rfl⟩
    subst hu
    have HQ : Hid _ := next HB.out P.bel
    cases hm : msgOk kd fs
    · have HN : Hid _ := placedL_no (i := i) hm
      have HM : Hid _ := hm
      clear P hm
      go_wp2
      go_ret2
      exact ⟨str_ok (by rw [HN.out]) HM.out.symm, HQ.out⟩
    · have HY : Hid _ := placedL_yes (i := i) hm
      have hw := withL_yes (withOk71 (kd := kd) (fs := fs) hi ▸ hm)
      have hmw := msgOk_with hm hi
      obtain ⟨hs1, hs2⟩ := small_ok (msgOk_parts hmw).2
      have p0 := P.c0
      have p1 := P.c1
      have pf := P.fl
      have HTu : Hid (Pow10 u) := HT.out.below P.bel
      rw [hw] at p1 pf
      obtain ⟨G, hG⟩ : ∃ G, withF fs 71 (place i) = G := ⟨_, rfl⟩
      rw [hG] at p1 pf hmw hs1 hs2 HY
      have HC : Hid (Calls Tryz.prog 9 #[.agg #[.int .i64 kd, .slice a3 G.length c3]] u fun e w' => e = .returned (.tuple #[.string ⟨(packL kd G).toArray⟩, .bool true]) ∧ Below u.heap.size u w') := by
        have h5 := iPack_any kd a3 c3 G u pf (by omega) (by omega) HTu.out
        rw [hmw] at h5; exact h5
      have HM : Hid _ := hm
      clear hw hmw hm hG pf P
      go_wp2_with fail
      refine HC.out.mono ?_
      rintro e w5 ⟨rfl, b5⟩
      have q5 := next HQ.out b5
      clear b5 HC
      obtain ⟨r, hr⟩ : ∃ r, packL kd G = r := ⟨_, rfl⟩
      rw [hr] at HY ⊢
      clear hr
      go_wp2
      go_ret2
      exact ⟨str_ok (by rw [HY.out]) HM.out.symm, q5⟩

end Go.Proofs.YtbncdhfmhokgeaaGreatDoor
